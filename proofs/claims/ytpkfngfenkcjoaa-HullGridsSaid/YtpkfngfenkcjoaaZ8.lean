/- What the theorem leans on, part 8: Hrg, Hge, Hgf. -/
import Derived.Test.YtpkfngfenkcjoaaZ4
import Derived.Test.YtpkfngfenkcjoaaZ3
import Derived.Test.YtpkfngfenkcjoaaZ7
import Derived.BigRegion

/- The reference's Hull. -/
set_option linter.all false
namespace Go.Proofs.Ytpkfngfenkcjoaa
open Go.RowKit

/-- What the first loop has gathered: the different points so far, in order. -/
def Flat (S : List Hl.P2) (i : Nat) (F : List Hl.P2) : Prop := Hl.Srt F ∧ (∀ q, q ∈ F ↔ q ∈ S.take i) ∧ F.length ≤ i
theorem vC_lt {a p : Hl.P2} : vC a.1 a.2 0 p.1 p.2 0 < 0 ↔ Hl.lt a p := by
  unfold vC Hl.lt
  have c : ∀ u v : Int, cmpI u v = -1 ∧ u < v ∨ cmpI u v = 0 ∧ u = v ∨ cmpI u v = 1 ∧ v < u := fun u v => by unfold cmpI; split <;> (try split) <;> omega
  have c1 := c a.1 p.1
  have c2 := c a.2 p.2
  have c3 := c 0 0
  split
  · omega
  · split
    · omega
    · omega
theorem Flat.insert {S F : List Hl.P2} {i k : Nat} {p : Hl.P2} (h : Flat S i F) (hs : ∃ h : i < S.length, S[i] = p) (ha : k ≤ F.length) (h1 : ∀ j (hj : j < F.length), j < k → Hl.lt F[j] p) (h2 : ∀ (hi : k < F.length), ¬ Hl.lt F[k] p) (h3 : ∀ (hi : k < F.length), F[k] ≠ p) : Flat S (i + 1) (F.take k ++ p :: F.drop k) := by
  obtain ⟨a1, a2, a3⟩ := h
  obtain ⟨hs1, hs2⟩ := hs
  refine ⟨a1.insert ha h1 h2 h3, fun q => ?_, ?_⟩
  · rw [Hl.insert_mem, List.take_succ_eq_append_getElem hs1, List.mem_append, hs2, a2 q, List.mem_singleton, or_comm]
  · simp only [List.length_append, List.length_take, List.length_cons, List.length_drop]
    omega
theorem fl_insert (F : List Hl.P2) (k : Nat) (x y : Int) : fl (F.take k ++ (x, y) :: F.drop k) = (fl F).take k ++ (x, y, 0) :: (fl F).drop k := by simp [fl, List.map_take, List.map_drop]
/-- The corners among the first ones. -/
def Crn (F : List Hl.P2) (j : Nat) (C : List Hl.P2) : Prop := C.Sublist (F.take j) ∧ ∀ q, q ∈ C ↔ q ∈ F.take j ∧ ¬ Hl.cov F q
theorem Crn.nil (F : List Hl.P2) : Crn F 0 [] := ⟨by simp, by simp⟩
theorem Crn.skip {F C : List Hl.P2} {j : Nat} {p : Hl.P2} (h : Crn F j C) (hp : ∃ h : j < F.length, F[j] = p) (hc : Hl.cov F p) : Crn F (j + 1) C := by
  obtain ⟨h1, rfl⟩ := hp
  refine ⟨h.1.trans ?_, fun q => ?_⟩
  · rw [List.take_succ_eq_append_getElem h1]; exact List.sublist_append_left _ _
  · rw [List.take_succ_eq_append_getElem h1, List.mem_append, h.2 q, List.mem_singleton]
    constructor
    · rintro ⟨a, b⟩; exact ⟨.inl a, b⟩
    · rintro ⟨a | rfl, b⟩
      · exact ⟨a, b⟩
      · exact absurd hc b
theorem Crn.take {F C : List Hl.P2} {j : Nat} {p : Hl.P2} (h : Crn F j C) (hp : ∃ h : j < F.length, F[j] = p) (hc : ¬ Hl.cov F p) : Crn F (j + 1) (C ++ [p]) := by
  obtain ⟨h1, rfl⟩ := hp
  refine ⟨?_, fun q => ?_⟩
  · rw [List.take_succ_eq_append_getElem h1]; exact h.1.append (List.Sublist.refl _)
  · rw [List.take_succ_eq_append_getElem h1, List.mem_append, List.mem_append, h.2 q, List.mem_singleton]
    constructor
    · rintro (⟨a, b⟩ | rfl)
      · exact ⟨.inl a, b⟩
      · exact ⟨.inr rfl, hc⟩
    · rintro ⟨a | rfl, b⟩
      · exact .inl ⟨a, b⟩
      · exact .inr rfl
theorem row_ptr {w : World} {B n c : Nat} {p : Option Addr} {F : List Hl.P2} (h : RowV w B (.slice p n c) (fl F)) (h0 : 0 < F.length) : ∃ g, p = some ⟨g, 0, none⟩ := by
  rcases h.2 with ⟨h1, h2⟩ | ⟨g, c', cur, h1, -⟩
  · rw [fl_length] at h2; omega
  · injection h1 with h1 _ _; exact ⟨g, h1⟩
theorem row_cells {w : World} {B g n c : Nat} {F : List Hl.P2} (h : RowV w B (.slice (some ⟨g, 0, none⟩) n c) (fl F)) : n = F.length ∧ n ≤ c ∧ c ≤ 9223372036854775807 ∧ ∀ k (hk : k < F.length), w.cell? ⟨g, k * 3, none⟩ = some (.int .i64 F[k].1) ∧ w.cell? ⟨g, k * 3 + 1, none⟩ = some (.int .i64 F[k].2) ∧ w.cell? ⟨g, k * 3 + 2, none⟩ = some (.int .i64 0) := by
  obtain ⟨pq, bq, oq, cq, hq1, hq2, hq3, hq4, hq5⟩ := h.rv
  injection hq1 with z1 z2 z3
  rw [fl_length] at z2 hq2
  refine ⟨z2, by omega, by unfold maxLen at hq3; omega, fun k hk => ?_⟩
  have hq6 := hq4 (by rw [fl_length]; omega)
  rw [← z1] at hq6
  injection hq6 with hq6
  injection hq6 with y1 y2 y3
  subst y1 y2
  have h7 := hq5 k (by rw [fl_length]; exact hk)
  rw [fl_get F k hk] at h7
  simp only [Nat.zero_add] at h7
  exact h7
def lnOf : Value → Nat
  | .slice _ n _ => n
  | _ => 0
theorem fl_snoc (F : List Hl.P2) (p : Hl.P2) : fl (F ++ [p]) = fl F ++ [(p.1, p.2, 0)] := by simp [fl]

set_option maxRecDepth 100000 in
set_option maxHeartbeats 8000000 in
theorem refHull_walk (L : List T3) (v : Value) (w : World) (S H : List Hl.P2) (hS : S = L.map fun a => (a.1, a.2.1)) (hH : Hl.IsH S H) (hl : Rv w v L) (hlen : L.length ≤ 500000) (hb : ∀ a ∈ S, inV 16777216 a.1 a.2 0 = true) :
    Calls Try.prog 27 #[v] w (fun e w' => ∃ vo, e = .returned vo ∧ RowV w' w.heap.size vo (fl H) ∧ Below w.heap.size w w') := by
  obtain ⟨p, b, off, cap, rfl, q2, q3, q4, q5⟩ := hl
  have H4 := Lib.hid q4
  have H5 := Lib.hid q5
  have hSl : S.length = L.length := by rw [hS]; simp
  have HS : Hid (∀ k (hk : k < L.length) (hk2 : k < S.length), S[k] = (L[k].1, L[k].2.1)) := fun k hk hk2 => by subst hS; simp
  have HB := Lib.hid hb
  have HH := Lib.hid hH
  clear q2 q3 q4 q5 hb hH hS
  obtain ⟨n, hn⟩ : ∃ n, n = L.length := ⟨_, rfl⟩
  rw [← hn] at hlen ⊢
  have hSn : S.length = n := by omega
  have HN := Lib.hid hn
  have HSN := Lib.hid hSn
  clear hn hSl hSn
  obtain ⟨B, hB⟩ : ∃ B, B = w.heap.size := ⟨_, rfl⟩
  have HB0 := Lib.hid hB
  rw [← hB]
  clear hB
  go_enter Try.func27, Try.ntmps27
  go_wp2
  go_loopw [3, 4, 5, 6, 7] (fun fv iv _ _ _ wr => ∃ (wz : World) (i : Nat) (F : List Hl.P2), wz = wr ∧ i ≤ n ∧ iv = .int .i64 (i : Int) ∧ Hid (RowV wz B fv (fl F)) ∧ Hid (Flat S i F) ∧ Hid (F = [] → fv = .slice none 0 0) ∧ Hid (Below B w wz))
    (fun _ iv _ _ _ _ => n - (intOf iv).toNat)
  case atStart => exact ⟨w, 0, [], rfl, Nat.zero_le _, rfl, RowV.nil _ _, ⟨List.Pairwise.nil, by simp, Nat.le_refl _⟩, fun _ => rfl, Below.refl _ _⟩
  case round =>
    obtain ⟨wz, i, F, rfl, hi, rfl, HR, HF, HE, E⟩ := hrel
    by_cases hlt : i < n
    · have hil : i < L.length := by have h5 : n = L.length := HN.out; omega
      obtain ⟨x, y, z, hL⟩ : ∃ x y z, L[i] = (x, y, z) := ⟨_, _, _, rfl⟩
      obtain rfl := H4.out (by omega)
      have Eb : Below w.heap.size w wz := by rw [← HB0.out]; exact E.out
      have g0 := H5.out i hil
      rw [hL] at g0
      have hbl : b < w.heap.size := World.block_lt_of_cell? w _ g0.1
      have c0 : wz.cell? ⟨b, off + i * 3, none⟩ = some (.int .i64 x) := keep1 Eb g0.1
      have c1 : wz.cell? ⟨b, off + i * 3 + 1, none⟩ = some (.int .i64 y) := keep1 Eb g0.2.1
      have d0 : ∀ o, (wz.alloc o).cell? ⟨b, off + i * 3, none⟩ = some (.int .i64 x) := fun o => keep1 (below_one _ _) c0
      have d1 : ∀ o, (wz.alloc o).cell? ⟨b, off + i * 3 + 1, none⟩ = some (.int .i64 y) := fun o => keep1 (below_one _ _) c1
      have hSi : Hid (∃ h : i < S.length, S[i] = (x, y)) := ⟨by have := HSN.out; omega, by rw [HS.out i hil (by have := HSN.out; omega), hL]⟩
      have hi0 : (0 : Int) ≤ (i : Int) := by omega
      have hi1 : (i : Int) < (n : Int) := by omega
      clear g0 hil hL Eb hbl
      go_upto_region 5 with (fail)
      go_region
      obtain ⟨w1, hw1⟩ : ∃ w1 : World, w1 = (wz.alloc (.cells #[.int .i64 x, .int .i64 y, .int .i64 0] 24)).drew := ⟨_, rfl⟩
      have b1 : Below wz.heap.size wz w1 := by rw [hw1]; exact (below_one _ _).drew
      have V5 : Hid (V3 w1 wz.heap.size x y 0) := by
        have h3 : V3 (wz.alloc (.cells #[.int .i64 x, .int .i64 y, .int .i64 0] 24)) wz.heap.size x y 0 := ⟨by simp [go_sem], by simp [go_sem], by simp [go_sem]⟩
        rw [hw1]
        exact h3
      rw [← hw1]
      clear hw1 c0 c1 d0 d1
      have hB5 : B ≤ wz.heap.size := by have := E.out.size; have h6 : B = w.heap.size := HB0.out; omega
      have HR := Lib.hid (HR.out.below b1)
      have E : Hid (Below B w w1) := by have := E.out; exact this.trans (b1.mono (by have := E.out.size; have := HB0.out; omega))
      obtain ⟨g5, hg5⟩ : ∃ g, g = wz.heap.size := ⟨_, rfl⟩
      rw [← hg5] at V5 hB5 ⊢
      have HB5 := Lib.hid hB5
      clear b1 hg5 hB5
      obtain ⟨pf, cf, hfv⟩ := HR.out.len
      rw [fl_length] at hfv
      subst hfv
      obtain ⟨m, hm⟩ : ∃ m, m = F.length := ⟨_, rfl⟩
      have HM := Lib.hid hm
      rw [← hm] at HR HE ⊢
      clear hm
      have hmn : m ≤ n := by have := HF.out.2.2; have := HM.out; omega
      go_wp2
      go_loopw [6] (fun av wr => ∃ (wq : World) (k : Nat), wq = wr ∧ k ≤ m ∧ av = .int .i64 (k : Int) ∧ Hid (∀ j (hj : j < F.length), j < k → Hl.lt F[j] (x, y)) ∧ Hid (RowV wq B (.slice pf m cf) (fl F)) ∧ Hid (V3 wq g5 x y 0) ∧ Hid (Below B w wq))
        (fun av _ => m - (intOf av).toNat)
      case atStart => exact ⟨w1, 0, rfl, Nat.zero_le _, rfl, fun _ _ h => absurd h (Nat.not_lt_zero _), HR, V5, E⟩
      case round =>
        clear HR V5 E
        obtain ⟨wq, k, rfl, hk, rfl, HL, HR, V5, E⟩ := hrel
        rcases Nat.lt_or_ge k m with hlk | hlk
        · have hkF : k < F.length := by have h5 : m = F.length := HM.out; omega
          obtain ⟨u, t, hFk⟩ : ∃ u t, F[k] = (u, t) := ⟨_, _, rfl⟩
          obtain ⟨g, hpf⟩ : ∃ g, pf = some ⟨g, 0, none⟩ := by
            rcases HR.out.2 with ⟨h1, h2⟩ | ⟨g, c, cur, h1, -⟩
            · rw [fl_length] at h2; omega
            · injection h1 with h1 _ _; exact ⟨g, h1⟩
          subst hpf
          have hc := HR.out.rv
          obtain ⟨pq, bq, oq, cq, hq1, hq2, hq3, hq4, hq5⟩ := hc
          injection hq1 with z1 z2 z3
          have hq6 := hq4 (by rw [fl_length]; omega)
          rw [← z1] at hq6
          injection hq6 with hq6
          injection hq6 with y1 y2 y3
          subst y1 y2
          obtain ⟨f0, f1, f2⟩ := hq5 k (by rw [fl_length]; exact hkF)
          rw [fl_get F k hkF, hFk] at f0 f1 f2
          simp only [Nat.zero_add] at f0 f1 f2
          have hcf : m ≤ cf := by rw [fl_length] at hq2; have := HM.out; omega
          have hcf2 : cf ≤ 9223372036854775807 := by unfold maxLen at hq3; omega
          clear hq2 hq3 hq4 hq5
          try clear z1
          try clear z2
          try clear z3
          have hk0 : (0 : Int) ≤ (k : Int) := by omega
          have hk1 : (k : Int) < (m : Int) := by omega
          have HC := Lib.hid (fun w => rCompare_any (x1 := u) (x2 := t) (x3 := 0) (y1 := x) (y2 := y) (y3 := 0) w)
          have HV := Lib.hid (vC_lt (a := (u, t)) (p := (x, y)))
          obtain ⟨c, hc⟩ : ∃ c, c = vC u t 0 x y 0 := ⟨_, rfl⟩
          simp only at HV
          rw [← hc] at HC HV
          clear hc
          obtain ⟨e0, e1, e2⟩ := V5.out
          have E0 := Lib.hid (Below.refl wq.heap.size wq)
          by_cases hcl : c < 0
          · have HL2 : Hid (∀ j (hj : j < F.length), j < k + 1 → Hl.lt F[j] (x, y)) := by
              intro j hj hjk
              rcases Nat.lt_or_ge j k with g | g
              · exact HL.out j hj g
              · obtain rfl : j = k := by omega
                rw [hFk]; exact HV.out.1 hcl
            clear HL HV hFk hkF
            go_upto_region 7 with (fail)
            go_region_held3 (fun W' => W'.cell? ⟨g, k * 3, none⟩ = some (.int .i64 u) ∧ W'.cell? ⟨g, k * 3 + 1, none⟩ = some (.int .i64 t) ∧ W'.cell? ⟨g, k * 3 + 2, none⟩ = some (.int .i64 0) ∧ W'.cell? ⟨g5, 0, none⟩ = some (.int .i64 x) ∧ W'.cell? ⟨g5, 1, none⟩ = some (.int .i64 y) ∧ W'.cell? ⟨g5, 2, none⟩ = some (.int .i64 0)) (go_keep)
              (first
                | (go_at_call 51; (with_reducible refine (HC.out _).mono ?_); rintro e y9 ⟨rfl, b9⟩; (try (have b9 := undrew b9)); have f0 := keep1 b9 f0; have f1 := keep1 b9 f1; have f2 := keep1 b9 f2; have e0 := keep1 b9 e0; have e1 := keep1 b9 e1; have e2 := keep1 b9 e2; have B9 := Lib.hid b9)
                | fail)
            have HR := Lib.hid (HR.out.below B9.out)
            have V5 := Lib.hid (V5.out.below B9.out)
            have E : Hid (Below B w y9) := E.out.trans (B9.out.mono (by have := E.out.size; have h6 : B = w.heap.size := HB0.out; omega))
            go_wp2
            go_roundw
            case rel => exact ⟨_, k + 1, rfl, by omega, by go_num, HL2.out, HR.out, V5.out, E.out⟩
            case measure => simp [intOf]; omega
          · have HN2 : Hid (¬ Hl.lt F[k] (x, y)) := by
              show ¬ _
              rw [hFk]; exact fun h => hcl (HV.out.2 h)
            clear HV
            go_upto_region 7 with (fail)
            go_region_held3 (fun W' => W'.cell? ⟨g, k * 3, none⟩ = some (.int .i64 u) ∧ W'.cell? ⟨g, k * 3 + 1, none⟩ = some (.int .i64 t) ∧ W'.cell? ⟨g, k * 3 + 2, none⟩ = some (.int .i64 0) ∧ W'.cell? ⟨g5, 0, none⟩ = some (.int .i64 x) ∧ W'.cell? ⟨g5, 1, none⟩ = some (.int .i64 y) ∧ W'.cell? ⟨g5, 2, none⟩ = some (.int .i64 0)) (go_keep)
              (first
                | (go_at_call 51; (with_reducible refine (HC.out _).mono ?_); rintro e y9 ⟨rfl, b9⟩; (try (have b9 := undrew b9)); have f0 := keep1 b9 f0; have f1 := keep1 b9 f1; have f2 := keep1 b9 f2; have e0 := keep1 b9 e0; have e1 := keep1 b9 e1; have e2 := keep1 b9 e2; have B9 := Lib.hid b9)
                | fail)
            have HR := Lib.hid (HR.out.below B9.out)
            have V5 := Lib.hid (V5.out.below B9.out)
            have E : Hid (Below B w y9) := E.out.trans (B9.out.mono (by have := E.out.size; have h6 : B = w.heap.size := HB0.out; omega))
            clear e0 e1 e2
            obtain ⟨e0, e1, e2⟩ := V5.out
            by_cases hq : vE u t 0 x y 0 = true
            · have qE : ∀ w, (binOp .eql 24 (.agg #[.int .i64 u, .int .i64 t, .int .i64 0]) (.agg #[.int .i64 x, .int .i64 y, .int .i64 0])).run Try.prog w = .ok (.bool true) w := fun w => by have := eq_vec w u t 0 x y 0; rw [hq] at this; exact this
              have HF2 : Hid (Flat S (i + 1) F) := by
                obtain ⟨h1, h2, h3⟩ := HF.out
                refine ⟨h1, fun q => ?_, by omega⟩
                obtain ⟨hs1, hs2⟩ := hSi.out
                rw [List.take_succ_eq_append_getElem hs1, List.mem_append, hs2, h2 q]
                constructor
                · exact .inl
                · rintro (h | h)
                  · exact h
                  · obtain rfl : q = (x, y) := by simpa using h
                    obtain ⟨r1, r2, -⟩ := vE_iff.1 hq
                    rw [← h2]
                    have := List.getElem_mem hkF
                    rw [hFk] at this
                    rwa [r1, r2] at this
              clear hq hFk
              go_upto_region 9 with (fail)
              go_quiet (fail)
              go_wp2
              go_roundw
              case rel => exact ⟨_, i + 1, F, rfl, by omega, by go_num, (by first | exact HR.out | exact HR.out.below (below_drewN (Below.refl _ _) _)), HF2.out, HE.out, (by first | exact E.out | exact below_drewN E.out _)⟩
              case measure => simp [intOf]; omega
            · rw [Bool.not_eq_true] at hq
              have qE : ∀ w, (binOp .eql 24 (.agg #[.int .i64 u, .int .i64 t, .int .i64 0]) (.agg #[.int .i64 x, .int .i64 y, .int .i64 0])).run Try.prog w = .ok (.bool false) w := fun w => by have := eq_vec w u t 0 x y 0; rw [hq] at this; exact this
              have hne : Hid (F[k] ≠ (x, y)) := by
                show _ ≠ _
                rw [hFk]
                intro e
                cases e
                rw [vE_refl] at hq
                cases hq
              clear hq
              go_upto_region 9 with (fail)
              go_quiet (fail)
              obtain ⟨w2, hw2⟩ : ∃ w2 : World, w2 = y9.drewN nq := ⟨_, rfl⟩
              have b2 : Below y9.heap.size y9 w2 := by rw [hw2]; exact below_drewN (Below.refl _ _) _
              rw [← hw2]
              clear hw2
              have HR := Lib.hid (HR.out.below b2)
              have V5 := Lib.hid (V5.out.below b2)
              have E : Hid (Below B w w2) := E.out.trans (b2.mono (by have := E.out.size; have h6 : B = w.heap.size := HB0.out; omega))
              have hB2 : B ≤ w2.heap.size := by have := E.out.size; have h6 : B = w.heap.size := HB0.out; omega
              have HB2 := Lib.hid hB2
              have hgl : g < w2.heap.size := World.block_lt_of_cell? w2 _ (keep1 b2 f0)
              have hfl : (fl F).length = m := by rw [fl_length]; exact HM.out.symm
              have HFL := Lib.hid hfl
              clear b2 f0 f1 f2 hB2 hfl
              obtain ⟨e0, e1, e2⟩ := V5.out
              go_upto_region 10 with (fail)
              have hcf3 : ¬ cf = k := by omega
              have hcf4 : ¬ cf - k = 0 := by omega
              have hkc : k ≤ cf := by omega
              have hkm : k ≤ m := by omega
              have hki : (k : Int) ≤ (m : Int) := by omega
              have hkci : (k : Int) ≤ (cf : Int) := by omega
              have hmci : (m : Int) ≤ (cf : Int) := by omega
              have HA : Hid (RowV ((w2.alloc (.cells #[.int .i64 x, .int .i64 y, .int .i64 0] 24)).drew) w2.heap.size (.slice (some ⟨w2.heap.size, 0, none⟩) 1 1) [(x, y, 0)]) := (RowV.made w2 w2.heap.size x y 0 (Nat.le_refl _)).below ((Below.refl _ _).drew)
              have HD : Hid (Rv ((w2.alloc (.cells #[.int .i64 x, .int .i64 y, .int .i64 0] 24)).drew) (.slice (some ⟨g, k * 3, none⟩) (m - k) (cf - k)) ((fl F).drop k)) := by
                have h5 := ((HR.out.below ((below_one _ (.cells #[.int .i64 x, .int .i64 y, .int .i64 0] 24)).drew)).rv).drop hkm
                rw [Nat.zero_add] at h5
                exact h5
              have HLD : Hid (((fl F).drop k).length = m - k) := by
                have h5 := HFL.out
                show _ = _
                rw [List.length_drop, h5]
              have HNE : Hid ((fl F).drop k = [] → Value.slice (some ⟨g, k * 3, none⟩) (m - k) (cf - k) = .slice none 0 0 ∨ ∃ ad c, Value.slice (some ⟨g, k * 3, none⟩) (m - k) (cf - k) = .slice (some ad) 0 c) := fun h0 => .inr ⟨_, _, by have h6 := HLD.out; rw [h0] at h6; rw [show m - k = 0 from h6.symm]⟩
              have HRA := Lib.hid (HR.out.below ((below_one _ (.cells #[.int .i64 x, .int .i64 y, .int .i64 0] 24)).drew))
              have HVA := Lib.hid (V5.out.below ((below_one _ (.cells #[.int .i64 x, .int .i64 y, .int .i64 0] 24)).drew))
              have HEA : Hid (Below B w ((w2.alloc (.cells #[.int .i64 x, .int .i64 y, .int .i64 0] 24)).drew)) := E.out.trans (((below_one _ (.cells #[.int .i64 x, .int .i64 y, .int .i64 0] 24)).drew).mono HB2.out)
              have hs2 : Hid (w2.heap.size ≤ ((w2.alloc (.cells #[.int .i64 x, .int .i64 y, .int .i64 0] 24)).drew).heap.size) := ((below_one w2 (.cells #[.int .i64 x, .int .i64 y, .int .i64 0] 24)).drew).size
              have hg2 : Hid (g ≠ w2.heap.size) := Nat.ne_of_lt hgl
              have hg52 : Hid (g5 ≠ w2.heap.size) := Nat.ne_of_lt (World.block_lt_of_cell? w2 _ V5.out.1)
              have HMN := Lib.hid hmn
              have HNL := Lib.hid hlen
              have HKM := Lib.hid hkm
              go_region_held3 (fun W' => W'.cell? ⟨g5, 0, none⟩ = some (.int .i64 x) ∧ W'.cell? ⟨g5, 1, none⟩ = some (.int .i64 y) ∧ W'.cell? ⟨g5, 2, none⟩ = some (.int .i64 0)) (go_keep)
                (first
                  | (rw [if_pos (by rfl)]; go_loud (refine wp_append_V rfl _ _ rfl rfl rfl HA.out HD.out (by show 1 ≤ 1000000; decide) (by rw [HLD.out]; have := HMN.out; have := HNL.out; omega) hs2.out HNE.out ?_); intro v' w1 hrow1 hg1; have p3 := HVA.out.grown hg1 (fun e => hg52.out (Option.some.inj (show some w2.heap.size = some g5 from e)).symm); obtain ⟨p0, p1, p2⟩ := p3; have HN1 := Lib.hid hrow1; have HG1 := Lib.hid hg1; clear hrow1 hg1)
                  | fail)
              have HR1 := Lib.hid (HRA.out.grown HG1.out (fun r e h => hg2.out (by have h1 := Option.some.inj (show some w2.heap.size = some r from e); have h2 := Option.some.inj (show some g = some r from h); omega)))
              have HE1 := Lib.hid (HEA.out.grown HG1.out (by have := hs2.out; have := HB2.out; omega) (fun r e => by have h1 := Option.some.inj (show some w2.heap.size = some r from e); have := HB2.out; omega))
              have HB1 : Hid (B ≤ w1.heap.size) := by have h1 := HG1.out.size; have h2 := hs2.out; have h3 := HB2.out; show _ ≤ _; omega
              have HT1 : Hid (Rv w1 (.slice (some ⟨g, 0, none⟩) k cf) ((fl F).take k)) := HR1.out.rv.take HKM.out
              have HLT : Hid (((fl F).take k).length = k) := by
                have h5 := HFL.out
                have h6 := HKM.out
                show _ = _
                rw [List.length_take, h5]
                omega
              have HNE1 : Hid ((fl F).take k = [] → Value.slice (some ⟨g, 0, none⟩) k cf = .slice none 0 0 ∨ ∃ ad c, Value.slice (some ⟨g, 0, none⟩) k cf = .slice (some ad) 0 c) := fun h0 => .inr ⟨_, _, by have h6 := HLT.out; rw [h0] at h6; rw [show k = 0 from h6.symm]⟩
              clear HA HD HRA HVA HEA HR V5 E hs2 hg2 hg52 HG1
              go_wp2_with (first
                | (at_builtin; (refine wpList_append_V rfl rfl _ _ rfl rfl rfl (RowV.nil w1 w1.heap.size) HT1.out (by show 0 ≤ 1000000; decide) (by rw [HLT.out]; have := HKM.out; have := HMN.out; have := HNL.out; omega) (Nat.le_refl _) HNE1.out ?_); intro v2 w3 hrow2 hg3; have HNB := Lib.hid hrow2; have HG3 := Lib.hid hg3; have HN12 := Lib.hid (HN1.out.grown hg3 (fun r e => absurd (show (none : Option Nat) = some r from e) (by simp))); have HE3 := Lib.hid (HE1.out.grown hg3 HB1.out (fun r e => absurd (show (none : Option Nat) = some r from e) (by simp))); clear hrow2 hg3)
                | (at_builtin; go_loud (refine wpList_append_V rfl rfl _ _ rfl rfl rfl HNB.out HN12.out.rv (by rw [List.nil_append, HLT.out]; have := HKM.out; have := HMN.out; have := HNL.out; omega) (by rw [List.length_append, HLD.out]; have := HMN.out; have := HNL.out; show 1 + (m - k) ≤ _; omega) HG3.out.size (fun h => by cases h) ?_); intro v4 w4 hrow4 hg4; (have HN4 := Lib.hid hrow4); (have HE4 := Lib.hid (Below.grown_row HE3.out (Nat.le_trans HB1.out HG3.out.size) (HNB.out.lower HB1.out) hg4)); (clear hrow4 hg4)))
              have HF2 : Hid (Flat S (i + 1) (F.take k ++ (x, y) :: F.drop k)) := HF.out.insert hSi.out (by have h5 : m = F.length := HM.out; have h6 : k ≤ m := HKM.out; omega) HL.out (fun _ => HN2.out) (fun _ => hne.out)
              have HR4 : Hid (RowV w4 B v4 (fl (F.take k ++ (x, y) :: F.drop k))) := by
                rw [fl_insert]
                exact HN4.out.lower HB1.out
              go_roundw
              case rel => exact ⟨_, i + 1, _, rfl, by omega, by go_num, HR4.out, HF2.out, fun h => absurd h (by simp), HE4.out⟩
              case measure => simp [intOf]; omega
        · obtain rfl : k = m := by omega
          have hk3 : ¬ (k : Int) < (k : Int) := by omega
          have hkk : (decide ((k : Int) < (k : Int))) = false := by simp
          go_upto_region 7 with (fail)
          go_quiet (fail)
          obtain ⟨w8, hw8⟩ : ∃ w8 : World, w8 = wq.drewN nq := ⟨_, rfl⟩
          have b8 : Below wq.heap.size wq w8 := by rw [hw8]; exact below_drewN (Below.refl _ _) _
          rw [← hw8]
          clear hw8
          have HR := Lib.hid (HR.out.below b8)
          have V5 := Lib.hid (V5.out.below b8)
          have E : Hid (Below B w w8) := E.out.trans (b8.mono (by have := E.out.size; have h6 : B = w.heap.size := HB0.out; omega))
          clear b8
          go_upto_region 9 with (fail)
          go_quiet (fail)
          obtain ⟨w2, hw2⟩ : ∃ w2 : World, w2 = w8.drewN nq := ⟨_, rfl⟩
          have b2 : Below w8.heap.size w8 w2 := by rw [hw2]; exact below_drewN (Below.refl _ _) _
          rw [← hw2]
          clear hw2
          have HR := Lib.hid (HR.out.below b2)
          have V5 := Lib.hid (V5.out.below b2)
          have E : Hid (Below B w w2) := E.out.trans (b2.mono (by have := E.out.size; have h6 : B = w.heap.size := HB0.out; omega))
          have hB2 : B ≤ w2.heap.size := by have := E.out.size; have h6 : B = w.heap.size := HB0.out; omega
          have HB2 := Lib.hid hB2
          have hfl : (fl F).length = k := by rw [fl_length]; exact HM.out.symm
          have HFL := Lib.hid hfl
          clear b2 hB2 hfl
          obtain ⟨e0, e1, e2⟩ := V5.out
          have hkm : k ≤ k := Nat.le_refl _
          have HFK : Hid (k = F.length) := HM.out
          rcases HR.out.2 with ⟨h1, -⟩ | ⟨g, c, cur, h1, hgB, hg, hn, hmx, -⟩
          · injection h1 with h1 h2 h3
            subst h1 h2 h3
            go_upto_region 10 with (fail)
            have HA : Hid (RowV ((w2.alloc (.cells #[.int .i64 x, .int .i64 y, .int .i64 0] 24)).drew) w2.heap.size (.slice (some ⟨w2.heap.size, 0, none⟩) 1 1) [(x, y, 0)]) := (RowV.made w2 w2.heap.size x y 0 (Nat.le_refl _)).below ((Below.refl _ _).drew)
            have HD : Hid (Rv ((w2.alloc (.cells #[.int .i64 x, .int .i64 y, .int .i64 0] 24)).drew) (.slice none 0 0) ((fl F).drop 0)) := by
              exact (HR.out.below ((below_one _ (.cells #[.int .i64 x, .int .i64 y, .int .i64 0] 24)).drew)).rv
            have HLD : Hid (((fl F).drop 0).length = 0 - 0) := by
              have h5 := HFL.out
              show _ = _
              rw [List.length_drop, h5]
            have HNE : Hid ((fl F).drop 0 = [] → Value.slice none 0 0 = .slice none 0 0 ∨ ∃ ad c, Value.slice none 0 0 = .slice (some ad) 0 c) := fun _ => .inl rfl
            have HRA := Lib.hid (HR.out.below ((below_one _ (.cells #[.int .i64 x, .int .i64 y, .int .i64 0] 24)).drew))
            have HVA := Lib.hid (V5.out.below ((below_one _ (.cells #[.int .i64 x, .int .i64 y, .int .i64 0] 24)).drew))
            have HEA : Hid (Below B w ((w2.alloc (.cells #[.int .i64 x, .int .i64 y, .int .i64 0] 24)).drew)) := E.out.trans (((below_one _ (.cells #[.int .i64 x, .int .i64 y, .int .i64 0] 24)).drew).mono HB2.out)
            have hs2 : Hid (w2.heap.size ≤ ((w2.alloc (.cells #[.int .i64 x, .int .i64 y, .int .i64 0] 24)).drew).heap.size) := ((below_one w2 (.cells #[.int .i64 x, .int .i64 y, .int .i64 0] 24)).drew).size
            have hg52 : Hid (g5 ≠ w2.heap.size) := Nat.ne_of_lt (World.block_lt_of_cell? w2 _ V5.out.1)
            have HMN := Lib.hid hmn
            have HNL := Lib.hid hlen
            have HKM := Lib.hid hkm
            go_region_held3 (fun W' => W'.cell? ⟨g5, 0, none⟩ = some (.int .i64 x) ∧ W'.cell? ⟨g5, 1, none⟩ = some (.int .i64 y) ∧ W'.cell? ⟨g5, 2, none⟩ = some (.int .i64 0)) (go_keep)
              (first
                | (rw [if_pos (by rfl)]; go_loud (refine wp_append_V rfl _ _ rfl rfl rfl HA.out HD.out (by show 1 ≤ 1000000; decide) (by rw [HLD.out]; have := HMN.out; have := HNL.out; omega) hs2.out HNE.out ?_); intro v' w1 hrow1 hg1; have p3 := HVA.out.grown hg1 (fun e => hg52.out (Option.some.inj (show some w2.heap.size = some g5 from e)).symm); obtain ⟨p0, p1, p2⟩ := p3; have HN1 := Lib.hid hrow1; have HG1 := Lib.hid hg1; clear hrow1 hg1)
                | fail)
            have HR1 := Lib.hid (HRA.out.grown HG1.out (fun r e h => absurd (show (none : Option Nat) = some r from h) (by simp)))
            have HE1 := Lib.hid (HEA.out.grown HG1.out (by have := hs2.out; have := HB2.out; omega) (fun r e => by have h1 := Option.some.inj (show some w2.heap.size = some r from e); have := HB2.out; omega))
            have HB1 : Hid (B ≤ w1.heap.size) := by have h1 := HG1.out.size; have h2 := hs2.out; have h3 := HB2.out; show _ ≤ _; omega
            have HT1 : Hid (Rv w1 (.slice none 0 0) ((fl F).take 0)) := HR1.out.rv.take HKM.out
            have HLT : Hid (((fl F).take 0).length = 0) := by
              have h5 := HFL.out
              have h6 := HKM.out
              show _ = _
              rw [List.length_take, h5]
              omega
            have HNE1 : Hid ((fl F).take 0 = [] → Value.slice none 0 0 = .slice none 0 0 ∨ ∃ ad c, Value.slice none 0 0 = .slice (some ad) 0 c) := fun _ => .inl rfl
            clear HA HD HRA HVA HEA HR V5 E hs2 hg52 HG1
            go_wp2_with (first
              | (at_builtin; (refine wpList_append_V rfl rfl _ _ rfl rfl rfl (RowV.nil w1 w1.heap.size) HT1.out (by show 0 ≤ 1000000; decide) (by rw [HLT.out]; have := HKM.out; have := HMN.out; have := HNL.out; omega) (Nat.le_refl _) HNE1.out ?_); intro v2 w3 hrow2 hg3; have HNB := Lib.hid hrow2; have HG3 := Lib.hid hg3; have HN12 := Lib.hid (HN1.out.grown hg3 (fun r e => absurd (show (none : Option Nat) = some r from e) (by simp))); have HE3 := Lib.hid (HE1.out.grown hg3 HB1.out (fun r e => absurd (show (none : Option Nat) = some r from e) (by simp))); clear hrow2 hg3)
              | (at_builtin; go_loud (refine wpList_append_V rfl rfl _ _ rfl rfl rfl HNB.out HN12.out.rv (by rw [List.nil_append, HLT.out]; have := HKM.out; have := HMN.out; have := HNL.out; omega) (by rw [List.length_append, HLD.out]; have := HMN.out; have := HNL.out; show 1 + (0 - 0) ≤ _; omega) HG3.out.size (fun h => by cases h) ?_); intro v4 w4 hrow4 hg4; (have HN4 := Lib.hid hrow4); (have HE4 := Lib.hid (Below.grown_row HE3.out (Nat.le_trans HB1.out HG3.out.size) (HNB.out.lower HB1.out) hg4)); (clear hrow4 hg4)))
            have HF2 : Hid (Flat S (i + 1) (F.take 0 ++ (x, y) :: F.drop 0)) := HF.out.insert hSi.out (by have h5 : 0 = F.length := HM.out; have h6 : 0 ≤ 0 := HKM.out; omega) HL.out (fun hi => absurd hi (by have h5 : 0 = F.length := HFK.out; omega)) (fun hi => absurd hi (by have h5 : 0 = F.length := HFK.out; omega))
            have HR4 : Hid (RowV w4 B v4 (fl (F.take 0 ++ (x, y) :: F.drop 0))) := by
              rw [fl_insert]
              exact HN4.out.lower HB1.out
            go_roundw
            case rel => exact ⟨_, i + 1, _, rfl, by omega, by go_num, HR4.out, HF2.out, fun h => absurd h (by simp), HE4.out⟩
            case measure => simp [intOf]; omega
          · injection h1 with h1 h2 h3
            subst h1 h3
            have hgl : g < w2.heap.size := lt_of_block hg
            have hkcf : k ≤ cf := by rw [fl_length] at hn; have h5 : k = F.length := HM.out; omega
            have hcf2 : cf ≤ 9223372036854775807 := by unfold maxLen at hmx; omega
            clear hn hmx hg hgB h2
            go_upto_region 10 with (fail)
            by_cases hck : cf = k
            · have hck := hck.symm
              subst hck
              have HA : Hid (RowV ((w2.alloc (.cells #[.int .i64 x, .int .i64 y, .int .i64 0] 24)).drew) w2.heap.size (.slice (some ⟨w2.heap.size, 0, none⟩) 1 1) [(x, y, 0)]) := (RowV.made w2 w2.heap.size x y 0 (Nat.le_refl _)).below ((Below.refl _ _).drew)
              have HD : Hid (Rv ((w2.alloc (.cells #[.int .i64 x, .int .i64 y, .int .i64 0] 24)).drew) (.slice (some ⟨g, 0, none⟩) 0 0) ((fl F).drop k)) := by
                rw [List.drop_eq_nil_of_le (Nat.le_of_eq HFL.out)]
                exact ⟨some ⟨g, 0, none⟩, g, 0, 0, rfl, Nat.le_refl _, by decide, fun _ => rfl, fun j hj => absurd hj (by simp)⟩
              have HLD : Hid (((fl F).drop k).length = k - k) := by
                have h5 := HFL.out
                show _ = _
                rw [List.length_drop, h5]
              have HNE : Hid ((fl F).drop k = [] → Value.slice (some ⟨g, 0, none⟩) 0 0 = .slice none 0 0 ∨ ∃ ad c, Value.slice (some ⟨g, 0, none⟩) 0 0 = .slice (some ad) 0 c) := fun _ => .inr ⟨_, _, rfl⟩
              have HRA := Lib.hid (HR.out.below ((below_one _ (.cells #[.int .i64 x, .int .i64 y, .int .i64 0] 24)).drew))
              have HVA := Lib.hid (V5.out.below ((below_one _ (.cells #[.int .i64 x, .int .i64 y, .int .i64 0] 24)).drew))
              have HEA : Hid (Below B w ((w2.alloc (.cells #[.int .i64 x, .int .i64 y, .int .i64 0] 24)).drew)) := E.out.trans (((below_one _ (.cells #[.int .i64 x, .int .i64 y, .int .i64 0] 24)).drew).mono HB2.out)
              have hs2 : Hid (w2.heap.size ≤ ((w2.alloc (.cells #[.int .i64 x, .int .i64 y, .int .i64 0] 24)).drew).heap.size) := ((below_one w2 (.cells #[.int .i64 x, .int .i64 y, .int .i64 0] 24)).drew).size
              have hg2 : Hid (g ≠ w2.heap.size) := Nat.ne_of_lt hgl
              have hg52 : Hid (g5 ≠ w2.heap.size) := Nat.ne_of_lt (World.block_lt_of_cell? w2 _ V5.out.1)
              have HMN := Lib.hid hmn
              have HNL := Lib.hid hlen
              have HKM := Lib.hid hkm
              go_region_held3 (fun W' => W'.cell? ⟨g5, 0, none⟩ = some (.int .i64 x) ∧ W'.cell? ⟨g5, 1, none⟩ = some (.int .i64 y) ∧ W'.cell? ⟨g5, 2, none⟩ = some (.int .i64 0)) (go_keep)
                (first
                  | (rw [if_pos (by rfl)]; go_loud (refine wp_append_V rfl _ _ rfl rfl rfl HA.out HD.out (by show 1 ≤ 1000000; decide) (by rw [HLD.out]; have := HMN.out; have := HNL.out; omega) hs2.out HNE.out ?_); intro v' w1 hrow1 hg1; have p3 := HVA.out.grown hg1 (fun e => hg52.out (Option.some.inj (show some w2.heap.size = some g5 from e)).symm); obtain ⟨p0, p1, p2⟩ := p3; have HN1 := Lib.hid hrow1; have HG1 := Lib.hid hg1; clear hrow1 hg1)
                  | fail)
              have HR1 := Lib.hid (HRA.out.grown HG1.out (fun r e h => hg2.out (by have h1 := Option.some.inj (show some w2.heap.size = some r from e); have h2 := Option.some.inj (show some g = some r from h); omega)))
              have HE1 := Lib.hid (HEA.out.grown HG1.out (by have := hs2.out; have := HB2.out; omega) (fun r e => by have h1 := Option.some.inj (show some w2.heap.size = some r from e); have := HB2.out; omega))
              have HB1 : Hid (B ≤ w1.heap.size) := by have h1 := HG1.out.size; have h2 := hs2.out; have h3 := HB2.out; show _ ≤ _; omega
              have HT1 : Hid (Rv w1 (.slice (some ⟨g, 0, none⟩) k k) ((fl F).take k)) := HR1.out.rv.take HKM.out
              have HLT : Hid (((fl F).take k).length = k) := by
                have h5 := HFL.out
                have h6 := HKM.out
                show _ = _
                rw [List.length_take, h5]
                omega
              have HNE1 : Hid ((fl F).take k = [] → Value.slice (some ⟨g, 0, none⟩) k k = .slice none 0 0 ∨ ∃ ad c, Value.slice (some ⟨g, 0, none⟩) k k = .slice (some ad) 0 c) := fun h0 => .inr ⟨_, _, by have h6 := HLT.out; rw [h0] at h6; rw [show k = 0 from h6.symm]⟩
              clear HA HD HRA HVA HEA HR V5 E hs2 hg2 hg52 HG1
              go_wp2_with (first
                | (at_builtin; (refine wpList_append_V rfl rfl _ _ rfl rfl rfl (RowV.nil w1 w1.heap.size) HT1.out (by show 0 ≤ 1000000; decide) (by rw [HLT.out]; have := HKM.out; have := HMN.out; have := HNL.out; omega) (Nat.le_refl _) HNE1.out ?_); intro v2 w3 hrow2 hg3; have HNB := Lib.hid hrow2; have HG3 := Lib.hid hg3; have HN12 := Lib.hid (HN1.out.grown hg3 (fun r e => absurd (show (none : Option Nat) = some r from e) (by simp))); have HE3 := Lib.hid (HE1.out.grown hg3 HB1.out (fun r e => absurd (show (none : Option Nat) = some r from e) (by simp))); clear hrow2 hg3)
                | (at_builtin; go_loud (refine wpList_append_V rfl rfl _ _ rfl rfl rfl HNB.out HN12.out.rv (by rw [List.nil_append, HLT.out]; have := HKM.out; have := HMN.out; have := HNL.out; omega) (by rw [List.length_append, HLD.out]; have := HMN.out; have := HNL.out; show 1 + (k - k) ≤ _; omega) HG3.out.size (fun h => by cases h) ?_); intro v4 w4 hrow4 hg4; (have HN4 := Lib.hid hrow4); (have HE4 := Lib.hid (Below.grown_row HE3.out (Nat.le_trans HB1.out HG3.out.size) (HNB.out.lower HB1.out) hg4)); (clear hrow4 hg4)))
              have HF2 : Hid (Flat S (i + 1) (F.take k ++ (x, y) :: F.drop k)) := HF.out.insert hSi.out (by have h5 : k = F.length := HM.out; have h6 : k ≤ k := HKM.out; omega) HL.out (fun hi => absurd hi (by have h5 : k = F.length := HFK.out; omega)) (fun hi => absurd hi (by have h5 : k = F.length := HFK.out; omega))
              have HR4 : Hid (RowV w4 B v4 (fl (F.take k ++ (x, y) :: F.drop k))) := by
                rw [fl_insert]
                exact HN4.out.lower HB1.out
              go_roundw
              case rel => exact ⟨_, i + 1, _, rfl, by omega, by go_num, HR4.out, HF2.out, fun h => absurd h (by simp), HE4.out⟩
              case measure => simp [intOf]; omega
            · have hcf3 : ¬ cf = k := hck
              have hcf4 : ¬ cf - k = 0 := by omega
              have hkci : (k : Int) ≤ (cf : Int) := by omega
              have HA : Hid (RowV ((w2.alloc (.cells #[.int .i64 x, .int .i64 y, .int .i64 0] 24)).drew) w2.heap.size (.slice (some ⟨w2.heap.size, 0, none⟩) 1 1) [(x, y, 0)]) := (RowV.made w2 w2.heap.size x y 0 (Nat.le_refl _)).below ((Below.refl _ _).drew)
              have HD : Hid (Rv ((w2.alloc (.cells #[.int .i64 x, .int .i64 y, .int .i64 0] 24)).drew) (.slice (some ⟨g, k * 3, none⟩) 0 (cf - k)) ((fl F).drop k)) := by
                have h5 := ((HR.out.below ((below_one _ (.cells #[.int .i64 x, .int .i64 y, .int .i64 0] 24)).drew)).rv).drop hkm
                rw [Nat.zero_add] at h5
                rw [Nat.sub_self] at h5
                exact h5
              have HLD : Hid (((fl F).drop k).length = k - k) := by
                have h5 := HFL.out
                show _ = _
                rw [List.length_drop, h5]
              have HNE : Hid ((fl F).drop k = [] → Value.slice (some ⟨g, k * 3, none⟩) 0 (cf - k) = .slice none 0 0 ∨ ∃ ad c, Value.slice (some ⟨g, k * 3, none⟩) 0 (cf - k) = .slice (some ad) 0 c) := fun _ => .inr ⟨_, _, rfl⟩
              have HRA := Lib.hid (HR.out.below ((below_one _ (.cells #[.int .i64 x, .int .i64 y, .int .i64 0] 24)).drew))
              have HVA := Lib.hid (V5.out.below ((below_one _ (.cells #[.int .i64 x, .int .i64 y, .int .i64 0] 24)).drew))
              have HEA : Hid (Below B w ((w2.alloc (.cells #[.int .i64 x, .int .i64 y, .int .i64 0] 24)).drew)) := E.out.trans (((below_one _ (.cells #[.int .i64 x, .int .i64 y, .int .i64 0] 24)).drew).mono HB2.out)
              have hs2 : Hid (w2.heap.size ≤ ((w2.alloc (.cells #[.int .i64 x, .int .i64 y, .int .i64 0] 24)).drew).heap.size) := ((below_one w2 (.cells #[.int .i64 x, .int .i64 y, .int .i64 0] 24)).drew).size
              have hg2 : Hid (g ≠ w2.heap.size) := Nat.ne_of_lt hgl
              have hg52 : Hid (g5 ≠ w2.heap.size) := Nat.ne_of_lt (World.block_lt_of_cell? w2 _ V5.out.1)
              have HMN := Lib.hid hmn
              have HNL := Lib.hid hlen
              have HKM := Lib.hid hkm
              go_region_held3 (fun W' => W'.cell? ⟨g5, 0, none⟩ = some (.int .i64 x) ∧ W'.cell? ⟨g5, 1, none⟩ = some (.int .i64 y) ∧ W'.cell? ⟨g5, 2, none⟩ = some (.int .i64 0)) (go_keep)
                (first
                  | (rw [if_pos (by rfl)]; go_loud (refine wp_append_V rfl _ _ rfl rfl rfl HA.out HD.out (by show 1 ≤ 1000000; decide) (by rw [HLD.out]; have := HMN.out; have := HNL.out; omega) hs2.out HNE.out ?_); intro v' w1 hrow1 hg1; have p3 := HVA.out.grown hg1 (fun e => hg52.out (Option.some.inj (show some w2.heap.size = some g5 from e)).symm); obtain ⟨p0, p1, p2⟩ := p3; have HN1 := Lib.hid hrow1; have HG1 := Lib.hid hg1; clear hrow1 hg1)
                  | fail)
              have HR1 := Lib.hid (HRA.out.grown HG1.out (fun r e h => hg2.out (by have h1 := Option.some.inj (show some w2.heap.size = some r from e); have h2 := Option.some.inj (show some g = some r from h); omega)))
              have HE1 := Lib.hid (HEA.out.grown HG1.out (by have := hs2.out; have := HB2.out; omega) (fun r e => by have h1 := Option.some.inj (show some w2.heap.size = some r from e); have := HB2.out; omega))
              have HB1 : Hid (B ≤ w1.heap.size) := by have h1 := HG1.out.size; have h2 := hs2.out; have h3 := HB2.out; show _ ≤ _; omega
              have HT1 : Hid (Rv w1 (.slice (some ⟨g, 0, none⟩) k cf) ((fl F).take k)) := HR1.out.rv.take HKM.out
              have HLT : Hid (((fl F).take k).length = k) := by
                have h5 := HFL.out
                have h6 := HKM.out
                show _ = _
                rw [List.length_take, h5]
                omega
              have HNE1 : Hid ((fl F).take k = [] → Value.slice (some ⟨g, 0, none⟩) k cf = .slice none 0 0 ∨ ∃ ad c, Value.slice (some ⟨g, 0, none⟩) k cf = .slice (some ad) 0 c) := fun h0 => .inr ⟨_, _, by have h6 := HLT.out; rw [h0] at h6; rw [show k = 0 from h6.symm]⟩
              clear HA HD HRA HVA HEA HR V5 E hs2 hg2 hg52 HG1
              go_wp2_with (first
                | (at_builtin; (refine wpList_append_V rfl rfl _ _ rfl rfl rfl (RowV.nil w1 w1.heap.size) HT1.out (by show 0 ≤ 1000000; decide) (by rw [HLT.out]; have := HKM.out; have := HMN.out; have := HNL.out; omega) (Nat.le_refl _) HNE1.out ?_); intro v2 w3 hrow2 hg3; have HNB := Lib.hid hrow2; have HG3 := Lib.hid hg3; have HN12 := Lib.hid (HN1.out.grown hg3 (fun r e => absurd (show (none : Option Nat) = some r from e) (by simp))); have HE3 := Lib.hid (HE1.out.grown hg3 HB1.out (fun r e => absurd (show (none : Option Nat) = some r from e) (by simp))); clear hrow2 hg3)
                | (at_builtin; go_loud (refine wpList_append_V rfl rfl _ _ rfl rfl rfl HNB.out HN12.out.rv (by rw [List.nil_append, HLT.out]; have := HKM.out; have := HMN.out; have := HNL.out; omega) (by rw [List.length_append, HLD.out]; have := HMN.out; have := HNL.out; show 1 + (k - k) ≤ _; omega) HG3.out.size (fun h => by cases h) ?_); intro v4 w4 hrow4 hg4; (have HN4 := Lib.hid hrow4); (have HE4 := Lib.hid (Below.grown_row HE3.out (Nat.le_trans HB1.out HG3.out.size) (HNB.out.lower HB1.out) hg4)); (clear hrow4 hg4)))
              have HF2 : Hid (Flat S (i + 1) (F.take k ++ (x, y) :: F.drop k)) := HF.out.insert hSi.out (by have h5 : k = F.length := HM.out; have h6 : k ≤ k := HKM.out; omega) HL.out (fun hi => absurd hi (by have h5 : k = F.length := HFK.out; omega)) (fun hi => absurd hi (by have h5 : k = F.length := HFK.out; omega))
              have HR4 : Hid (RowV w4 B v4 (fl (F.take k ++ (x, y) :: F.drop k))) := by
                rw [fl_insert]
                exact HN4.out.lower HB1.out
              go_roundw
              case rel => exact ⟨_, i + 1, _, rfl, by omega, by go_num, HR4.out, HF2.out, fun h => absurd h (by simp), HE4.out⟩
              case measure => simp [intOf]; omega
    · obtain rfl : i = n := by omega
      have hFS : Hid (Hl.Srt F ∧ ∀ q, q ∈ F ↔ q ∈ S) := ⟨HF.out.1, fun q => by rw [HF.out.2.1 q, List.take_of_length_le (by have h5 : S.length = i := HSN.out; omega)]⟩
      obtain ⟨pf, cf, hfv⟩ := HR.out.len
      rw [fl_length] at hfv
      subst hfv
      obtain ⟨m, hm⟩ : ∃ m, m = F.length := ⟨_, rfl⟩
      have HM := Lib.hid hm
      have hmi : m ≤ i := by have := HF.out.2.2; omega
      rw [← hm] at HR HE ⊢
      clear hm
      have HBF : Hid (∀ a ∈ F, inV 16777216 a.1 a.2 0 = true) := fun a ha => HB.out a ((hFS.out.2 a).1 ha)
      have hii : ¬ (i : Int) < (i : Int) := by omega
      go_wp2
      go_loopw [8, 9] (fun cv jv wr => ∃ (wy : World) (j : Nat) (C : List Hl.P2), wy = wr ∧ j ≤ m ∧ jv = .int .i64 (j : Int) ∧ Hid (RowV wy wz.heap.size cv (fl C)) ∧ Hid (Crn F j C) ∧ Hid (Below wz.heap.size wz wy))
        (fun _ jv _ => m - (intOf jv).toNat)
      case atStart => exact ⟨wz, 0, [], rfl, Nat.zero_le _, rfl, RowV.nil _ _, Crn.nil F, Below.refl _ _⟩
      case round =>
        obtain ⟨wy, j, C, rfl, hj, rfl, HC, HCr, EY⟩ := hrel
        by_cases hlt2 : j < m
        · have hjF : j < F.length := by have h5 : m = F.length := HM.out; omega
          obtain ⟨x, y, hFj⟩ : ∃ x y, F[j] = (x, y) := ⟨_, _, rfl⟩
          obtain ⟨g, hpf⟩ : ∃ g, pf = some ⟨g, 0, none⟩ := by
            rcases HR.out.2 with ⟨h1, h2⟩ | ⟨g, c, cur, h1, -⟩
            · rw [fl_length] at h2; omega
            · injection h1 with h1 _ _; exact ⟨g, h1⟩
          subst hpf
          have HRy := Lib.hid (HR.out.below EY.out)
          have hc := HRy.out.rv
          obtain ⟨pq, bq, oq, cq, hq1, hq2, hq3, hq4, hq5⟩ := hc
          injection hq1 with z1 z2 z3
          have hq6 := hq4 (by rw [fl_length]; omega)
          rw [← z1] at hq6
          injection hq6 with hq6
          injection hq6 with y1 y2 y3
          subst y1 y2
          obtain ⟨f0, f1, f2⟩ := hq5 j (by rw [fl_length]; exact hjF)
          rw [fl_get F j hjF, hFj] at f0 f1 f2
          simp only [Nat.zero_add] at f0 f1 f2
          have hcf : m ≤ cf := by rw [fl_length] at hq2; have := HM.out; omega
          have hcf2 : cf ≤ 9223372036854775807 := by unfold maxLen at hq3; omega
          clear hq2 hq3 hq4 hq5
          try clear z1
          try clear z2
          try clear z3
          have hpv : inV 16777216 x y 0 = true := by have := HBF.out _ (List.getElem_mem hjF); rw [hFj] at this; exact this
          have hFJ : Hid (∃ h : j < F.length, F[j] = (x, y)) := ⟨hjF, hFj⟩
          have hj0 : (0 : Int) ≤ (j : Int) := by omega
          have hj1 : (j : Int) < (m : Int) := by omega
          have f3 : wy.cell? ⟨g, j * 3 + 1 + 1, none⟩ = some (.int .i64 0) := f2
          by_cases hc : Hl.cov F (x, y)
          · have HK := Lib.hid (covered_yes F _ (x, y) wy HRy.out.rv HBF.out hpv hc)
            clear hpv hjF hFj
            go_wp2_with fail
            refine HK.out.mono ?_
            rintro e w5 ⟨rfl, b5⟩
            have HC5 := Lib.hid (HC.out.below b5)
            have EY5 : Hid (Below wz.heap.size wz w5) := EY.out.trans (b5.mono EY.out.size)
            have HCr5 := Lib.hid (HCr.out.skip hFJ.out hc)
            clear b5 f0 f1 f2 f3 hc
            go_wp2
            go_roundw
            case rel => exact ⟨_, j + 1, C, rfl, by omega, by go_num, HC5.out, HCr5.out, EY5.out⟩
            case measure => simp [intOf]; omega
          · have HK := Lib.hid (covered_no F _ (x, y) wy HRy.out.rv HBF.out hpv hc)
            clear hpv hjF hFj
            go_wp2_with fail
            refine HK.out.mono ?_
            rintro e w5 ⟨rfl, b5⟩
            have HC5 := Lib.hid (HC.out.below b5)
            have EY5 : Hid (Below wz.heap.size wz w5) := EY.out.trans (b5.mono EY.out.size)
            have HCr5 := Lib.hid (HCr.out.take hFJ.out hc)
            have f0 := keep1 b5 f0
            have f1 := keep1 b5 f1
            have f2 := keep1 b5 f2
            have f3 := keep1 b5 f3
            have HLC : Hid ((fl C).length ≤ 1000000) := by
              have h5 := HCr.out.1.length_le
              have h6 := hmi
              have h7 := hlen
              rw [List.length_take] at h5
              show _ ≤ _
              rw [fl_length]
              omega
            have HC6 : Hid (RowV (w5.alloc (.cells #[.int .i64 x, .int .i64 y, .int .i64 0] 24)) wz.heap.size _ (fl C)) := HC5.out.below (below_one _ _)
            have EY6 : Hid (Below wz.heap.size wz (w5.alloc (.cells #[.int .i64 x, .int .i64 y, .int .i64 0] 24))) := EY5.out.trans ((below_one _ _).mono EY5.out.size)
            have HM6 : Hid (RowV (w5.alloc (.cells #[.int .i64 x, .int .i64 y, .int .i64 0] 24)) w5.heap.size (.slice (some ⟨w5.heap.size, 0, none⟩) 1 1) [(x, y, 0)]) := RowV.made w5 _ x y 0 (Nat.le_refl _)
            clear b5 hc
            go_wp2_with (first
              | (at_builtin; go_loud (refine wpList_append_V rfl rfl _ _ rfl rfl rfl HC6.out HM6.out.rv HLC.out (by show 1 ≤ 1000000; decide) EY6.out.size (fun h => by cases h) ?_); intro v6 w6 hrow6 hg6; have HN6 := Lib.hid hrow6; have HE6 := Lib.hid (Below.grown_row EY6.out EY6.out.size HC6.out hg6); clear hrow6 hg6))
            go_roundw
            case rel => exact ⟨_, j + 1, C ++ [(x, y)], rfl, by omega, by go_num, (by rw [fl_snoc]; exact HN6.out), HCr5.out, HE6.out⟩
            case measure => simp [intOf]; omega
        · obtain rfl : j = m := by omega
          have hjj : ¬ (j : Int) < (j : Int) := by omega
          obtain ⟨c, hc⟩ : ∃ c, c = C.length := ⟨_, rfl⟩
          have HCS : Hid (Hl.Srt C ∧ ∀ q, q ∈ C ↔ q ∈ H) := by
            obtain ⟨k1, k2⟩ := HCr.out
            have h5 : j = F.length := HM.out
            rw [h5, List.take_length] at k1 k2
            refine ⟨hFS.out.1.sublist k1, fun q => ?_⟩
            rw [k2 q, Hl.cov_iff hFS.out.2, hFS.out.2 q]
            exact HH.out.mem_iff q
          have HC0 := Lib.hid (HH.out.sorted HCS.out.1 HCS.out.2)
          have hcn : c ≤ j := by
            have h5 := HCr.out.1.length_le
            rw [List.length_take] at h5
            omega
          have HCL := Lib.hid hc
          have hc0 : 0 < c := by have := HC0.out.2.1; omega
          obtain ⟨pc, cc, hcv⟩ := HC.out.len
          rw [fl_length] at hcv
          subst hcv
          rw [← hc] at HC ⊢
          clear hc
          obtain ⟨gc, hpc⟩ : ∃ g, pc = some ⟨g, 0, none⟩ := by
            rcases HC.out.2 with ⟨h1, h2⟩ | ⟨g, c', cur, h1, -⟩
            · rw [fl_length] at h2; have h5 : c = C.length := HCL.out; omega
            · injection h1 with h1 _ _; exact ⟨g, h1⟩
          subst hpc
          have HCC : Hid (c ≤ cc ∧ cc ≤ 9223372036854775807 ∧ ∀ k (hk : k < C.length), wy.cell? ⟨gc, k * 3, none⟩ = some (.int .i64 C[k].1) ∧ wy.cell? ⟨gc, k * 3 + 1, none⟩ = some (.int .i64 C[k].2) ∧ wy.cell? ⟨gc, k * 3 + 2, none⟩ = some (.int .i64 0)) := by
            obtain ⟨pq, bq, oq, cq, hq1, hq2, hq3, hq4, hq5⟩ := HC.out.rv
            injection hq1 with z1 z2 z3
            have hq6 := hq4 (by rw [fl_length]; have h5 : c = C.length := HCL.out; omega)
            rw [← z1] at hq6
            injection hq6 with hq6
            injection hq6 with y1 y2 y3
            subst y1 y2 z3
            refine ⟨by rw [fl_length] at hq2; have h5 : c = C.length := HCL.out; omega, by unfold maxLen at hq3; omega, fun k hk => ?_⟩
            have h7 := hq5 k (by rw [fl_length]; exact hk)
            rw [fl_get C k hk] at h7
            simp only [Nat.zero_add] at h7
            exact h7
          obtain ⟨x0, y0, hx0⟩ : ∃ x y, H[0]'HH.out.pos = (x, y) := ⟨_, _, rfl⟩
          have d0 := HCC.out.2.2 0 HC0.out.2.1
          rw [HC0.out.2.2, hx0] at d0
          obtain ⟨d0, d1, d2⟩ := d0
          have d3 : wy.cell? ⟨gc, 0, none⟩ = some (.int .i64 x0) := d0
          have d4 : wy.cell? ⟨gc, 1, none⟩ = some (.int .i64 y0) := d1
          have d5 : wy.cell? ⟨gc, 2, none⟩ = some (.int .i64 0) := d2
          have hc1 : (0 : Int) < (c : Int) := by omega
          have hcc1 := HCC.out.1
          have hcc2 := HCC.out.2.1
          have HR0 : Hid (RowV (wy.alloc (.cells #[.int .i64 x0, .int .i64 y0, .int .i64 0] 24)) wy.heap.size (.slice (some ⟨wy.heap.size, 0, none⟩) 1 1) (fl (H.take 1))) := by
            have h5 : fl (H.take 1) = [(x0, y0, 0)] := by
              have h6 : H.take 1 = [H[0]'HH.out.pos] := by
                cases H with
                | nil => exact absurd HH.out.pos (by simp)
                | cons a t => rfl
              rw [h6, hx0]; rfl
            rw [h5]
            exact RowV.made wy _ x0 y0 0 (Nat.le_refl _)
          clear d0 d1 d2
          have hHl : Hid (H.length = c) := by have h5 : c = C.length := HCL.out; have h6 := HC0.out.1; show _ = _; omega
          have HBH : Hid (∀ q ∈ C, inV 16777216 q.1 q.2 0 = true) := fun q hq => HB.out q (HH.out.sub q ((HCS.out.2 q).1 hq))
          go_wp2
          clear d3 d4 d5 hx0
          go_loopw [10, 11, 12, 13, 14, 15] (fun ov _ _ _ _ _ wr => ∃ (wo : World) (t : Nat) (po : Option Addr) (co : Nat), wo = wr ∧ 1 ≤ t ∧ t ≤ c ∧ ov = .slice po t co ∧ Hid (RowV wo wy.heap.size (.slice po t co) (fl (H.take t))) ∧ Hid (Below wy.heap.size wy wo))
            (fun ov _ _ _ _ _ _ => c - lnOf ov)
          case atStart => exact ⟨_, 1, _, 1, rfl, Nat.le_refl _, by omega, rfl, HR0.out, below_one _ _⟩
          case round =>
            clear HR0
            obtain ⟨wo, t, po, co, rfl, ht1, htc, rfl, HO, EO⟩ := hrel
            by_cases hlt3 : t < c
            · obtain ⟨s1, hs1⟩ : ∃ s, t = s + 1 := ⟨t - 1, by omega⟩
              have HS1 := Lib.hid hs1
              have hwr : IntKind.i64.wrap ((t : Int) - 1) = (s1 : Int) := by
                have h5 : (t : Int) - 1 = (s1 : Int) := by omega
                rw [h5]
                exact IntWalk.i64_in _ (by omega)
              have hsH : s1 < H.length := by have h5 : H.length = c := hHl.out; omega
              obtain ⟨a1, a2, ha⟩ : ∃ x y, H[s1] = (x, y) := ⟨_, _, rfl⟩
              have HAx : Hid (∃ h : s1 < H.length, H[s1] = (a1, a2)) := ⟨hsH, ha⟩
              have htl : (H.take t).length = t := by rw [List.length_take]; have h5 : H.length = c := hHl.out; omega
              obtain ⟨go, hpo⟩ := row_ptr HO.out (by omega)
              subst hpo
              obtain ⟨-, hco1, hco2, f0⟩ := row_cells HO.out
              have f0 := f0 s1 (by omega)
              rw [List.getElem_take, ha] at f0
              obtain ⟨f0, f1, f2⟩ := f0
              have f3 : wo.cell? ⟨go, s1 * 3 + 1 + 1, none⟩ = some (.int .i64 0) := f2
              have i0 : (0 : Int) ≤ (s1 : Int) := by omega
              have i1 : (s1 : Int) < (t : Int) := by omega
              have i9 : (t : Int) < (c : Int) := by omega
              clear ha hs1 htl hsH
              go_wp2
              obtain ⟨w1, hw1⟩ : ∃ w1 : World, w1 = wo.alloc (.cells #[.int .i64 a1, .int .i64 a2, .int .i64 0] 24) := ⟨_, rfl⟩
              have b1 : Below wo.heap.size wo w1 := by rw [hw1]; exact below_one _ _
              have VA : Hid (V3 w1 wo.heap.size a1 a2 0) := by rw [hw1]; exact ⟨by simp [go_sem], by simp [go_sem], by simp [go_sem]⟩
              rw [← hw1]
              have HO1 := Lib.hid (HO.out.below b1)
              have EO1 : Hid (Below wy.heap.size wy w1) := EO.out.trans (b1.mono EO.out.size)
              obtain ⟨ga, hga⟩ : ∃ g, g = wo.heap.size := ⟨_, rfl⟩
              rw [← hga] at VA ⊢
              clear hga b1 hw1 f0 f1 f2 f3 hwr i0 i1
              go_loopw [10, 12, 13, 14, 15] (fun ov iv _ _ _ wr => ∃ (wi : World) (i2 : Nat), wi = wr ∧ i2 ≤ c ∧ ov = .slice (some ⟨go, 0, none⟩) t co ∧ iv = .int .i64 (i2 : Int) ∧ Hid (∀ k (hk : k < C.length), k < i2 → ∀ h : t < H.length, C[k] ≠ H[t]) ∧ Hid (Below w1.heap.size w1 wi))
                (fun _ iv _ _ _ _ => c - (intOf iv).toNat)
              case atStart => exact ⟨w1, 0, rfl, Nat.zero_le _, rfl, rfl, fun k _ h => absurd h (Nat.not_lt_zero _), Below.refl _ _⟩
              case round =>
                obtain ⟨wi, i2, rfl, hi2, rfl, rfl, HNo, EI⟩ := hrel
                by_cases hlt4 : i2 < c
                · have hiC : i2 < C.length := by have h5 : c = C.length := HCL.out; omega
                  obtain ⟨b1, b2, hb⟩ : ∃ x y, C[i2] = (x, y) := ⟨_, _, rfl⟩
                  have HBx : Hid (∃ h : i2 < C.length, C[i2] = (b1, b2)) := ⟨hiC, hb⟩
                  have Ewi : Hid (Below wy.heap.size wy wi) := EO1.out.trans (EI.out.mono EO1.out.size)
                  have g0 := HCC.out.2.2 i2 hiC
                  rw [hb] at g0
                  obtain ⟨g0, g1, g2⟩ := g0
                  have g0 := keep1 Ewi.out g0
                  have g1 := keep1 Ewi.out g1
                  have g2 := keep1 Ewi.out g2
                  have g3 : wi.cell? ⟨gc, i2 * 3 + 1 + 1, none⟩ = some (.int .i64 0) := g2
                  have VI := Lib.hid (VA.out.below EI.out)
                  obtain ⟨e0, e1, e2⟩ := VI.out
                  have e3 : ∀ o, (wi.alloc o).cell? ⟨ga, 0, none⟩ = some (.int .i64 a1) := fun o => keep1 (below_one _ _) e0
                  have e4 : ∀ o, (wi.alloc o).cell? ⟨ga, 1, none⟩ = some (.int .i64 a2) := fun o => keep1 (below_one _ _) e1
                  have e5 : ∀ o, (wi.alloc o).cell? ⟨ga, 2, none⟩ = some (.int .i64 0) := fun o => keep1 (below_one _ _) e2
                  have j0 : (0 : Int) ≤ (i2 : Int) := by omega
                  have j1 : (i2 : Int) < (c : Int) := by omega
                  obtain ⟨nb, hnb⟩ : ∃ nb : Bool, nb = !vE a1 a2 0 b1 b2 0 := ⟨_, rfl⟩
                  have HNB : Hid (nb = true ↔ (a1, a2) ≠ (b1, b2)) := by
                    show _ ↔ _
                    rw [hnb]
                    cases hv : vE a1 a2 0 b1 b2 0
                    · exact iff_of_true rfl (fun e => by cases e; rw [vE_refl] at hv; cases hv)
                    · obtain ⟨r1, r2, -⟩ := vE_iff.1 hv
                      exact iff_of_false (by decide) (fun h => h (by rw [r1, r2]))
                  have qN : ∀ w, (binOp .neq 24 (.agg #[.int .i64 a1, .int .i64 a2, .int .i64 0]) (.agg #[.int .i64 b1, .int .i64 b2, .int .i64 0])).run Try.prog w = .ok (.bool nb) w := fun w => by rw [hnb]; exact neq_vec w a1 a2 0 b1 b2 0
                  clear hb hiC hnb
                  go_wp2
                  obtain ⟨w2, hw2⟩ : ∃ w2 : World, w2 = wi.alloc (.cells #[.int .i64 b1, .int .i64 b2, .int .i64 0] 24) := ⟨_, rfl⟩
                  have c2 : Below wi.heap.size wi w2 := by rw [hw2]; exact below_one _ _
                  have VB : Hid (V3 w2 wi.heap.size b1 b2 0) := by rw [hw2]; exact ⟨by simp [go_sem], by simp [go_sem], by simp [go_sem]⟩
                  rw [← hw2]
                  have VA2 := Lib.hid (VI.out.below c2)
                  have E2 : Hid (Below wy.heap.size wy w2) := Ewi.out.trans (c2.mono Ewi.out.size)
                  have EI2 : Hid (Below w1.heap.size w1 w2) := EI.out.trans (c2.mono EI.out.size)
                  have HO2 : Hid (RowV w2 wy.heap.size (.slice (some ⟨go, 0, none⟩) t co) (fl (H.take t))) := (HO1.out.below EI.out).below c2
                  obtain ⟨gb, hgb⟩ : ∃ g, g = wi.heap.size := ⟨_, rfl⟩
                  rw [← hgb] at VB ⊢
                  clear hgb c2 hw2 e0 e1 e2 e3 e4 e5 g0 g1 g2 g3 j0 qN VI
                  have hbB : Hid (inV 16777216 b1 b2 0 = true) := by
                    obtain ⟨h1, h2⟩ := HBx.out
                    have h3 := HBH.out _ (List.getElem_mem h1)
                    rw [h2] at h3
                    exact h3
                  have haB : Hid (inV 16777216 a1 a2 0 = true) := by
                    obtain ⟨h1, h2⟩ := HAx.out
                    have h3 := HB.out _ (HH.out.sub _ (List.getElem_mem h1))
                    rw [h2] at h3
                    exact h3
                  go_loopw [14, 15] (fun fv kv wr => ∃ (wk : World) (k : Nat) (f : Bool), wk = wr ∧ k ≤ c ∧ fv = .bool f ∧ kv = .int .i64 (k : Int) ∧ Hid (f = true ↔ (a1, a2) ≠ (b1, b2) ∧ ∀ k' (hk' : k' < C.length), k' < k → 0 ≤ Hl.tn (a1, a2) (b1, b2) C[k']) ∧ Hid (Below w2.heap.size w2 wk))
                    (fun _ kv _ => c - (intOf kv).toNat)
                  case atStart => exact ⟨w2, 0, nb, rfl, Nat.zero_le _, rfl, rfl, HNB.out.trans ⟨fun h => ⟨h, fun _ _ h => absurd h (Nat.not_lt_zero _)⟩, fun h => h.1⟩, Below.refl _ _⟩
                  case round =>
                    obtain ⟨wk, k, f, rfl, hk, rfl, rfl, HFk, EK⟩ := hrel
                    by_cases hlt5 : k < c
                    · have hkC : k < C.length := by have h5 : c = C.length := HCL.out; omega
                      obtain ⟨x3, y3, hc3⟩ : ∃ x y, C[k] = (x, y) := ⟨_, _, rfl⟩
                      have E3 : Hid (Below wy.heap.size wy wk) := E2.out.trans (EK.out.mono E2.out.size)
                      have g0 := HCC.out.2.2 k hkC
                      have hcB := Lib.hid (HBH.out _ (List.getElem_mem hkC))
                      rw [hc3] at g0 hcB
                      obtain ⟨g0, g1, g2⟩ := g0
                      have g0 := keep1 E3.out g0
                      have g1 := keep1 E3.out g1
                      have g2 := keep1 E3.out g2
                      obtain ⟨e0, e1, e2⟩ := VA2.out.below EK.out
                      obtain ⟨f0, f1, f2⟩ := VB.out.below EK.out
                      have j0 : (0 : Int) ≤ (k : Int) := by omega
                      have j1 : (k : Int) < (c : Int) := by omega
                      have HF3 : ∀ e : Bool, (e = true ↔ 0 ≤ Hl.tn (a1, a2) (b1, b2) (x3, y3)) → ((f && e) = true ↔ (a1, a2) ≠ (b1, b2) ∧ ∀ k' (hk' : k' < C.length), k' < k + 1 → 0 ≤ Hl.tn (a1, a2) (b1, b2) C[k']) := by
                        intro e he
                        rw [Bool.and_eq_true, HFk.out, he]
                        constructor
                        · rintro ⟨⟨h1, h2⟩, h3⟩
                          refine ⟨h1, fun k' hk' h4 => ?_⟩
                          by_cases h5 : k' < k
                          · exact h2 k' hk' h5
                          · obtain rfl : k' = k := by omega
                            rw [hc3]; exact h3
                        · rintro ⟨h1, h2⟩
                          exact ⟨⟨h1, fun k' hk' h4 => h2 k' hk' (by omega)⟩, by have := h2 k hkC (by omega); rw [hc3] at this; exact this⟩
                      have HF3 := Lib.hid HF3
                      have HT := Lib.hid (fun w => rTurn_any (x1 := a1) (x2 := a2) (x3 := 0) (y1 := b1) (y2 := b2) (y3 := 0) (z1 := x3) (z2 := y3) (z3 := 0) haB.out hbB.out hcB.out w)
                      obtain ⟨q, hq⟩ : ∃ q, q = cmpI (tz a1 a2 b1 b2 x3 y3) 0 := ⟨_, rfl⟩
                      have HQ : Hid (decide (0 ≤ q) = true ↔ 0 ≤ Hl.tn (a1, a2) (b1, b2) (x3, y3)) := by
                        have h5 : tz a1 a2 b1 b2 x3 y3 = Hl.tn (a1, a2) (b1, b2) (x3, y3) := rfl
                        show _ ↔ _
                        rw [decide_eq_true_iff, hq, ← h5]
                        unfold cmpI
                        split
                        · omega
                        · split <;> omega
                      rw [← hq] at HT
                      clear hq hc3 hkC
                      cases f
                      · go_upto_region 29 with (fail)
                        go_quiet (fail)
                        go_wp2
                        go_roundw
                        case rel => exact ⟨_, k + 1, false, rfl, by omega, rfl, by go_num, HF3.out _ HQ.out, below_drewN EK.out _⟩
                        case measure => simp [intOf]; omega
                      · go_upto_region 29 with (fail)
                        go_region_held3 (fun W' => W'.cell? ⟨gc, k * 3, none⟩ = some (.int .i64 x3) ∧ W'.cell? ⟨gc, k * 3 + 1, none⟩ = some (.int .i64 y3) ∧ W'.cell? ⟨gc, k * 3 + 2, none⟩ = some (.int .i64 0) ∧ W'.cell? ⟨ga, 0, none⟩ = some (.int .i64 a1) ∧ W'.cell? ⟨ga, 1, none⟩ = some (.int .i64 a2) ∧ W'.cell? ⟨ga, 2, none⟩ = some (.int .i64 0) ∧ W'.cell? ⟨gb, 0, none⟩ = some (.int .i64 b1) ∧ W'.cell? ⟨gb, 1, none⟩ = some (.int .i64 b2) ∧ W'.cell? ⟨gb, 2, none⟩ = some (.int .i64 0)) (go_keep)
                          (first
                            | (go_at_call 53; (with_reducible refine (HT.out _).mono ?_); rintro e y9 ⟨rfl, b9⟩; (try (have b9 := undrew b9)); have g0 := keep1 b9 g0; have g1 := keep1 b9 g1; have g2 := keep1 b9 g2; have e0 := keep1 b9 e0; have e1 := keep1 b9 e1; have e2 := keep1 b9 e2; have f0 := keep1 b9 f0; have f1 := keep1 b9 f1; have f2 := keep1 b9 f2; have B9 := Lib.hid b9)
                            | fail)
                        have EK9 : Hid (Below w2.heap.size w2 y9) := EK.out.trans (B9.out.mono EK.out.size)
                        go_wp2
                        go_roundw
                        case rel => exact ⟨_, k + 1, decide (0 ≤ q), rfl, by omega, rfl, by go_num, HF3.out _ HQ.out, EK9.out⟩
                        case measure => simp [intOf]; omega
                    · obtain rfl : k = c := by omega
                      have hkk : ¬ (k : Int) < (k : Int) := by omega
                      have htH : t < H.length := by have h5 : H.length = k := hHl.out; omega
                      have HAll : Hid (f = true ↔ (a1, a2) ≠ (b1, b2) ∧ ∀ q ∈ H, 0 ≤ Hl.tn (a1, a2) (b1, b2) q) := by
                        refine HFk.out.trans ⟨fun h => ⟨h.1, fun q hq => ?_⟩, fun h => ⟨h.1, fun k' hk' _ => h.2 _ ((HCS.out.2 _).1 (List.getElem_mem hk'))⟩⟩
                        obtain ⟨k', hk', rfl⟩ := List.mem_iff_getElem.1 ((HCS.out.2 q).2 hq)
                        exact h.2 k' hk' (by have h5 : k = C.length := HCL.out; omega)
                      have E9 : Hid (Below wy.heap.size wy wk) := E2.out.trans (EK.out.mono E2.out.size)
                      have EI9 : Hid (Below w1.heap.size w1 wk) := EI2.out.trans (EK.out.mono EI2.out.size)
                      have HO9 : Hid (RowV wk wy.heap.size (.slice (some ⟨go, 0, none⟩) t co) (fl (H.take t))) := HO2.out.below EK.out
                      obtain ⟨f0, f1, f2⟩ := VB.out.below EK.out
                      cases f
                      · have HNo2 : Hid (∀ k' (hk' : k' < C.length), k' < i2 + 1 → ∀ h : t < H.length, C[k'] ≠ H[t]) := by
                          intro k' hk' h1 h2 h3
                          by_cases h4 : k' < i2
                          · exact HNo.out k' hk' h4 h2 h3
                          · obtain rfl : k' = i2 := by omega
                            obtain ⟨x1, x2⟩ := HBx.out
                            obtain ⟨y1, y2⟩ := HAx.out
                            have hs : t = s1 + 1 := HS1.out
                            subst hs
                            have h5 := HH.out.next (j := s1) h2
                            rw [y2, ← h3, x2] at h5
                            exact absurd (HAll.out.2 h5) (by decide)
                        go_wp2
                        go_roundw
                        case rel => exact ⟨_, i2 + 1, rfl, by omega, rfl, by go_num, HNo2.out, EI9.out⟩
                        case measure => simp [intOf]; omega
                      · have HTk : Hid (fl (H.take (t + 1)) = fl (H.take t) ++ [(b1, b2, 0)]) := by
                          obtain ⟨x1, x2⟩ := HBx.out
                          obtain ⟨y1, y2⟩ := HAx.out
                          have hs : t = s1 + 1 := HS1.out
                          have h5 := HAll.out.1 rfl
                          have h6 : (b1, b2) = H[t] := by
                            subst hs
                            have hbm : (b1, b2) ∈ C := by rw [← x2]; exact List.getElem_mem x1
                            refine HH.out.only (j := s1) htH ((HCS.out.2 _).1 hbm) ?_ ?_
                            · rw [y2]; exact h5.1
                            · rw [y2]; exact h5.2
                          show _ = _
                          rw [List.take_succ_eq_append_getElem htH, fl_snoc, ← h6]
                        have HLT9 : Hid ((fl (H.take t)).length = t) := by
                          show _ = _
                          rw [fl_length, List.length_take]
                          omega
                        have HA6 : Hid (RowV (wk.alloc (.cells #[.int .i64 b1, .int .i64 b2, .int .i64 0] 24)) wy.heap.size (.slice (some ⟨go, 0, none⟩) t co) (fl (H.take t))) := HO9.out.below (below_one _ _)
                        have EA6 : Hid (Below wy.heap.size wy (wk.alloc (.cells #[.int .i64 b1, .int .i64 b2, .int .i64 0] 24))) := E9.out.trans ((below_one _ _).mono E9.out.size)
                        have HM6 : Hid (RowV (wk.alloc (.cells #[.int .i64 b1, .int .i64 b2, .int .i64 0] 24)) wk.heap.size (.slice (some ⟨wk.heap.size, 0, none⟩) 1 1) [(b1, b2, 0)]) := RowV.made wk _ b1 b2 0 (Nat.le_refl _)
                        have HTN : Hid (t ≤ 1000000) := by show _ ≤ _; omega
                        go_wp2_with (first
                          | (at_builtin; go_loud (refine wpList_append_V rfl rfl _ _ rfl rfl rfl HA6.out HM6.out.rv (by rw [HLT9.out]; exact HTN.out) (by show 1 ≤ 1000000; decide) EA6.out.size (fun h => by cases h) ?_); intro v6 w6 hrow6 hg6; have HN6 := Lib.hid hrow6; have HE6 := Lib.hid (Below.grown_row EA6.out EA6.out.size HA6.out hg6); clear hrow6 hg6))
                        rw [← HTk.out] at HN6
                        obtain ⟨p6, c6, hv6⟩ := HN6.out.len
                        have hl6 : (fl (H.take (t + 1))).length = t + 1 := by rw [fl_length, List.length_take]; omega
                        rw [hl6] at hv6
                        subst hv6
                        go_roundw
                        case rel => exact ⟨_, t + 1, p6, c6, rfl, by omega, by omega, rfl, HN6.out, HE6.out⟩
                        case measure => simp [lnOf]; omega
                · exfalso
                  have htH : t < H.length := by have h5 : H.length = c := hHl.out; omega
                  obtain ⟨k, hk, hke⟩ := List.mem_iff_getElem.1 ((HCS.out.2 _).2 (List.getElem_mem htH))
                  exact HNo.out k hk (by have h5 : c = C.length := HCL.out; omega) htH hke
            · obtain rfl : t = c := by omega
              have htt : ¬ (t : Int) < (t : Int) := by omega
              have HO' : Hid (RowV wo wy.heap.size (.slice po t co) (fl H)) := by
                have h5 : H.length = t := hHl.out
                have h6 := HO.out
                rw [← h5, List.take_length, h5] at h6
                exact h6
              have hyB : B ≤ wy.heap.size := by
                have h5 := EY.out.size
                have h6 := E.out.size
                have h7 : B = w.heap.size := HB0.out
                omega
              have HE9 : Hid (Below B w wo) := E.out.trans ((EY.out.trans ((EO.out).mono EY.out.size)).mono (by have h6 := E.out.size; have h7 : B = w.heap.size := HB0.out; omega))
              have HO9 := Lib.hid (HO'.out.lower hyB)
              go_wp2
              go_ret
              exact ⟨_, rfl, HO9.out, HE9.out⟩
end Go.Proofs.Ytpkfngfenkcjoaa

/- One chain of a hull: from the first to the last of some points in order, always to the left. Plain facts. -/
set_option linter.all false
namespace Go.Proofs.Ytpkfngfenkcjoaa.Hl

/-- Directions: q is not to the right of p, seen from a. -/
theorem cone {a b p q : P2} (h1 : lt a b) (h2 : lt a p) (h3 : q = a ∨ lt a q) (h4 : 0 ≤ tn a b q) (h5 : tn a b p ≤ 0) : 0 ≤ tn a p q := by
  have id : (b.1 - a.1) * tn a p q = tn a b q * (p.1 - a.1) - tn a b p * (q.1 - a.1) := by unfold tn; grind
  have q1 : 0 ≤ q.1 - a.1 := by rcases h3 with rfl | h3 <;> (try unfold lt at h3) <;> omega
  have p1 : 0 ≤ p.1 - a.1 := by unfold lt at h2; omega
  by_cases hu : 0 < b.1 - a.1
  · have m1 := Int.mul_nonneg h4 p1
    have m2 := Int.mul_nonneg (show 0 ≤ -tn a b p by omega) q1
    rw [Int.neg_mul] at m2
    apply Classical.byContradiction
    intro hn
    have := Int.mul_pos hu (show 0 < -tn a p q by omega)
    rw [Int.mul_neg] at this
    omega
  · have hu0 : b.1 - a.1 = 0 := by unfold lt at h1; omega
    have hu1 : 0 < b.2 - a.2 := by unfold lt at h1; omega
    have e1 : tn a b q = -((b.2 - a.2) * (q.1 - a.1)) := by unfold tn; rw [hu0]; grind
    have qx : q.1 - a.1 = 0 := by
      apply Classical.byContradiction
      intro hn
      have := Int.mul_pos hu1 (show 0 < q.1 - a.1 by omega)
      omega
    have qy : 0 ≤ q.2 - a.2 := by rcases h3 with rfl | h3 <;> (try unfold lt at h3) <;> omega
    have : tn a p q = (p.1 - a.1) * (q.2 - a.2) := by unfold tn; rw [qx]; grind
    rw [this]
    exact Int.mul_nonneg p1 qy
/-- Behind a turn to the left. -/
theorem behind {a b p q : P2} (h1 : lt a b) (h2 : lt b p) (h3 : lt q b) (h4 : 0 < tn a b p) (h5 : 0 ≤ tn a b q) : 0 ≤ tn b p q := by
  have id : (b.1 - a.1) * tn b p q = tn a b q * (p.1 - b.1) + tn a b p * (b.1 - q.1) := by unfold tn; grind
  have p1 : 0 ≤ p.1 - b.1 := by unfold lt at h2; omega
  have q1 : 0 ≤ b.1 - q.1 := by unfold lt at h3; omega
  by_cases hu : 0 < b.1 - a.1
  · have m1 := Int.mul_nonneg h5 p1
    have m2 := Int.mul_nonneg (Int.le_of_lt h4) q1
    apply Classical.byContradiction
    intro hn
    have := Int.mul_pos hu (show 0 < -tn b p q by omega)
    rw [Int.mul_neg] at this
    omega
  · exfalso
    have hu0 : b.1 - a.1 = 0 := by unfold lt at h1; omega
    have hu1 : 0 < b.2 - a.2 := by unfold lt at h1; omega
    have e1 : tn a b p = -((b.2 - a.2) * (p.1 - b.1)) := by
      have : a.1 = b.1 := by omega
      unfold tn; rw [this]; grind
    have := Int.mul_nonneg (Int.le_of_lt hu1) p1
    omega
/-- A turn to the left, and one more. -/
theorem onward {a b c d : P2} (h1 : lt a b) (h2 : lt b c) (h3 : lt c d) (h4 : 0 < tn a b c) (h5 : 0 ≤ tn b c d) : 0 < tn a b d := by
  have id : tn a b d * (c.1 - b.1) = tn a b c * (d.1 - b.1) + tn b c d * (b.1 - a.1) := by unfold tn; grind
  have a1 : 0 ≤ b.1 - a.1 := by unfold lt at h1; omega
  have c1 : 0 ≤ c.1 - b.1 := by unfold lt at h2; omega
  have d1 : c.1 - b.1 ≤ d.1 - b.1 := by unfold lt at h3; omega
  by_cases hu : 0 < c.1 - b.1
  · have m1 := Int.mul_pos h4 (show 0 < d.1 - b.1 by omega)
    have m2 := Int.mul_nonneg h5 a1
    apply Classical.byContradiction
    intro hn
    have := Int.mul_nonneg (show 0 ≤ -tn a b d by omega) c1
    rw [Int.neg_mul] at this
    omega
  · have c0 : c.1 - b.1 = 0 := by omega
    have cy : 0 < c.2 - b.2 := by unfold lt at h2; omega
    have e1 : tn b c d = -((c.2 - b.2) * (d.1 - b.1)) := by unfold tn; rw [c0]; grind
    have dx : d.1 - b.1 = 0 := by
      apply Classical.byContradiction
      intro hn
      have := Int.mul_pos cy (show 0 < d.1 - b.1 by omega)
      omega
    have dy : 0 < d.2 - b.2 := by unfold lt at h3 h2; omega
    have e2 : tn a b c = (b.1 - a.1) * (c.2 - b.2) := by
      have : c.1 = b.1 := by omega
      unfold tn; rw [this]; grind
    have e3 : tn a b d = (b.1 - a.1) * (d.2 - b.2) := by
      have : d.1 = b.1 := by omega
      unfold tn; rw [this]; grind
    rw [e3]
    have a0 : 0 < b.1 - a.1 := by
      apply Classical.byContradiction
      intro hn
      have : b.1 - a.1 = 0 := by omega
      rw [e2, this, Int.zero_mul] at h4
      omega
    exact Int.mul_pos a0 dy

def popP (p : P2) : List P2 → List P2
  | b :: a :: r => if 0 < tn a b p then b :: a :: r else popP p (a :: r)
  | st => st
def chP (l : List P2) : List P2 := l.foldl (fun st p => p :: popP p st) []
theorem chP_snoc (l : List P2) (p : P2) : chP (l ++ [p]) = p :: popP p (chP l) := by simp [chP]

/-- A stack of points, the last one first: in order, with turns to the left, and none of the points is to the right of an edge. -/
structure Chn (P : List P2) (st : List P2) : Prop where
  sub : ∀ q ∈ st, q ∈ P
  srt : st.Pairwise (fun x y => lt y x)
  left : ∀ q ∈ P, ∀ i (h : i + 1 < st.length), 0 ≤ tn st[i + 1] st[i] q
  turn : ∀ i (h : i + 2 < st.length), 0 < tn st[i + 2] st[i + 1] st[i]
  first : ∀ x, st.getLast? = some x → ∀ q ∈ P, q = x ∨ lt x q
theorem Chn.tail {P st : List P2} {a b : P2} (h : Chn P (b :: a :: st)) : Chn P (a :: st) where
  sub q hq := h.sub q (List.mem_cons_of_mem _ hq)
  srt := (List.pairwise_cons.1 h.srt).2
  left q hq i hi := h.left q hq (i + 1) (by simp at hi ⊢; omega)
  turn i hi := h.turn (i + 1) (by simp at hi ⊢; omega)
  first x hx := h.first x (by rw [List.getLast?_cons_cons]; exact hx)
/-- What popping leaves. -/
theorem Chn.pop {P : List P2} {p : P2} (hp : ∀ q ∈ P, lt q p) : ∀ {st : List P2}, Chn P st → (∀ b r, st = b :: r → ∀ q ∈ P, q = b ∨ lt b q → 0 ≤ tn b p q) →
    Chn P (popP p st) ∧ (st ≠ [] → popP p st ≠ []) ∧ (∀ b r, popP p st = b :: r → ∀ q ∈ P, q = b ∨ lt b q → 0 ≤ tn b p q) ∧ (∀ b a r, popP p st = b :: a :: r → 0 < tn a b p) ∧ (popP p st).getLast? = st.getLast?
  | [], h, hA => ⟨h, fun hn => hn, hA, fun b a r e => by simp [popP] at e, rfl⟩
  | [x], h, hA => ⟨h, fun hn => hn, hA, fun b a r e => by simp [popP] at e, rfl⟩
  | b :: a :: r, h, hA => by
    rw [popP]
    split
    · next ht =>
      refine ⟨h, fun hn => hn, hA, fun b' a' r' e => ?_, rfl⟩
      simp only [List.cons.injEq] at e
      obtain ⟨rfl, rfl, rfl⟩ := e
      exact ht
    · next ht =>
      have hab : lt a b := (List.pairwise_cons.1 h.srt).1 a (by simp)
      have ha : a ∈ P := h.sub a (by simp)
      obtain ⟨k1, k2, k3, k4, k5⟩ := Chn.pop hp h.tail (fun b' r' e q hq ho => by
        simp only [List.cons.injEq] at e
        obtain ⟨rfl, rfl⟩ := e
        exact cone hab (hp _ ha) ho (h.left q hq 0 (by simp)) (by omega))
      refine ⟨k1, fun _ => k2 (by simp), k3, k4, ?_⟩
      rw [k5]
      simp
/-- One more point. -/
theorem Chn.push {P st : List P2} {p : P2} (h : Chn P st) (hp : ∀ q ∈ P, lt q p) (hlast : ∀ b r, st = b :: r → ∀ q ∈ P, q = b ∨ lt q b) (hne : P ≠ [] → st ≠ []) : Chn (P ++ [p]) (p :: popP p st) := by
  obtain ⟨k1, k2, k3, k4, k5⟩ := Chn.pop hp h (fun b r e q hq ho => by
    rcases hlast b r e q hq with rfl | h1
    · rw [tn_aba]; omega
    · rcases ho with rfl | h2
      · exact absurd h1 (lt_irrefl _)
      · exact absurd h1 (lt_asymm h2))
  obtain ⟨s, hs⟩ : ∃ s, s = popP p st := ⟨_, rfl⟩
  rw [← hs] at k1 k2 k3 k4 k5 ⊢
  -- the new point is to the left of all edges
  have hnew : ∀ i (hi : i + 1 < s.length), 0 < tn s[i + 1] s[i] p := by
    intro i
    induction i with
    | zero =>
      intro hi
      match s, hi, k4 with
      | b :: a :: r, _, k4 => exact k4 b a r rfl
    | succ i ih =>
      intro hi
      have h1 := ih (by omega)
      have p1 := k1.srt
      rw [List.pairwise_iff_getElem] at p1
      exact onward (p1 (i + 1) (i + 2) (by omega) hi (by omega)) (p1 i (i + 1) (by omega) (by omega) (by omega)) (hp _ (k1.sub _ (List.getElem_mem _))) (k1.turn i hi) (Int.le_of_lt h1)
  refine ⟨fun q hq => ?_, List.pairwise_cons.2 ⟨fun q hq => hp q (k1.sub q hq), k1.srt⟩, fun q hq i hi => ?_, fun i hi => ?_, ?_⟩
  · rcases List.mem_cons.1 hq with rfl | hq
    · simp
    · exact List.mem_append_left _ (k1.sub q hq)
  · cases i with
    | zero =>
      have h1 : 0 < s.length := by simpa using hi
      show 0 ≤ tn s[0] p q
      rcases List.mem_append.1 hq with hq | hq
      · match s, h1, k1, k3, k4 with
        | b :: r, _, k1, k3, k4 =>
          rcases lt_tri b q with g | g | g
          · exact k3 b r rfl q hq (.inr g)
          · exact k3 b r rfl q hq (.inl g.symm)
          · match r, k1, k4 with
            | [], k1, k4 =>
              rcases k1.first b rfl q hq with rfl | g2
              · exact absurd g (lt_irrefl _)
              · exact absurd g (lt_asymm g2)
            | a :: r', k1, k4 =>
              have hab : lt a b := (List.pairwise_cons.1 k1.srt).1 a (by simp)
              exact behind hab (hp _ (k1.sub b (by simp))) g (k4 b a r' rfl) (k1.left q hq 0 (by simp))
      · obtain rfl : q = p := by simpa using hq
        rw [tn_abb]; omega
    | succ i =>
      have h1 : i + 1 < s.length := by simpa using hi
      show 0 ≤ tn s[i + 1] s[i] q
      rcases List.mem_append.1 hq with hq | hq
      · exact k1.left q hq i h1
      · obtain rfl : q = p := by simpa using hq
        exact Int.le_of_lt (hnew i h1)
  · cases i with
    | zero => exact hnew 0 (by simp at hi; omega)
    | succ i => exact k1.turn i (by simp at hi; omega)
  · intro x hx q hq
    by_cases hs0 : s = []
    · subst hs0
      have hP : P = [] := Classical.byContradiction fun hn => k2 (hne hn) rfl
      subst hP
      simp at hx hq
      subst hx hq
      exact .inl rfl
    · obtain ⟨y, s', rfl⟩ : ∃ y s', s = y :: s' := by cases s with | nil => exact absurd rfl hs0 | cons y s' => exact ⟨y, s', rfl⟩
      rw [List.getLast?_cons_cons] at hx
      have hxP : x ∈ P := k1.sub x (List.mem_of_getLast? hx)
      rcases List.mem_append.1 hq with hq | hq
      · exact k1.first x hx q hq
      · obtain rfl : q = p := by simpa using hq
        exact .inr (hp x hxP)
/-- The chain of points in order. -/
theorem chP_chn : ∀ (n : Nat) (F : List P2), F.length = n → Srt F → Chn F (chP F) ∧ (F ≠ [] → chP F ≠ []) ∧ (chP F).head? = F.getLast? ∧ (chP F).getLast? = F.head?
  | 0, F, hn, _ => by
    obtain rfl := List.eq_nil_of_length_eq_zero hn
    exact ⟨⟨fun q hq => hq, List.Pairwise.nil, fun q hq => by simp at hq, fun i hi => by simp [chP] at hi, fun x hx => by simp [chP] at hx⟩, fun h => h, rfl, rfl⟩
  | n + 1, F, hn, hF => by
    obtain ⟨P, p, rfl⟩ : ∃ P p, F = P ++ [p] := ⟨F.dropLast, F.getLast (by intro e; rw [e] at hn; simp at hn), (List.dropLast_concat_getLast _).symm⟩
    have hPn : P.length = n := by simpa using hn
    have hPs : Srt P := (List.pairwise_append.1 hF).1
    have hp : ∀ q ∈ P, lt q p := fun q hq => (List.pairwise_append.1 hF).2.2 q hq p (by simp)
    obtain ⟨h1, h2, h3, h4⟩ := chP_chn n P hPn hPs
    rw [chP_snoc]
    refine ⟨h1.push hp (fun b r e q hq => ?_) h2, fun _ => by simp, by simp, ?_⟩
    · rw [e] at h3
      have hl : P.getLast? = some b := by rw [← h3]; rfl
      obtain ⟨P', rfl⟩ : ∃ P', P = P' ++ [b] := by
        obtain ⟨ys, h5⟩ := List.getLast?_eq_some_iff.1 hl
        exact ⟨ys, h5⟩
      rcases List.mem_append.1 hq with hq | hq
      · exact .inr ((List.pairwise_append.1 hPs).2.2 q hq b (by simp))
      · exact .inl (by simpa using hq)
    · by_cases hP0 : P = []
      · subst hP0; rfl
      · obtain ⟨-, k2, -, -, k5⟩ := Chn.pop hp h1 (fun b r e q hq ho => by
          have hl : P.getLast? = some b := by rw [← h3, e]; rfl
          obtain ⟨ys, h5⟩ := List.getLast?_eq_some_iff.1 hl
          rcases ho with rfl | ho
          · rw [tn_aba]; omega
          · exfalso
            rw [h5] at hq hPs
            rcases List.mem_append.1 hq with hq | hq
            · exact lt_asymm ho ((List.pairwise_append.1 hPs).2.2 q hq b (by simp))
            · obtain rfl : q = b := by simpa using hq
              exact lt_irrefl _ ho)
        obtain ⟨y, s', hs⟩ : ∃ y s', popP p (chP P) = y :: s' := by
          cases e : popP p (chP P) with
          | nil => exact absurd e (k2 (h2 hP0))
          | cons y s' => exact ⟨y, s', rfl⟩
        rw [hs, List.getLast?_cons_cons, ← hs, k5, h4]
        cases P with
        | nil => exact absurd rfl hP0
        | cons a P => rfl
end Go.Proofs.Ytpkfngfenkcjoaa.Hl

/- Two chains make the hull. Plain facts. -/
set_option linter.all false
namespace Go.Proofs.Ytpkfngfenkcjoaa.Hl

/-- The middle one of three in line is between the others. -/
theorem on_mid {a m b : P2} (h1 : lt a m) (h2 : lt m b) (h : tn a b m = 0) : on a b m := by
  refine ⟨h, ?_⟩
  unfold tn at h
  have x1 : a.1 ≤ m.1 := by unfold lt at h1; omega
  have x2 : m.1 ≤ b.1 := by unfold lt at h2; omega
  by_cases hx : a.1 = b.1
  · unfold lt at h1 h2; omega
  · have hd : 0 < b.1 - a.1 := by omega
    have e : (b.1 - a.1) * (m.2 - a.2) = (b.2 - a.2) * (m.1 - a.1) := by omega
    have m1 : 0 ≤ m.1 - a.1 := by omega
    have m2 : 0 ≤ b.1 - m.1 := by omega
    rcases Int.le_total a.2 b.2 with c | c
    · have k1 := Int.mul_nonneg (show 0 ≤ b.2 - a.2 by omega) m1
      have k2 := Int.mul_nonneg (show 0 ≤ b.2 - a.2 by omega) m2
      have y1 : 0 ≤ m.2 - a.2 := by
        apply Classical.byContradiction
        intro hn
        have := Int.mul_pos hd (show 0 < -(m.2 - a.2) by omega)
        rw [Int.mul_neg] at this
        omega
      have y2 : 0 ≤ b.2 - m.2 := by
        apply Classical.byContradiction
        intro hn
        have := Int.mul_pos hd (show 0 < -(b.2 - m.2) by omega)
        have e2 : (b.1 - a.1) * -(b.2 - m.2) = -((b.2 - a.2) * (b.1 - m.1)) := by grind
        omega
      omega
    · have k1 := Int.mul_nonneg (show 0 ≤ a.2 - b.2 by omega) m1
      have k2 := Int.mul_nonneg (show 0 ≤ a.2 - b.2 by omega) m2
      have y1 : 0 ≤ a.2 - m.2 := by
        apply Classical.byContradiction
        intro hn
        have := Int.mul_pos hd (show 0 < m.2 - a.2 by omega)
        have e2 : (b.1 - a.1) * (m.2 - a.2) = -((a.2 - b.2) * (m.1 - a.1)) := by grind
        omega
      have y2 : 0 ≤ m.2 - b.2 := by
        apply Classical.byContradiction
        intro hn
        have := Int.mul_pos hd (show 0 < b.2 - m.2 by omega)
        have e2 : (b.1 - a.1) * (b.2 - m.2) = -((a.2 - b.2) * (b.1 - m.1)) := by grind
        omega
      omega
theorem cov_mid {S : List P2} {a m b : P2} (ha : a ∈ S) (hb : b ∈ S) (h1 : lt a m) (h2 : lt m b) (h : tn a b m = 0) : cov S m :=
  ⟨a, ha, b, hb, b, hb, fun e => lt_irrefl m (e ▸ h1), fun e => lt_irrefl m (e ▸ h2), fun e => lt_irrefl m (e ▸ h2), .inl (on_mid h1 h2 h)⟩
/-- Three different points in line: one of them is covered, and is neither the first nor the last of all. -/
theorem line_cov {S : List P2} {f l u v q : P2} (hf : ∀ p ∈ S, p = f ∨ lt f p) (hl : ∀ p ∈ S, p = l ∨ lt p l) (hu : u ∈ S) (hv : v ∈ S) (hq : q ∈ S) (n1 : u ≠ v) (n2 : u ≠ q) (n3 : v ≠ q) (h : tn u v q = 0) :
    ∃ m, (m = u ∨ m = v ∨ m = q) ∧ m ≠ f ∧ m ≠ l ∧ cov S m := by
  have key : ∀ a m b : P2, a ∈ S → m ∈ S → b ∈ S → lt a m → lt m b → tn a b m = 0 → m ≠ f ∧ m ≠ l ∧ cov S m := by
    intro a m b ha hm hb h1 h2 h3
    refine ⟨fun e => ?_, fun e => ?_, cov_mid ha hb h1 h2 h3⟩
    · subst e
      rcases hf a ha with rfl | g
      · exact lt_irrefl _ h1
      · exact lt_asymm h1 g
    · subst e
      rcases hl b hb with rfl | g
      · exact lt_irrefl _ h2
      · exact lt_asymm h2 g
  have e1 : tn u q v = 0 := by rw [tn_swap2]; omega
  have e2 : tn v q u = 0 := by rw [tn_rot]; exact h
  have e3 : tn v u q = 0 := by rw [tn_swap]; omega
  have e4 : tn q u v = 0 := by rw [tn_swap]; omega
  have e5 : tn q v u = 0 := by rw [tn_swap]; omega
  rcases lt_tri u v with g | g | g
  · rcases lt_tri v q with k | k | k
    · exact ⟨v, by simp, key u v q hu hv hq g k e1⟩
    · exact absurd k n3
    · rcases lt_tri u q with j | j | j
      · exact ⟨q, by simp, key u q v hu hq hv j k h⟩
      · exact absurd j n2
      · exact ⟨u, by simp, key q u v hq hu hv j g e5⟩
  · exact absurd g n1
  · rcases lt_tri v q with k | k | k
    · rcases lt_tri u q with j | j | j
      · exact ⟨u, by simp, key v u q hv hu hq g j e2⟩
      · exact absurd j n2
      · exact ⟨q, by simp, key v q u hv hq hu k j e3⟩
    · exact absurd k n3
    · exact ⟨v, by simp, key q v u hq hv hu k g e4⟩
/-- The pieces of a hull. -/
theorem isH_of {F h : List P2} {f l : P2} (hsub : ∀ p ∈ h, p ∈ F) (hlen : 2 ≤ h.length) (h0 : h[0] = f) (hf : ∀ p ∈ F, p = f ∨ lt f p) (hl : ∀ p ∈ F, p = l ∨ lt p l) (hnd : h.Nodup)
    (hleft : ∀ p ∈ F, ∀ i (hi : i + 1 < h.length), 0 ≤ tn h[i] h[i + 1] p) (hlast : ∀ p ∈ F, 0 ≤ tn h[h.length - 1] h[0] p) (hU : ∀ q ∈ h, q ≠ f → q ≠ l → ¬ cov F q) (h2 : ∀ e : h.length = 2, h[1] = l) : IsH F h := by
  have ne : ∀ i j (hi : i < h.length) (hj : j < h.length), i ≠ j → h[i] ≠ h[j] := fun i j hi hj hij e => by
    rcases Nat.lt_or_gt_of_ne hij with g | g
    · exact List.pairwise_iff_getElem.1 hnd i j hi hj g e
    · exact List.pairwise_iff_getElem.1 hnd j i hj hi g e.symm
  have strict : ∀ i j k (hi : i < h.length) (hj : j < h.length) (hk : k < h.length), i ≠ j → i ≠ k → j ≠ k → 0 ≤ tn h[i] h[j] h[k] → 0 < tn h[i] h[j] h[k] := by
    intro i j k hi hj hk n1 n2 n3 hge
    apply Classical.byContradiction
    intro hn
    obtain ⟨m, hm, m1, m2, m3⟩ := line_cov hf hl (hsub _ (List.getElem_mem hi)) (hsub _ (List.getElem_mem hj)) (hsub _ (List.getElem_mem hk)) (ne _ _ hi hj n1) (ne _ _ hi hk n2) (ne _ _ hj hk n3) (by omega)
    refine hU m ?_ m1 m2 m3
    rcases hm with rfl | rfl | rfl <;> exact List.getElem_mem _
  refine ⟨hsub, by omega, fun p hp => by rw [h0]; exact hf p hp, fun e => by omega, fun e p hp => ?_, fun e => ne 0 1 (by omega) (by omega) (by omega), fun _ => hleft, fun _ => hlast, fun _ i hi k hk n1 n2 => strict i (i + 1) k (by omega) hi hk (by omega) (Ne.symm n1) (Ne.symm n2) (hleft _ (hsub _ (List.getElem_mem hk)) i hi), fun _ k hk n1 n2 => strict (h.length - 1) 0 k (by omega) (by omega) hk (by omega) (Ne.symm n1) (Ne.symm n2) (hlast _ (hsub _ (List.getElem_mem hk)))⟩
  have a1 : 0 ≤ tn h[0] h[1] p := hleft p hp 0 (by omega)
  have a2 := hlast p hp
  simp only [e] at a2
  have a3 : tn h[1] h[0] p = -tn h[0] h[1] p := tn_swap _ _ _
  have a4 : tn h[0] h[1] p = 0 := by
    have : tn h[2 - 1] h[0] p = tn h[1] h[0] p := rfl
    omega
  rw [h0, h2 e] at a4 ⊢
  rcases hf p hp with rfl | g
  · exact ⟨by rw [tn_aba], by omega, by omega, by omega, by omega⟩
  · rcases hl p hp with rfl | k
    · exact ⟨by rw [tn_abb], by omega, by omega, by omega, by omega⟩
    · exact on_mid g k a4

def ng (p : P2) : P2 := (-p.1, -p.2)
theorem ng_ng (p : P2) : ng (ng p) = p := by simp [ng]
theorem tn_ng (a b c : P2) : tn (ng a) (ng b) (ng c) = tn a b c := by unfold tn ng; grind
theorem lt_ng (a b : P2) : lt (ng a) (ng b) ↔ lt b a := by simp only [lt, ng]; omega
theorem popP_ng (p : P2) : ∀ st : List P2, popP (ng p) (st.map ng) = (popP p st).map ng
  | [] => rfl
  | [a] => rfl
  | b :: a :: r => by
    show popP (ng p) (ng b :: ng a :: r.map ng) = _
    rw [popP, popP, tn_ng]
    split
    · rfl
    · exact popP_ng p (a :: r)
theorem chP_ng (l : List P2) : chP (l.map ng) = (chP l).map ng := by
  have : ∀ (l st : List P2), (l.map ng).foldl (fun st p => p :: popP p st) (st.map ng) = (l.foldl (fun st p => p :: popP p st) st).map ng := by
    intro l
    induction l with
    | nil => intro st; rfl
    | cons a l ih =>
      intro st
      rw [List.map_cons, List.foldl_cons, List.foldl_cons, popP_ng, ← List.map_cons, ih]
  exact this l []
end Go.Proofs.Ytpkfngfenkcjoaa.Hl
