/- VectorBox: the walk over what its calls give. -/
import Derived.Test.YtdicbeaocedkmaaVz
import Derived.Test.YtdicbeaocedkmaaVy
set_option linter.all false
namespace Go.Proofs.Ytdicbeaocedkmaa
open Go.RowKit

set_option maxRecDepth 100000 in
set_option maxHeartbeats 4000000 in
theorem box_long (L : List T3) (v : Value) (w : World) (hl : Rv w v L) (h : 100 < L.length) :
    Calls Try.prog 8 #[v] w (Ret (.bool true) w) := by
  have HK := Lib.hid known_true
  obtain ⟨p, b, off, cap, rfl, -, -, -, -⟩ := hl
  have h1 : (100 : Int) < (L.length : Int) := by omega
  generalize L.length = n at *
  clear h
  go_enter Try.func8, Try.ntmps8
  go_wp2_with fail
  refine (HK.out _).mono ?_
  rintro e y ⟨rfl, b⟩
  have E := Lib.hid b
  clear b
  go_wp2
  go_ret
  exact ⟨rfl, E.out⟩

set_option maxRecDepth 100000 in
set_option maxHeartbeats 4000000 in
theorem box_short (L : List T3) (v : Value) (w : World) (l1 l2 l3 h1 h2 h3 er : Int) (hl : Rv w v L) (h : L.length ≤ 100)
    (H1 : ∀ w', Rv w' v L → Calls Try.prog 35 #[v] w' (Ret (.tuple #[vv l1 l2 l3, vv h1 h2 h3, .int .i64 er]) w'))
    (hbad : inL 16777216 L = false → l1 = 0 ∧ l2 = 0 ∧ l3 = 0 ∧ h1 = 0 ∧ h2 = 0 ∧ h3 = 0 ∧ er = 2)
    (hnone : L.length = 0 → l1 = 0 ∧ l2 = 0 ∧ l3 = 0 ∧ h1 = 0 ∧ h2 = 0 ∧ h3 = 0 ∧ er = 9)
    (hok : inL 16777216 L = true → 0 < L.length → er = 0 ∧ ∀ w', Rv w' v L → Calls Try.prog 36 #[v] w' (Ret (.tuple #[vv l1 l2 l3, vv h1 h2 h3]) w')) :
    Calls Try.prog 8 #[v] w (Ret (.bool true) w) := by
  have HK := Lib.hid known_true
  have HV := Lib.hid (fun x y z w => rValid_any x y z w)
  have HL := Lib.hid hl
  have H1 := Lib.hid H1
  have HBAD := Lib.hid hbad
  have HNONE := Lib.hid hnone
  have HOK := Lib.hid hok
  have HF : Hid (∀ k (hk : k < L.length), inV 16777216 L[k].1 L[k].2.1 L[k].2.2 = false → inL 16777216 L = false) := fun k hk h => inL_false hk h
  have HT : Hid ((∀ k (hk : k < L.length), inV 16777216 L[k].1 L[k].2.1 L[k].2.2 = true) → inL 16777216 L = true) := fun h => inL_true h
  clear hbad hnone hok
  obtain ⟨p, b, off, cap, rfl, h2', h3', h4, h5⟩ := hl
  have H4 := Lib.hid h4
  have H5 := Lib.hid h5
  clear h2' h3' h4 h5
  obtain ⟨n, hn⟩ : ∃ n, n = L.length := ⟨_, rfl⟩
  have HN := Lib.hid hn
  rw [← hn] at H1 HL HOK h ⊢
  clear hn
  have f1 : ¬ (100 : Int) < (n : Int) := by omega
  have p0 : ∀ w, (binOp .eql 23 (.agg #[.int .i64 0, .int .i64 0, .int .i64 0]) (.agg #[.int .i64 0, .int .i64 0, .int .i64 0])).run Try.prog w = .ok (.bool true) w := fun w => eq_vec w 0 0 0 0 0 0
  have p1 : ∀ w, (binOp .eql 23 (.agg #[.int .i64 l1, .int .i64 l2, .int .i64 l3]) (.agg #[.int .i64 l1, .int .i64 l2, .int .i64 l3])).run Try.prog w = .ok (.bool true) w := fun w => by have := eq_vec w l1 l2 l3 l1 l2 l3; rw [vE_refl] at this; exact this
  have p2 : ∀ w, (binOp .eql 23 (.agg #[.int .i64 h1, .int .i64 h2, .int .i64 h3]) (.agg #[.int .i64 h1, .int .i64 h2, .int .i64 h3])).run Try.prog w = .ok (.bool true) w := fun w => by have := eq_vec w h1 h2 h3 h1 h2 h3; rw [vE_refl] at this; exact this
  go_enter Try.func8, Try.ntmps8
  go_wp2_with fail
  refine (H1.out _ HL.out).mono ?_
  rintro e y ⟨rfl, b⟩
  have E := Lib.hid b
  clear b
  go_wp2
  obtain ⟨u, hu⟩ : ∃ u : World, u = y.alloc (.cells #[.int .i64 l1, .int .i64 l2, .int .i64 l3] 23) := ⟨_, rfl⟩
  have b : Below y.heap.size y u := by rw [hu]; exact below_one _ _
  have E := Lib.hid (chain E.out b)
  have BX := Lib.hid ((Bxs.nil y).cons l1 l2 l3)
  rw [← hu] at BX
  have hs : y.heap.size + 1 = u.heap.size := by rw [hu]; simp
  rw [← hu, hs]
  obtain ⟨g3, hg3⟩ : ∃ g, g = y.heap.size := ⟨_, rfl⟩
  rw [← hg3] at BX ⊢
  clear hu b hg3 hs
  obtain ⟨t, ht⟩ : ∃ t : World, t = u.alloc (.cells #[.int .i64 h1, .int .i64 h2, .int .i64 h3] 23) := ⟨_, rfl⟩
  have b : Below u.heap.size u t := by rw [ht]; exact below_one _ _
  have E := Lib.hid (chain E.out b)
  have BX := Lib.hid (BX.out.cons h1 h2 h3)
  rw [← ht] at BX
  rw [← ht]
  obtain ⟨g4, hg4⟩ : ∃ g, g = u.heap.size := ⟨_, rfl⟩
  rw [← hg4] at BX ⊢
  clear ht b hg4
  go_loopw [7, 22] (fun _ iv wr => ∃ (wz : World) (k : Nat), wz = wr ∧ k ≤ n ∧ iv = .int .i64 (k : Int) ∧ Hid (∀ j (hj : j < L.length), j < k → inV 16777216 L[j].1 L[j].2.1 L[j].2.2 = true) ∧ Hid (Bxs wz [(g4, (h1, h2, h3)), (g3, (l1, l2, l3))]) ∧ Hid (Below w.heap.size w wz))
    (fun _ iv _ => n - (intOf iv).toNat)
  case atStart => exact ⟨t, 0, rfl, Nat.zero_le _, rfl, fun j _ hj => absurd hj (Nat.not_lt_zero _), BX, E⟩
  case round =>
    clear BX E
    obtain ⟨wz, k, rfl, hk, rfl, hall, BX, E⟩ := hrel
    by_cases hlt : k < n
    · have hkl : k < L.length := by have h5 : n = L.length := HN.out; omega
      obtain ⟨x, y, z, hL⟩ : ∃ x y z, L[k] = (x, y, z) := ⟨_, _, _, rfl⟩
      obtain rfl := H4.out (by omega)
      have c0 : wz.cell? ⟨b, off + k * 3, none⟩ = some (.int .i64 x) := by
        have := keep1 E.out (H5.out k hkl).1
        simpa [hL] using this
      have c1 : wz.cell? ⟨b, off + k * 3 + 1, none⟩ = some (.int .i64 y) := by
        have := keep1 E.out (H5.out k hkl).2.1
        simpa [hL] using this
      have c2 : wz.cell? ⟨b, off + k * 3 + 2, none⟩ = some (.int .i64 z) := by
        have := keep1 E.out (H5.out k hkl).2.2
        simpa [hL] using this
      have HVk := Lib.hid (fun w => HV.out x y z w)
      have hR : Hid (inV 16777216 x y z = true → ∀ j (hj : j < L.length), j < k + 1 → inV 16777216 L[j].1 L[j].2.1 L[j].2.2 = true) := by
        intro hs j hj hjk
        rcases Nat.lt_or_ge j k with g | g
        · exact hall.out j hj g
        · obtain rfl : j = k := by omega
          rw [hL]; exact hs
      have hF : Hid (inV 16777216 x y z = false → inL 16777216 L = false) := fun hs => HF.out k hkl (by rw [hL]; exact hs)
      clear hkl hL hall
      go_upto_region 7 with (fail)
      obtain ⟨q, hq⟩ : ∃ q : World, q = wz.alloc (.cells #[.int .i64 x, .int .i64 y, .int .i64 z] 23) := ⟨_, rfl⟩
      have b7 : Below wz.heap.size wz q := by rw [hq]; exact below_one _ _
      have E := Lib.hid (chain E.out b7)
      have BY := Lib.hid (BX.out.cons x y z)
      rw [← hq] at BY
      rw [← hq]
      obtain ⟨g7, hg7⟩ : ∃ g, g = wz.heap.size := ⟨_, rfl⟩
      rw [← hg7] at BY ⊢
      clear hq b7 hg7 c0 c1 c2 BX
      obtain ⟨d0, d1, d2⟩ := BY.out (g7, (x, y, z)) (by simp)
      by_cases hsz : inV 16777216 x y z = true
      · have HR := Lib.hid (hR.out hsz)
        rw [hsz] at HVk
        clear hR hF hsz
        go_wp2_with fail
        refine (HVk.out _).mono ?_
        rintro e w5 ⟨rfl, b5⟩
        have E := Lib.hid (chain E.out b5)
        have BX : Hid (Bxs w5 [(g4, (h1, h2, h3)), (g3, (l1, l2, l3))]) := fun p hp => (BY.out.below b5) p (List.mem_cons_of_mem _ hp)
        clear b5 d0 d1 d2 BY
        go_wp2
        go_roundw
        case rel => exact ⟨_, k + 1, rfl, by omega, by go_num, HR.out, BX, E⟩
        case measure => simp [intOf]; omega
      · rw [Bool.not_eq_true] at hsz
        have HB := Lib.hid (HBAD.out (hF.out hsz))
        rw [hsz] at HVk
        clear hR hF hsz
        go_wp2_with fail
        refine (HVk.out _).mono ?_
        rintro e w5 ⟨rfl, b5⟩
        have E := Lib.hid (chain E.out b5)
        have BX := Lib.hid (BY.out.below b5)
        clear b5 d0 d1 d2 BY HBAD HNONE HOK
        obtain ⟨rfl, rfl, rfl, rfl, rfl, rfl, rfl⟩ := HB.out
        obtain ⟨d0, d1, d2⟩ := BX.out (g3, (0, 0, 0)) (by simp)
        obtain ⟨e0, e1, e2⟩ := BX.out (g4, (0, 0, 0)) (by simp)
        clear p1 p2
        go_wp2_with fail
        refine (HK.out _).mono ?_
        rintro e w6 ⟨rfl, b6⟩
        have E := Lib.hid (chain E.out b6)
        clear b6 d0 d1 d2 e0 e1 e2
        go_wp2
        go_ret
        exact ⟨rfl, E.out⟩
    · obtain rfl : k = n := by omega
      have hA : Hid (inL 16777216 L = true) := HT.out (fun j hj => hall.out j hj (by have h5 : k = L.length := HN.out; omega))
      clear hall
      rcases Nat.eq_zero_or_pos k with h0 | h0
      · have HB := Lib.hid (HNONE.out (by have h5 : k = L.length := HN.out; omega))
        subst h0
        clear HBAD HNONE HOK
        obtain ⟨rfl, rfl, rfl, rfl, rfl, rfl, rfl⟩ := HB.out
        obtain ⟨d0, d1, d2⟩ := BX.out (g3, (0, 0, 0)) (by simp)
        obtain ⟨e0, e1, e2⟩ := BX.out (g4, (0, 0, 0)) (by simp)
        clear p1 p2
        go_wp2_with fail
        refine (HK.out _).mono ?_
        rintro e w6 ⟨rfl, b6⟩
        have E := Lib.hid (chain E.out b6)
        clear b6 d0 d1 d2 e0 e1 e2
        go_wp2
        go_ret
        exact ⟨rfl, E.out⟩
      · obtain ⟨rfl, HO⟩ := HOK.out hA.out (by have h5 : k = L.length := HN.out; omega)
        have HO := Lib.hid HO
        have HR := Lib.hid (HL.out.below E.out)
        have k1 : ((k : Int) == 0) = false := by rw [beq_eq_false_iff_ne]; omega
        have k2 : ¬ (k : Int) = 0 := by omega
        clear HBAD HNONE HOK
        go_wp2_with fail
        refine (HO.out _ HR.out).mono ?_
        rintro e w6 ⟨rfl, b6⟩
        have E := Lib.hid (chain E.out b6)
        have BX := Lib.hid (BX.out.below b6)
        clear b6
        go_upto_region 13 with (fail)
        obtain ⟨q, hq⟩ : ∃ q : World, q = (w6.alloc (.cells #[.int .i64 l1, .int .i64 l2, .int .i64 l3] 23)).alloc (.cells #[.int .i64 h1, .int .i64 h2, .int .i64 h3] 23) := ⟨_, rfl⟩
        have b7 : Below w6.heap.size w6 q := by rw [hq]; exact (below_one w6 _).alloc (by simp) _
        have v8 : V3 q w6.heap.size l1 l2 l3 := by rw [hq]; exact ⟨by simp [go_sem], by simp [go_sem], by simp [go_sem]⟩
        have v9 : V3 q (w6.heap.size + 1) h1 h2 h3 := by rw [hq]; exact ⟨by simp [go_sem], by simp [go_sem], by simp [go_sem]⟩
        rw [← hq]
        have E := Lib.hid (chain E.out b7)
        have BX := Lib.hid (BX.out.below b7)
        clear hq b7
        obtain ⟨d0, d1, d2⟩ := BX.out (g3, (l1, l2, l3)) (by simp)
        obtain ⟨e0, e1, e2⟩ := BX.out (g4, (h1, h2, h3)) (by simp)
        obtain ⟨i0, i1, i2⟩ := v8
        obtain ⟨j0, j1, j2⟩ := v9
        go_wp2_with fail
        refine (HK.out _).mono ?_
        rintro e w7 ⟨rfl, b6⟩
        have E := Lib.hid (chain E.out b6)
        clear b6 d0 d1 d2 e0 e1 e2 i0 i1 i2 j0 j1 j2
        go_wp2
        go_ret
        exact ⟨rfl, E.out⟩

theorem m3_self (a : T3) : m3 a a = a := by obtain ⟨x, y, z⟩ := a; simp [m3]
theorem M3_self (a : T3) : M3 a a = a := by obtain ⟨x, y, z⟩ := a; simp [M3]
theorem box_any (L : List T3) (v : Value) (w : World) (hl : Rv w v L) : Calls Try.prog 8 #[v] w (Ret (.bool true) w) := by
  by_cases h : 100 < L.length
  · exact box_long L v w hl h
  by_cases hv : inL 16777216 L = true
  · cases L with
    | nil =>
      exact box_short [] v w 0 0 0 0 0 0 9 hl (by simp) (fun w' h' => Box_none v w' h') (fun e => by rw [hv] at e; cases e) (fun _ => ⟨rfl, rfl, rfl, rfl, rfl, rfl, rfl⟩) (fun _ h0 => absurd h0 (by simp))
    | cons a T =>
      have e1 : (a :: T).foldl m3 a = T.foldl m3 a := by rw [List.foldl_cons, m3_self]
      have e2 : (a :: T).foldl M3 a = T.foldl M3 a := by rw [List.foldl_cons, M3_self]
      have key : ∀ w', Rv w' v (a :: T) → Calls Try.prog 35 #[v] w' (Ret (.tuple #[vv (T.foldl m3 a).1 (T.foldl m3 a).2.1 (T.foldl m3 a).2.2, vv (T.foldl M3 a).1 (T.foldl M3 a).2.1 (T.foldl M3 a).2.2, .int .i64 0]) w') := by
        intro w' h'
        obtain ⟨p, b, off, cap, rfl, -⟩ := id h'
        by_cases hc : cap = 1
        · subst hc; exact Box_one a T p _ w' h' hv
        · exact Box_more a T p _ cap w' hc h' hv
      exact box_short (a :: T) v w _ _ _ _ _ _ 0 hl (by omega) key (fun e => by rw [hv] at e; cases e) (fun e => by simp at e)
        (fun _ _ => ⟨rfl, fun w' h' => by have := rBox_any a T v w' h'; rw [e1, e2] at this; exact this⟩)
  · rw [Bool.not_eq_true] at hv
    exact box_short L v w 0 0 0 0 0 0 2 hl (by omega) (fun w' h' => Box_bad L v w' h' hv) (fun _ => ⟨rfl, rfl, rfl, rfl, rfl, rfl, rfl⟩) (fun e => by rw [List.eq_nil_of_length_eq_zero e] at hv; simp [inL] at hv) (fun e => by rw [hv] at e; cases e)
end Go.Proofs.Ytdicbeaocedkmaa
