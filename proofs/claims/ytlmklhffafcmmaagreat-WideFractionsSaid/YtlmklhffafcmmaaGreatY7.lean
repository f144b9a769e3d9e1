/- What the theorem leans on, part 7: RefNum, RefNum2, RefValid, RefGcd, RefTo1, RefTo2, RefFrom, RefPow, RefQuo1, RefQuo2. -/
import Derived.Test.YtlmklhffafcmmaaGreatY6
import Derived.Test.YtlmklhffafcmmaaGreatY2
import Derived.Test.YtlmklhffafcmmaaGreatY3

/- The reference's integer out of an int that is not negative. -/
namespace Go.Proofs.YtlmklhffafcmmaaGreat
open Go.RowKit

theorem num_dig {n : Nat} (hn : n < 9223372036854775808) : Nm.trimL [n % 1000000000, n / 1000000000 % 1000000000, n / 1000000000 / 1000000000] = Nm.dg D9 n := by
  have h1 : Nm.Dig D9 [n % 1000000000, n / 1000000000 % 1000000000, n / 1000000000 / 1000000000] :=
    Nm.dig_cons.2 ⟨Nat.mod_lt _ (by decide), Nm.dig_cons.2 ⟨Nat.mod_lt _ (by decide), Nm.dig_cons.2 ⟨by unfold D9; omega, Nm.dig_nil _⟩⟩⟩
  rw [Nm.trimL_dg D92 h1]
  congr 1
  simp only [Nm.val_cons, Nm.val_nil]
  unfold D9
  omega

theorem Ri.three (w : World) (a b c : Nat) : Ri (w.alloc (.cells #[.int .i64 (a : Int), .int .i64 (b : Int), .int .i64 (c : Int)] 3)) (.slice (some ⟨w.heap.size, 0, none⟩) 3 3) [a, b, c] :=
  Ri.of_ari (g := w.heap.size) (l := [a, b, c]) (heap_alloc_new w _) 3 rfl (by decide)

set_option maxRecDepth 100000 in
set_option maxHeartbeats 2000000 in
theorem rnum_nat (n : Nat) (w : World) (hn : n < 9223372036854775808) :
    Calls Tryz.prog 16 #[.int .i64 (n : Int)] w (IntPost (n : Int) w) := by
  have HD := Lib.hid (num_dig hn)
  obtain ⟨x0, h0⟩ : ∃ x0, n % 1000000000 = x0 := ⟨_, rfl⟩
  obtain ⟨x1, h1⟩ : ∃ x1, n / 1000000000 % 1000000000 = x1 := ⟨_, rfl⟩
  obtain ⟨x2, h2⟩ : ∃ x2, n / 1000000000 / 1000000000 = x2 := ⟨_, rfl⟩
  rw [h0, h1, h2] at HD
  have e0 : (n : Int) % 1000000000 = (x0 : Int) := by omega
  have e1 : (n : Int) / 1000000000 % 1000000000 = (x1 : Int) := by omega
  have e2 : (n : Int) / 1000000000 / 1000000000 = (x2 : Int) := by omega
  have HM := Lib.hid (fun v w h => (rmade_any false v n w h).mono (made_int (z := (n : Int)) (by simp)))
  have HT := Lib.hid (fun v xs w h => rtrim_any v xs w h)
  obtain ⟨w0, hw0⟩ : ∃ w0 : World, w0 = w.alloc (.cells #[.bool false, .slice none 0 0] 38) := ⟨_, rfl⟩
  have hb0 : Hid (Below w.heap.size w w0) := by rw [hw0]; exact below_new _ _
  have k4 : w0.cell? ⟨w.heap.size, 0, none⟩ = some (.bool false) := by rw [hw0]; simp [go_sem]
  have k5 : w0.cell? ⟨w.heap.size, 1, none⟩ = some (.slice none 0 0) := by rw [hw0]; simp [go_sem]
  have k6 : w0.frozen? ⟨w.heap.size, 0, none⟩ = false := by rw [hw0]; simp [go_sem]
  have k7 : w0.frozen? ⟨w.heap.size, 1, none⟩ = false := by rw [hw0]; simp [go_sem]
  have h3 := Ri.three w0 x0 x1 x2
  have b3 := below_new w0 (.cells #[.int .i64 (x0 : Int), .int .i64 (x1 : Int), .int .i64 (x2 : Int)] 3)
  have hsz : w0.heap.size = w.heap.size + 1 := by rw [hw0]; simp
  rw [hsz] at h3
  have G3 := Lib.hid (And.intro h3 b3)
  have Hw0 := Lib.hid hw0
  have KK := Lib.hid (And.intro k4 (And.intro k5 (And.intro k6 k7)))
  obtain ⟨nn, hnn⟩ : ∃ nn : Int, (n : Int) = nn := ⟨_, rfl⟩
  have hn0 : 0 ≤ nn := by omega
  have hn1 : nn < 9223372036854775808 := by omega
  rw [hnn] at e0 e1 e2 HM ⊢
  clear h0 h1 h2 h3 b3 hsz hw0 k4 k5 k6 k7 hn hnn
  go_enter Tryz.func16, Tryz.ntmps16
  go_wp2_with fail
  rw [← Hw0.out]
  refine (HT.out _ _ _ G3.out.1).mono ?_
  rintro e w5 ⟨v5, rfl, h5, rfl⟩
  rw [HD.out] at h5
  have H5 := Lib.hid h5
  clear h5
  go_wp2_with fail
  refine (HM.out _ _ H5.out).mono ?_
  rintro e w6 ⟨v6, he, h6, b6⟩
  unfold iV at he
  obtain ⟨zb, hzb⟩ : ∃ zb, decide (nn < 0) = zb := ⟨_, rfl⟩
  rw [hzb] at he
  have HZB := Lib.hid hzb
  clear hzb
  subst he
  have c6 := link G3.out.2 b6
  have q4 := keep1 c6 KK.out.1
  have q5 := keep1 c6 KK.out.2.1
  have q6 := keepf c6 KK.out.1 KK.out.2.2.1
  have q7 := keepf c6 KK.out.2.1 KK.out.2.2.2
  have H6 := Lib.hid h6
  have HZ := Lib.hid (link hb0.out c6)
  obtain ⟨pm, bm, om, cm, rfl, hrm⟩ := h6
  clear hrm b6 c6
  go_wp2
  exact bodyPost_ret (v := .agg #[.bool zb, .slice pm (Nm.dg D9 nn.natAbs).length cm]) (by simp [results, Tryz.results16, go_sem, q4, q5]) rfl ⟨_, by rw [iV, HZB.out], H6.out.set2 q4 q5 (fun _ => by simp), (HZ.out.setCell (p := ⟨w.heap.size, 0, none⟩) (Nat.le_refl _) _).setCell (p := ⟨w.heap.size, 1, none⟩) (Nat.le_refl _) _⟩
end Go.Proofs.YtlmklhffafcmmaaGreat

/- The reference's integer out of any int. -/
namespace Go.Proofs.YtlmklhffafcmmaaGreat
open Go.RowKit

set_option maxRecDepth 100000 in
set_option maxHeartbeats 2000000 in
theorem rnum_neg (m : Nat) (w : World) (h0 : 0 < m) (hm : m ≤ 9223372036854775808) :
    Calls Tryz.prog 16 #[.int .i64 (-(m : Int))] w (IntPost (-(m : Int)) w) := by
  obtain ⟨x0, h0'⟩ : ∃ x0, m % 1000000000 = x0 := ⟨_, rfl⟩
  obtain ⟨x1, h1⟩ : ∃ x1, m / 1000000000 % 1000000000 = x1 := ⟨_, rfl⟩
  obtain ⟨x2, h2⟩ : ∃ x2, m / 1000000000 / 1000000000 = x2 := ⟨_, rfl⟩
  have HD : Hid (Nm.trimL [x0, x1, x2] = Nm.dg D9 m) := by
    show _ = _
    subst h0' h1 h2
    have h1 : Nm.Dig D9 [m % 1000000000, m / 1000000000 % 1000000000, m / 1000000000 / 1000000000] :=
      Nm.dig_cons.2 ⟨Nat.mod_lt _ (by decide), Nm.dig_cons.2 ⟨Nat.mod_lt _ (by decide), Nm.dig_cons.2 ⟨by unfold D9; omega, Nm.dig_nil _⟩⟩⟩
    rw [Nm.trimL_dg D92 h1]
    congr 1
    simp only [Nm.val_cons, Nm.val_nil]
    unfold D9
    omega
  have f0 : x0 < 1000000000 := by rw [← h0']; exact Nat.mod_lt _ (by decide)
  have f1 : x1 < 1000000000 := by rw [← h1]; exact Nat.mod_lt _ (by decide)
  have f2 : x2 < 1000000000 := by omega
  obtain ⟨q, hq⟩ : ∃ q, m / 1000000000 = q := ⟨_, rfl⟩
  rw [hq] at h1 h2
  have hml : (Nm.dg D9 m).length ≤ 1000000 := by
    have h6 : (9223372036854775808 : Nat) < D9 ^ 3 := by decide
    have h5 := Nm.len_le_of_val D92 (Nm.nrm_dg D92 m) (k := 3) (by rw [Nm.val_dg D92]; omega)
    omega
  have hM0 := fun v w (h : Ri w v (Nm.dg D9 m)) => (rmade_any true v m w h).mono (made_int (z := -(m : Int)) (by simp))
  have HM := Lib.hid hM0
  have HT := Lib.hid (fun v xs w h => rtrim_any v xs w h)
  have HSb0 := fun v1 v2 w' (h1 : Rz w' v1 (-(m : Int))) (h2 : Rz w' v2 0) => rsub_int (-(m : Int)) 0 v1 v2 w' h1 h2 (by rw [Int.natAbs_neg]; exact hml) (by simp [Nm.dg_zero])
  have HSb := Lib.hid HSb0
  have HZ0 : Hid (-(m : Int) - 0 = -(m : Int)) := Int.sub_zero _
  obtain ⟨nn, hnn⟩ : ∃ nn : Int, -(m : Int) = nn := ⟨_, rfl⟩
  have e0 : Int.tmod nn 1000000000 = -(x0 : Int) := by rw [← hnn, Int.neg_tmod, Int.tmod_eq_emod_of_nonneg (by omega)]; omega
  have e1 : Int.tdiv nn 1000000000 = -(q : Int) := by rw [← hnn, Int.neg_tdiv, Int.tdiv_eq_ediv_of_nonneg (by omega)]; omega
  have e2 : Int.tmod (-(q : Int)) 1000000000 = -(x1 : Int) := by rw [Int.neg_tmod, Int.tmod_eq_emod_of_nonneg (by omega)]; omega
  have e3 : Int.tdiv (-(q : Int)) 1000000000 = -(x2 : Int) := by rw [Int.neg_tdiv, Int.tdiv_eq_ediv_of_nonneg (by omega)]; omega
  obtain ⟨w0, hw0⟩ : ∃ w0 : World, w0 = w.alloc (.cells #[.bool false, .slice none 0 0] 38) := ⟨_, rfl⟩
  have hb0 : Hid (Below w.heap.size w w0) := by rw [hw0]; exact below_new _ _
  have k4 : w0.cell? ⟨w.heap.size, 0, none⟩ = some (.bool false) := by rw [hw0]; simp [go_sem]
  have k5 : w0.cell? ⟨w.heap.size, 1, none⟩ = some (.slice none 0 0) := by rw [hw0]; simp [go_sem]
  have k6 : w0.frozen? ⟨w.heap.size, 0, none⟩ = false := by rw [hw0]; simp [go_sem]
  have k7 : w0.frozen? ⟨w.heap.size, 1, none⟩ = false := by rw [hw0]; simp [go_sem]
  have h3 := Ri.three w0 x0 x1 x2
  have b3 := below_new w0 (.cells #[.int .i64 (x0 : Int), .int .i64 (x1 : Int), .int .i64 (x2 : Int)] 3)
  have hsz : w0.heap.size = w.heap.size + 1 := by rw [hw0]; simp
  rw [hsz] at h3
  have G3 := Lib.hid (And.intro h3 b3)
  have Hw0 := Lib.hid hw0
  have KK := Lib.hid (And.intro k4 (And.intro k5 (And.intro k6 k7)))
  have hn0 : nn < 0 := by omega
  have hn1 : -9223372036854775808 ≤ nn := by omega
  have hq1 : (q : Int) ≤ 9223372037 := by omega
  rw [hnn] at HM HSb HZ0 ⊢
  clear h0' h1 h2 h3 b3 hsz hw0 k4 k5 k6 k7 hm hnn hM0 HSb0 hml h0 hq
  go_enter Tryz.func16, Tryz.ntmps16
  go_wp2_with fail
  rw [← Hw0.out]
  refine (HT.out _ _ _ G3.out.1).mono ?_
  rintro e w5 ⟨v5, rfl, h5, rfl⟩
  rw [HD.out] at h5
  have H5 := Lib.hid h5
  clear h5
  go_wp2_with fail
  refine (HM.out _ _ H5.out).mono ?_
  rintro e w6 ⟨v6, he, h6, b6⟩
  unfold iV at he
  obtain ⟨zb, hzb⟩ : ∃ zb, decide (nn < 0) = zb := ⟨_, rfl⟩
  rw [hzb] at he
  have HZB := Lib.hid hzb
  clear hzb
  subst he
  have HS6 := HSb.out v6 (.slice none 0 0) w6 h6 (Ri.nil _)
  unfold iV at HS6
  rw [HZB.out] at HS6
  have HS7 := Lib.hid HS6
  have C6 := Lib.hid (link G3.out.2 b6)
  have H6 := Lib.hid h6
  clear h6 b6 HS6
  go_wp2_with fail
  refine HS7.out.mono ?_
  rintro e w7 ⟨v7, he, h7, b7⟩
  rw [HZ0.out] at he h7
  unfold iV at he
  rw [HZB.out] at he
  subst he
  have c7 := link C6.out b7
  have q4 := keep1 c7 KK.out.1
  have q5 := keep1 c7 KK.out.2.1
  have q6 := keepf c7 KK.out.1 KK.out.2.2.1
  have q7 := keepf c7 KK.out.2.1 KK.out.2.2.2
  have H7 := Lib.hid h7
  have HZ := Lib.hid (link hb0.out c7)
  obtain ⟨pm, bm, om, cm, rfl, hrm⟩ := h7
  clear hrm b7 c7
  go_wp2
  exact bodyPost_ret (v := .agg #[.bool zb, .slice pm (Nm.dg D9 nn.natAbs).length cm]) (by simp [results, Tryz.results16, go_sem, q4, q5]) rfl ⟨_, by rw [iV, HZB.out], H7.out.set2 q4 q5 (fun _ => by simp), (HZ.out.setCell (p := ⟨w.heap.size, 0, none⟩) (Nat.le_refl _) _).setCell (p := ⟨w.heap.size, 1, none⟩) (Nat.le_refl _) _⟩

theorem rnum_any (n : Int) (w : World) (h1 : -9223372036854775808 ≤ n) (h2 : n ≤ 9223372036854775807) :
    Calls Tryz.prog 16 #[.int .i64 n] w (IntPost n w) := by
  by_cases h : n < 0
  · obtain ⟨m, rfl⟩ : ∃ m : Nat, n = -(m : Int) := ⟨n.natAbs, by omega⟩
    exact rnum_neg m w (by omega) (by omega)
  · obtain ⟨m, rfl⟩ : ∃ m : Nat, n = (m : Int) := ⟨n.natAbs, by omega⟩
    exact rnum_nat m w (by omega)
end Go.Proofs.YtlmklhffafcmmaaGreat

/- The reference's validity of a wide integer. -/
namespace Go.Proofs.YtlmklhffafcmmaaGreat
open Go.RowKit

set_option maxHeartbeats 400000 in
theorem rvalid_any (a : Bool) (s : ByteArray) (w : World) (hs : s.size ≤ 140737488351232) : Calls Tryz.prog 64 #[.agg #[.bool a, .string s]] w (BPost (vld a s) w) := by
  rcases Nat.eq_zero_or_pos s.size with h0 | h0
  · have E : Hid (vld a s = !a) := by show _ = _; unfold vld; rw [dif_neg (by omega)]
    have h1 : ((s.size : Int) == 0) = true := beq_iff_eq.2 (by omega)
    have hb : Hid (Below w.heap.size w (w.alloc (.cells #[.bool a, .string s] 23))) := (Below.refl _ _).alloc (Nat.le_refl _) _
    clear h0
    go_enter Tryz.func64, Tryz.ntmps64
    go_wp2
    go_ret
    exact ⟨by rw [E.out]; rfl, hb.out⟩
  · have E : Hid (vld a s = (decide (s.size ≤ 8192) && (s[0] != 0))) := by show _ = _; unfold vld; rw [dif_pos h0]
    have h1 : ((s.size : Int) == 0) = false := beq_eq_false_iff_ne.2 (by omega)
    have hb : Hid (Below w.heap.size w (w.alloc (.cells #[.bool a, .string s] 23))) := (Below.refl _ _).alloc (Nat.le_refl _) _
    by_cases h2 : s.size ≤ 8192
    · have e2 : Hid (((s[0].toNat : Int) != 0) = (s[0] != 0)) := by
        show _ = _
        by_cases hz : s[0] = 0
        · simp [hz]
        · have : s[0].toNat ≠ 0 := fun h => hz (UInt8.toNat_inj.1 h)
          have h3 : ((s[0].toNat : Int) != 0) = true := by simp; omega
          rw [h3]; symm; simpa using hz
      have hd : Hid (decide (s.size ≤ 8192) = true) := decide_eq_true h2
      go_enter Tryz.func64, Tryz.ntmps64
      go_wp2
      go_ret
      exact ⟨by rw [E.out, hd.out, Bool.true_and, ← e2.out]; rfl, hb.out⟩
    · have hd : Hid (decide (s.size ≤ 8192) = false) := decide_eq_false h2
      go_enter Tryz.func64, Tryz.ntmps64
      go_wp2
      go_ret
      exact ⟨by rw [E.out, hd.out, Bool.false_and]; rfl, hb.out⟩
end Go.Proofs.YtlmklhffafcmmaaGreat

/- The reference's greatest common divisor. -/
namespace Go.Proofs.YtlmklhffafcmmaaGreat
open Go.RowKit

theorem Ri.uniq {w : World} {v : Value} {xs ys : List Nat} (h : Ri w v xs) (k : Ri w v ys) : xs = ys := by
  obtain ⟨p, b, off, cap, h1, h2, h3, h4, h5, h6⟩ := h
  obtain ⟨q, c, o, cp, k1, k2, k3, k4, k5, k6⟩ := k
  rw [h1] at k1
  obtain ⟨rfl, hl, rfl⟩ := Value.slice.inj k1
  refine List.ext_getElem hl fun i hx hy => ?_
  have e1 := h4 (by intro e; rw [e] at hx; exact absurd hx (Nat.not_lt_zero _))
  have e2 := k4 (by intro e; rw [e] at hy; exact absurd hy (Nat.not_lt_zero _))
  rw [e1] at e2
  obtain ⟨rfl, rfl⟩ : b = c ∧ off = o := by simpa using e2
  have e3 := h6 i hx
  rw [k6 i hy] at e3
  have e4 := (Value.int.inj (Option.some.inj e3)).2
  omega
open Classical in
/-- The number that a slice reads as. -/
noncomputable def numOf (w : World) (v : Value) : Nat := if h : ∃ n, Ri w v (Nm.dg D9 n) then h.choose else 0
theorem numOf_eq {w : World} {v : Value} {n : Nat} (h : Ri w v (Nm.dg D9 n)) : numOf w v = n := by
  have hx : ∃ n, Ri w v (Nm.dg D9 n) := ⟨n, h⟩
  unfold numOf
  rw [dif_pos hx]
  have e := hx.choose_spec.uniq h
  have e2 := congrArg (Nm.val D9) e
  rwa [Nm.val_dg D92, Nm.val_dg D92] at e2
theorem dg9_mono {a b : Nat} (h : a ≤ b) : (Nm.dg D9 a).length ≤ (Nm.dg D9 b).length := by
  refine Nm.len_le_of_val D92 (Nm.nrm_dg D92 a) ?_
  rw [Nm.val_dg D92]
  have h1 := Nm.val_lt (Nm.dig_dg D92 b)
  rw [Nm.val_dg D92] at h1
  omega

set_option maxRecDepth 100000 in
set_option maxHeartbeats 2000000 in
theorem rgcd_int (x y : Int) (v1 v2 : Value) (w : World) (h1 : Rz w v1 x) (h2 : Rz w v2 y) (l1 : (Nm.dg D9 x.natAbs).length ≤ 100000) (l2 : (Nm.dg D9 y.natAbs).length ≤ 100000) :
    Calls Tryz.prog 66 #[iV x v1, iV y v2] w (IntPost (Nat.gcd x.natAbs y.natAbs : Nat) w) := by
  have H1 := Lib.hid (show Ri w v1 (Nm.dg D9 x.natAbs) from h1)
  have H2 := Lib.hid (show Ri w v2 (Nm.dg D9 y.natAbs) from h2)
  have L := Lib.hid (And.intro l1 l2)
  obtain ⟨pa, ba, oa, ca, rfl, hr1⟩ := h1
  obtain ⟨pb, bb, ob, cb, rfl, hr2⟩ := h2
  clear hr1 hr2 l1 l2
  unfold iV at *
  generalize x.natAbs = m0 at *
  generalize y.natAbs = n0 at *
  generalize decide (x < 0) = a at *
  generalize decide (y < 0) = b at *
  obtain ⟨G, hG⟩ : ∃ G, Nat.gcd m0 n0 = G := ⟨_, rfl⟩
  rw [hG]
  have HG := Lib.hid hG
  clear hG
  have HM := Lib.hid (fun v w h => (rmade_any false v G w h).mono (made_int (z := (G : Int)) (by simp)))
  have HO := Lib.hid (fun v1 v2 m n w hn h1 h2 l1 l2 => rover_any v1 v2 m n w hn h1 h2 l1 l2)
  generalize hma : (Nm.dg D9 m0).length = ma at *
  generalize hna : (Nm.dg D9 n0).length = na at *
  obtain ⟨w0, hw0⟩ : ∃ w0 : World, w0 = ((w.alloc (.cells #[.bool a, .slice pa ma ca] 38)).alloc (.cells #[.bool b, .slice pb na cb] 38)).alloc (.cells #[.bool false, .slice none 0 0] 38) := ⟨_, rfl⟩
  have hb0 : Hid (Below w.heap.size w w0) := by rw [hw0]; exact (((Below.refl _ _).alloc (Nat.le_refl _) _).alloc (by simp) _).alloc (by simp; omega) _
  have k1 : w0.cell? ⟨w.heap.size, 1, none⟩ = some (.slice pa ma ca) := by rw [hw0]; simp [go_sem]
  have k3 : w0.cell? ⟨w.heap.size + 1, 1, none⟩ = some (.slice pb na cb) := by rw [hw0]; simp [go_sem]
  have k4 : w0.cell? ⟨w.heap.size + 1 + 1, 0, none⟩ = some (.bool false) := by rw [hw0]; simp [go_sem]
  have k5 : w0.cell? ⟨w.heap.size + 1 + 1, 1, none⟩ = some (.slice none 0 0) := by rw [hw0]; simp [go_sem]
  have k6 : w0.frozen? ⟨w.heap.size + 1 + 1, 0, none⟩ = false := by rw [hw0]; simp [go_sem]
  have k7 : w0.frozen? ⟨w.heap.size + 1 + 1, 1, none⟩ = false := by rw [hw0]; simp [go_sem]
  have KK := Lib.hid (And.intro k4 (And.intro k5 (And.intro k6 k7)))
  have Hw0 := Lib.hid hw0
  have HA := Lib.hid (And.intro hma hna)
  clear hw0 k4 k5 k6 k7 hma hna
  go_enter Tryz.func66, Tryz.ntmps66
  go_wp2_with fail
  rw [← Hw0.out]
  go_quiet (fail)
  go_wp2_with fail
  go_loopw [5, 6] (fun av bv wr => ∃ (wz : World) (m n : Nat), wz = wr ∧ Hid (Ri wz av (Nm.dg D9 m)) ∧ Hid (Ri wz bv (Nm.dg D9 n)) ∧ Hid (Nat.gcd m n = G) ∧ Hid ((Nm.dg D9 m).length ≤ 100000) ∧ Hid ((Nm.dg D9 n).length ≤ 100000) ∧ Hid (Below w0.heap.size w0 wz))
    (fun _ bv wr => numOf wr bv)
  case atStart =>
    have hbq := below_drew' (Below.refl w0.heap.size w0) nq
    exact ⟨_, m0, n0, rfl, H1.out.below (link hb0.out hbq) (Nat.le_refl _), H2.out.below (link hb0.out hbq) (Nat.le_refl _), HG, by have := L.out.1; have h5 := HA.out.1; show _ ≤ _; omega, by have := L.out.2; have h5 := HA.out.2; show _ ≤ _; omega, hbq⟩
  case round =>
    obtain ⟨wr, m, n, rfl, hra, hrb, hg, hlm, hln, hbl⟩ := hrel
    obtain ⟨pq, bq, oq, cq, rfl, hrq⟩ := hrb.out
    clear hrq
    rcases Nat.eq_zero_or_pos n with hn0 | hn0
    · have hl0 : ¬ (0 < ((Nm.dg D9 n).length : Int)) := fun h => dg9_len.1 h hn0
      have HGm : Hid (m = G) := by have h5 := hg.out; rw [hn0, Nat.gcd_zero_right] at h5; exact h5
      clear hn0
      have HMm := Lib.hid (HM.out _ _ (by rw [← HGm.out]; exact hra.out))
      go_wp2_with fail
      refine HMm.out.mono ?_
      rintro e w6 ⟨v6, he, h6, b6⟩
      unfold iV at he
      obtain ⟨zb, hzb⟩ : ∃ zb, decide ((G : Int) < 0) = zb := ⟨_, rfl⟩
      rw [hzb] at he
      have HZB := Lib.hid hzb
      clear hzb
      subst he
      have c6 := link hbl.out b6
      have q4 := keep1 c6 KK.out.1
      have q5 := keep1 c6 KK.out.2.1
      have q6 := keepf c6 KK.out.1 KK.out.2.2.1
      have q7 := keepf c6 KK.out.2.1 KK.out.2.2.2
      have H6 := Lib.hid h6
      have HZ := Lib.hid (link hb0.out c6)
      obtain ⟨pm, bm, om, cm, rfl, hrm⟩ := h6
      clear hrm b6 c6
      go_wp2
      exact bodyPost_ret (v := .agg #[.bool zb, .slice pm (Nm.dg D9 (G : Int).natAbs).length cm]) (by simp [results, Tryz.results66, go_sem, q4, q5]) rfl ⟨_, by rw [iV, HZB.out], H6.out.set2 q4 q5 (fun _ => by simp), (HZ.out.setCell (p := ⟨w.heap.size + 1 + 1, 0, none⟩) (by simp; omega) _).setCell (p := ⟨w.heap.size + 1 + 1, 1, none⟩) (by simp; omega) _⟩
    · have hl0 : 0 < ((Nm.dg D9 n).length : Int) := dg9_len.2 (by omega)
      have HOv := Lib.hid (HO.out _ _ m n wr hn0 hra.out hrb.out hlm.out hln.out)
      have Hn0 := Lib.hid hn0
      clear hn0
      go_wp2_with fail
      refine HOv.out.mono ?_
      rintro e w6 ⟨q, r, rfl, hq, hr, b6⟩
      have HR := Lib.hid hr
      have HN2 := Lib.hid (hrb.out.below b6 (Nat.le_refl _))
      have HB := Lib.hid (link hbl.out b6)
      have HGG : Hid (Nat.gcd n (m % n) = G) := by have h5 := hg.out; rw [Nat.gcd_comm, Nat.gcd_rec] at h5; rw [Nat.gcd_comm]; exact h5
      have HLR : Hid ((Nm.dg D9 (m % n)).length ≤ 100000) := by have h5 := dg9_mono (Nat.le_of_lt (Nat.mod_lt m Hn0.out)); have h6 := hln.out; show _ ≤ _; omega
      have HNUM : Hid (numOf w6 r < numOf wr (.slice pq (Nm.dg D9 n).length cq)) := by
        show _ < _
        rw [numOf_eq hr, numOf_eq hrb.out]
        exact Nat.mod_lt m Hn0.out
      clear hq hr b6
      go_wp2
      go_roundw
      case rel => exact ⟨_, n, m % n, rfl, HN2, HR, HGG, hln, HLR, HB⟩
      case measure => exact HNUM.out
end Go.Proofs.YtlmklhffafcmmaaGreat

/- Plain facts on the reference's way from digits to bytes; trim with the slice that comes back. -/
namespace Go.Proofs.YtlmklhffafcmmaaGreat
open Go.RowKit

/-- From the place k on, divided by 256: the quotient so far, and the rest. -/
def ToInv (X : List Nat) (k r : Nat) (t : List Nat) : Prop :=
  t.length + k = X.length ∧ Nm.Dig D9 t ∧ r < 256 ∧ Nm.val D9 (X.drop k) = Nm.val D9 t * 256 + r

theorem ToInv.start (X : List Nat) : ToInv X X.length 0 [] :=
  ⟨by simp, Nm.dig_nil _, by omega, by rw [List.drop_of_length_le (Nat.le_refl _)]; simp [Nm.val]⟩
theorem ToInv.step {X t : List Nat} {j r : Nat} (h : ToInv X (j + 1) r t) (hj : j < X.length) (dx : X[j] < D9) : ToInv X j ((r * 1000000000 + X[j]) % 256) ((r * 1000000000 + X[j]) / 256 :: t) := by
  obtain ⟨h1, h2, h3, h4⟩ := h
  refine ⟨by simp; omega, Nm.dig_cons.2 ⟨by unfold D9 at *; omega, h2⟩, Nat.mod_lt _ (by decide), ?_⟩
  rw [List.drop_eq_getElem_cons hj, Nm.val_cons, Nm.val_cons, h4]
  have := Nat.div_add_mod (r * 1000000000 + X[j]) 256
  have e : D9 = 1000000000 := rfl
  rw [e]
  generalize (r * 1000000000 + X[j]) / 256 = a at *
  generalize (r * 1000000000 + X[j]) % 256 = b at *
  generalize Nm.val 1000000000 t = v at *
  generalize X[j] = x at *
  omega
theorem ToInv.finish {X t : List Nat} {r : Nat} (h : ToInv X 0 r t) : r = Nm.val D9 X % 256 ∧ Nm.trimL t = Nm.dg D9 (Nm.val D9 X / 256) ∧ t.length = X.length := by
  obtain ⟨h1, h2, h3, h4⟩ := h
  rw [List.drop_zero] at h4
  refine ⟨by omega, ?_, by omega⟩
  rw [Nm.trimL_dg D92 h2]
  congr 1
  omega

/-- Cells that may be written. -/
def Wr (w : World) (g : Nat) (l : List Nat) : Prop := ∀ k (h : k < l.length), w.cell? ⟨g, k, none⟩ = some (.int .i64 (l[k] : Int)) ∧ w.frozen? ⟨g, k, none⟩ = false
theorem Wr.of_own {w : World} {B n : Nat} {g cap : Nat} {l : List Nat} (h : w.ownsRow B 3 1 (.slice (some ⟨g, 0, none⟩) n cap) n (iv l)) : Wr w g l := by
  intro k hk
  have h1 := h.cells (g := g) rfl k (.int .i64 (l[k] : Int)) (iv_get l k hk)
  have hadd : ((⟨g, 0, none⟩ : Addr).add k) = ⟨g, k, none⟩ := by unfold Addr.add; split <;> simp_all
  rw [hadd] at h1
  refine ⟨h1, ?_⟩
  rcases h.2 with ⟨h2, _⟩ | ⟨g2, cap2, cur, h2, hB, hg, _⟩
  · simp at h2
  · have : g2 = g := by injection h2 with h3; injection h3 with h4; injection h4 with h5; exact h5.symm
    subst this
    exact frozen_of_row w g2 k _ _ hg
theorem Wr.keep {w w' : World} {g : Nat} {l : List Nat} (h : Wr w g l) (he : w'.heap[g]? = w.heap[g]?) : Wr w' g l := fun k hk =>
  ⟨(World.cell?_of_block (a := ⟨g, k, none⟩) he).trans (h k hk).1, (World.frozen?_of_block (a := ⟨g, k, none⟩) he).trans (h k hk).2⟩
theorem Wr.lt {w : World} {g : Nat} {l : List Nat} (h : Wr w g l) (h0 : 0 < l.length) : g < w.heap.size := World.block_lt_of_cell? w _ (h 0 h0).1
theorem Wr.set {w : World} {g : Nat} {l : List Nat} (h : Wr w g l) (k n : Nat) : Wr (w.setCell ⟨g, k, none⟩ (.int .i64 (n : Int))) g (l.set k n) := by
  intro j hj
  have hj2 : j < l.length := by simpa using hj
  obtain ⟨h1, h2⟩ := h j hj2
  have hc := h1
  by_cases hjk : j = k
  · subst hjk
    refine ⟨?_, by simpa [go_sem] using h2⟩
    simp only [List.getElem_set_self]
    simp [go_sem, h1]
  · refine ⟨?_, by simpa [go_sem] using h2⟩
    rw [List.getElem_set_ne (fun e => hjk e.symm)]
    have hkj : ¬ k = j := fun e => hjk e.symm
    simp [go_sem, h1, hjk, hkj]
theorem Wr.take {w : World} {g : Nat} {l : List Nat} (h : Wr w g l) (n : Nat) : Wr w g (l.take n) := by
  intro k hk
  have hk2 : k < l.length := by simp at hk; omega
  rw [List.getElem_take]
  exact h k hk2
theorem Wr.trim {w : World} {g : Nat} {l : List Nat} (h : Wr w g l) : Wr w g (Nm.trimL l) := by
  rw [Nm.trimL_is_take l]
  exact h.take _
theorem Wr.ri {w : World} {g cap : Nat} {l : List Nat} (h : Wr w g l) (hg : g < w.heap.size) (h1 : l.length ≤ cap) (h2 : cap ≤ maxLen) : Ri w (.slice (some ⟨g, 0, none⟩) l.length cap) l :=
  ⟨some ⟨g, 0, none⟩, g, 0, cap, rfl, h1, h2, fun _ => rfl, Or.inr ⟨rfl, hg⟩, fun k hk => by rw [Nat.zero_add]; exact (h k hk).1⟩

theorem own_only {w w' : World} {g B n : Nat} {t : TypeId} {v : Value} {xs : List Value} (h : w.ownsRow B t 1 v n xs) (ho : Only g w w') (hg : g < B) : w'.ownsRow B t 1 v n xs := by
  refine ⟨h.1, ?_⟩
  rcases h.2 with h2 | ⟨g2, cap2, cur, h2, hB, hg2, hr⟩
  · exact Or.inl h2
  · exact Or.inr ⟨g2, cap2, cur, h2, hB, (ho.block g2 (by omega)).trans hg2, hr⟩

set_option maxRecDepth 100000 in
set_option maxHeartbeats 400000 in
theorem rtrim_exact (g cap : Nat) (xs : List Nat) (w : World) (h : Wr w g xs) (h2 : xs.length ≤ cap) (h3 : cap ≤ maxLen) : Calls Tryz.prog 69 #[.slice (some ⟨g, 0, none⟩) xs.length cap] w fun e w' => e = .returned (.slice (some ⟨g, 0, none⟩) (Nm.trimL xs).length cap) ∧ w = w' := by
  have hc := h3
  unfold maxLen at hc
  have hl : xs.length ≤ 9223372036854775807 := by omega
  have H6 := Lib.hid h
  have H23 := Lib.hid (And.intro h2 h3)
  clear h h2 h3 hc
  go_enter Tryz.func69, Tryz.ntmps69
  go_wp2
  go_loop [0] (fun v => ∃ k : Nat, k ≤ xs.length ∧ v = .slice (some ⟨g, 0, none⟩) k cap ∧ Hid (∀ i (h : i < xs.length), k ≤ i → xs[i] = 0)) (fun v => lenOf v)
  case atStart => exact ⟨xs.length, Nat.le_refl _, rfl, fun i h hi => absurd h (by omega)⟩
  case round =>
    obtain ⟨k, hk, rfl, hz⟩ := hrel
    rcases Nat.eq_zero_or_pos k with h0 | h0
    · subst h0
      have e0 : Nm.trimL xs = xs.take 0 := Nm.trimL_take (Nat.zero_le _) (fun i h _ => hz.out i h (Nat.zero_le _)) trivial
      have e1 : Hid ((Nm.trimL xs).length = 0) := by rw [e0]; rfl
      clear e0
      go_wp2
      go_ret
      exact ⟨by rw [e1.out]; rfl, rfl⟩
    · obtain ⟨j, rfl⟩ : ∃ j, k = j + 1 := ⟨k - 1, by omega⟩
      have hj : j < xs.length := by omega
      have hcell := (H6.out j hj).1
      have hjc : j ≤ cap := by have := H23.out.1; omega
      by_cases hv : xs[j] = 0
      · have HV := Lib.hid hv
        have hvi : ((xs[j] : Int) == 0) = true := by simp [hv]
        clear hv
        go_wp2
        go_round
        case rel =>
          refine ⟨j, by omega, rfl, fun i h hi => ?_⟩
          rcases Nat.lt_or_ge j i with g | g
          · exact hz.out i h g
          · obtain rfl : i = j := by omega
            exact HV.out
        case measure => simp [lenOf]
      · have e0 : Nm.trimL xs = xs.take (j + 1) := Nm.trimL_take hk hz.out (Nm.nrm_take_last hj hv)
        have e1 : Hid ((Nm.trimL xs).length = j + 1) := by rw [e0]; show _ = _; simp; omega
        have hvi : ((xs[j] : Int) == 0) = false := by simp [hv]
        clear hv e0
        go_wp2
        go_ret
        exact ⟨by rw [e1.out]; rfl, rfl⟩

/-- The lowest bytes of a number behind some rounds. -/
def ToOut (m k : Nat) : Prop := k = 0 ∨ m / 256 ^ (k - 1) ≠ 0
theorem to_byte (m k : Nat) : m / 256 ^ k % 256 < 256 := Nat.mod_lt _ (by decide)
theorem to_div (m k : Nat) : m / 256 ^ k / 256 = m / 256 ^ (k + 1) := by rw [Nat.div_div_eq_div_mul, Nat.pow_succ]
theorem ToOut.step {m k : Nat} (h : m / 256 ^ k ≠ 0) : ToOut m (k + 1) := Or.inr (by rwa [Nat.add_sub_cancel])

end Go.Proofs.YtlmklhffafcmmaaGreat

/- The reference's To: the bytes of an integer. -/
namespace Go.Proofs.YtlmklhffafcmmaaGreat
open Go.RowKit

/-- A copy of digits: what comes back can be written. -/
def CopyI (w : World) (B : Nat) (v : Value) (X : List Nat) : Prop :=
  ∃ pd cap, v = .slice pd X.length cap ∧ (X = [] ∨ ∃ g, pd = some ⟨g, 0, none⟩ ∧ B ≤ g ∧ g < w.heap.size ∧ Wr w g X) ∧ X.length ≤ cap ∧ cap ≤ maxLen

theorem wpList_append_copy {w : World} {ops : Array Oper} {rest : List Oper} {o : Oper} {a : Act} {Q : Exit → Act → World → Prop} (hgd : o.guard = none) (s x : Operand)
    (ho : o.op = .call { callee := .builtin .append, args := #[s, x], argTypes := #[36, 36] }) (v : Value) (X : List Nat) (hs : a.eval s = .slice none 0 0) (hx : a.eval x = v) (hr : Ri w v X) (hl : X.length ≤ 1000000)
    (h : ∀ v' w', CopyI w' w.heap.size v' X → Below w.heap.size w w' → wpList Tryz.prog ops Q rest (a.put o.dst v') w') : wpList Tryz.prog ops Q (o :: rest) a w := by
  have hi3 : (Tryz.prog.info? 3).map (fun i => (i.zero, i.size, i.bytes)) = some (some (.int .i64 0), 1, 8) := by kernel_rfl
  obtain ⟨i0, hi0, hz0, hz1, hz2⟩ := info_parts hi3
  obtain ⟨p, b, off, cap, rfl, h2, h3, h4, h5, h6⟩ := hr
  rcases h5 with ⟨rfl, rfl⟩ | ⟨rfl, hb⟩
  · have hX : X = [] := List.eq_nil_of_length_eq_zero (by omega)
    subst hX
    exact wpList_append_own_none hgd s x 36 ho w.heap.size 3 i0 1 Tryz.underlying36 hi0 (.slice none 0 0) 0 [] hs (World.ownsRow_nil _ _ _ _) hx (h _ _ ⟨none, 0, rfl, Or.inl rfl, Nat.le_refl _, by unfold maxLen; omega⟩ (Below.refl _ _))
  · refine wpList_append_own w hgd s x 36 ho w.heap.size 3 i0 (.int .i64 0) 1 8 Tryz.underlying36 hi0 hz0 hz1 hz2 rfl (by decide) (.slice none 0 0) 0 [] hs (World.ownsRow_nil _ _ _ _) ⟨b, off, none⟩ X.length cap (iv X) hx (by rw [iv_length, Nat.mul_one]) ?_ ?_ (by unfold maxLen; omega) (by omega) (Nat.le_refl _) ?_
    · intro j u hj
      have hjl : j < X.length := by have h7 := (List.getElem?_eq_some_iff.1 hj).1; rwa [iv_length] at h7
      rw [iv_get X j hjl] at hj
      have hadd : ((⟨b, off, none⟩ : Addr).add j) = ⟨b, off + j, none⟩ := by unfold Addr.add; split <;> simp_all
      rw [hadd, h6 j hjl]; exact hj
    · intro u hu
      simp only [iv, List.mem_map] at hu
      obtain ⟨y, _, rfl⟩ := hu
      rfl
    · intro v' w' hown hgrow _
      have hb9 : Below w.heap.size w w' := (Below.refl _ _).grown hgrow (Nat.le_refl _) (fun q hq => by simp [Value.ownBlock] at hq)
      refine h _ _ ?_ hb9
      rw [Nat.zero_add, List.nil_append] at hown
      have hown2 := hown
      rcases hown.2 with ⟨rfl, h0⟩ | ⟨g, cap2, cur, rfl, hB, hg, hn, hm, _⟩
      · exact ⟨none, 0, by rw [h0], Or.inl (List.eq_nil_of_length_eq_zero h0), by omega, by unfold maxLen; omega⟩
      · exact ⟨_, _, rfl, Or.inr ⟨g, rfl, hB, lt_of_block hg, Wr.of_own hown2⟩, hn, hm⟩

theorem bvl_snoc (l : List Nat) (x : Nat) : bvl (l ++ [x]) = bvl l ++ [Value.int .u8 (x : Int)] := by simp [bvl]
theorem bvl_length (l : List Nat) : (bvl l).length = l.length := by simp [bvl]
theorem bvl_get (l : List Nat) (k : Nat) (h : k < l.length) : (bvl l)[k]? = some (.int .u8 (l[k] : Int)) := by simp [bvl, List.getElem?_eq_getElem h]

/-- The bytes that the call gathered, as a string. -/
theorem conv_own {w : World} {B : Nat} {v : Value} {l : List Nat} {x : Nat} (h : w.ownsRow B 5 1 v l.length (bvl l)) (hx : l = (Nm.dg 256 x).reverse) :
    (convert 172 9 v).run Tryz.prog w = .ok (.string (bs x)) w := by
  rcases h.2 with ⟨rfl, h0⟩ | ⟨g, cap, cur, rfl, hB, hg, hn, hm, _⟩
  · have hl : l = [] := List.eq_nil_of_length_eq_zero h0
    have hd : Nm.dg 256 x = [] := by rw [hl] at hx; simpa using hx.symm
    have hb : bs x = ⟨#[]⟩ := by unfold bs; rw [hd]; rfl
    rw [hb]
    have := run_convert_bytes_string (P := Tryz.prog) w 172 9 5 none 0 0 Tryz.underlying172 Tryz.underlying5 Tryz.underlying9
    rw [this]
    simp [Conv.bytesToString, loadCells, loadCellsFrom, go_sem]
    rfl
  · have hlen : (l.map UInt8.ofNat).length = l.length := by simp
    have := run_convert_bytes_back (P := Tryz.prog) w 172 9 5 ⟨g, 0, none⟩ cap (l.map UInt8.ofNat) Tryz.underlying172 Tryz.underlying5 Tryz.underlying9 (fun j hj => by
      have hjn : j < l.length := by rw [hlen] at hj; exact hj
      rw [h.cells (g := g) rfl j (.int .u8 (l[j] : Int)) (bvl_get l j hjn)]
      have e2 : l[j] < 256 := by
        have : l[j] ∈ (Nm.dg 256 x).reverse := by rw [← hx]; exact List.getElem_mem _
        exact Nm.dig_dg (by decide) x _ (List.mem_reverse.1 this)
      rw [List.getElem_map]
      congr 2
      simp [UInt8.toNat_ofNat', Nat.mod_eq_of_lt e2])
    rw [hlen] at this
    rw [this, bs, ← hx]

theorem to_bound {m L c : Nat} (hm : m < D9 ^ L) (h : m / 256 ^ c ≠ 0) : c < 4 * L := by
  rcases Nat.lt_or_ge c (4 * L) with g | g
  · exact g
  · have h1 : D9 ^ L ≤ 256 ^ (4 * L) := by
      rw [Nat.pow_mul]
      exact Nat.pow_le_pow_left (by decide) _
    have h2 : 256 ^ (4 * L) ≤ 256 ^ c := Nat.pow_le_pow_right (by decide) g
    exact absurd (Nat.div_eq_of_lt (by omega)) h
theorem dg_nil_iff {B n : Nat} (hB : 2 ≤ B) (h : (Nm.dg B n).length = 0) : n = 0 := by
  have h1 := Nm.val_dg hB n
  rw [List.eq_nil_of_length_eq_zero h] at h1
  simpa [Nm.val] using h1.symm
theorem own_len {w : World} {B n : Nat} {t : TypeId} {v : Value} {xs : List Value} (h : w.ownsRow B t 1 v n xs) : lenOf v = n := by
  rcases h.2 with ⟨rfl, h0⟩ | ⟨g, cap, cur, rfl, _⟩
  · rw [h0]; rfl
  · rfl

theorem own_form {w : World} {B n : Nat} {t : TypeId} {v : Value} {xs : List Value} (h : w.ownsRow B t 1 v n xs) : ∃ p g cap, v = .slice p n cap ∧ n ≤ cap ∧ (0 < n → p = some ⟨g, 0, none⟩ ∧ g < w.heap.size ∧ ∀ k u, xs[k]? = some u → w.cell? ⟨g, k, none⟩ = some u) := by
  have h9 := h
  rcases h.2 with ⟨rfl, h0⟩ | ⟨g, cap, cur, rfl, hB, hg, hn, hm, _⟩
  · exact ⟨none, 0, 0, by rw [h0], by omega, fun h1 => absurd h1 (by omega)⟩
  · refine ⟨_, g, cap, rfl, hn, fun _ => ⟨rfl, lt_of_block hg, fun k u hk => ?_⟩⟩
    have := h9.cells (g := g) rfl k u hk
    have hadd : ((⟨g, 0, none⟩ : Addr).add k) = ⟨g, k, none⟩ := by unfold Addr.add; split <;> simp_all
    rwa [hadd] at this
theorem rev_drop (l : List Nat) (j : Nat) (h : j < l.length) : (l.drop j).reverse = (l.drop (j + 1)).reverse ++ [l[j]] := by
  rw [List.drop_eq_getElem_cons h]; simp

/-- The wide integer of an integer. -/
def wz (z : Int) : Value := wd (decide (z < 0)) z.natAbs
def ToPost (z : Int) (w : World) (e : Ending) (w' : World) : Prop := e = .returned (wz z) ∧ Below w.heap.size w w'

set_option maxRecDepth 100000 in
set_option maxHeartbeats 4000000 in
theorem rto_int (z : Int) (v : Value) (w : World) (h : Rz w v z) (hl : (Nm.dg D9 z.natAbs).length ≤ 1000000) :
    Calls Tryz.prog 119 #[iV z v] w (ToPost z w) := by
  have HZ : Hid (wz z = .agg #[.bool (decide (z < 0)), .string (bs z.natAbs)]) := by
    show _ = _
    rw [wz, wd]
    by_cases hz : z < 0
    · have h1 : z.natAbs ≠ 0 := by omega
      simp [hz, h1]
    · simp [hz]
  have H0 : Hid (Ri w v (Nm.dg D9 z.natAbs)) := h
  obtain ⟨pa, ba, oa, ca, rfl, hr1⟩ := h
  clear hr1
  unfold iV at *
  generalize decide (z < 0) = ng at *
  generalize z.natAbs = m at *
  obtain ⟨w0, hw0⟩ : ∃ w0 : World, w0 = (w.alloc (.cells #[.bool ng, .slice pa (Nm.dg D9 m).length ca] 38)).alloc (.cells #[.bool false, .string ⟨#[]⟩] 23) := ⟨_, rfl⟩
  have hb0 : Hid (Below w.heap.size w w0) := by rw [hw0]; exact ((Below.refl _ _).alloc (Nat.le_refl _) _).alloc (by simp) _
  have hsz : Hid (w.heap.size + 1 + 1 = w0.heap.size) := by rw [hw0]; show _ = _; simp
  have k0 : w0.cell? ⟨w.heap.size, 0, none⟩ = some (.bool ng) := by rw [hw0]; simp [go_sem]
  have k1 : w0.cell? ⟨w.heap.size, 1, none⟩ = some (.slice pa (Nm.dg D9 m).length ca) := by rw [hw0]; simp [go_sem]
  have k4 : w0.cell? ⟨w.heap.size + 1, 0, none⟩ = some (.bool false) := by rw [hw0]; simp [go_sem]
  have k5 : w0.cell? ⟨w.heap.size + 1, 1, none⟩ = some (.string ⟨#[]⟩) := by rw [hw0]; simp [go_sem]
  have k6 : w0.frozen? ⟨w.heap.size + 1, 0, none⟩ = false := by rw [hw0]; simp [go_sem]
  have k7 : w0.frozen? ⟨w.heap.size + 1, 1, none⟩ = false := by rw [hw0]; simp [go_sem]
  have KK := Lib.hid (And.intro k0 (And.intro k4 (And.intro k5 (And.intro k6 k7))))
  have H1 : Hid (Ri w0 (.slice pa (Nm.dg D9 m).length ca) (Nm.dg D9 m)) := H0.out.below hb0.out (Nat.le_refl _)
  have Hw0 := Lib.hid hw0
  clear hw0 k0 k4 k5 k6 k7 H0
  generalize hX : Nm.dg D9 m = X at *
  have HX := Lib.hid hX
  clear hX
  go_enter Tryz.func119, Tryz.ntmps119
  go_wp2_with (at_builtin; rw [← Hw0.out]; refine wpList_append_copy rfl _ _ rfl _ X rfl rfl H1.out hl ?_)
  intro v4 w1 hcopy hb1
  obtain ⟨pd, cap, rfl, hcs, hcap1, hcap2⟩ := hcopy
  have HB1 : Hid (Below w0.heap.size w0 w1) := hb1
  have HC := Lib.hid (And.intro hcs (And.intro hcap1 hcap2))
  have HXL : Hid (m < D9 ^ X.length) := by
    have h5 := Nm.val_lt (Nm.dig_dg D92 m)
    rw [Nm.val_dg D92, HX.out] at h5
    exact h5
  have hi3 : (Tryz.prog.info? 5).map (fun i => (i.zero, i.size, i.bytes)) = some (some (.int .u8 0), 1, 1) := by kernel_rfl
  obtain ⟨i0, hi0, hz0, hz1, hz2⟩ := info_parts hi3
  have HI := Lib.hid (And.intro hi0 (And.intro hz0 (And.intro hz1 hz2)))
  clear hcs hcap1 hcap2 hb1 hi3 hi0 hz0 hz1 hz2 k1 H1
  go_wp2
  go_loopw [3, 4, 5, 6] (fun bk dv _ _ wr => ∃ (wz : World) (c n : Nat) (l : List Nat), wz = wr ∧ n = l.length ∧ n ≤ 1000000 ∧ dv = .slice pd n cap ∧ Hid (l = Nm.dg D9 (m / 256 ^ c)) ∧ Hid (n ≤ X.length) ∧ Hid (c ≤ 4 * X.length) ∧
      Hid (n = 0 ∨ ∃ g, pd = some ⟨g, 0, none⟩ ∧ w0.heap.size ≤ g ∧ g < w1.heap.size ∧ Wr wz g l) ∧ Hid (wz.ownsRow w1.heap.size 5 1 bk c (bvl (lowd m c))) ∧ Hid (ToOut m c) ∧ Hid (Below w0.heap.size w0 wz) ∧ Hid (w1.heap.size ≤ wz.heap.size))
    (fun bk _ _ _ _ => 4 * X.length + 1 - lenOf bk)
  case atStart =>
    exact ⟨w1, 0, X.length, X, rfl, rfl, hl, rfl, by show X = _; rw [Nat.pow_zero, Nat.div_one]; exact HX.out.symm, Nat.le_refl _, Nat.zero_le _, by
      rcases HC.out.1 with h | ⟨g, h1, h2, h3, h4⟩
      · exact Or.inl (by rw [h]; rfl)
      · exact Or.inr ⟨g, h1, h2, h3, h4⟩, World.ownsRow_nil _ _ _ _, Or.inl rfl, HB1.out, Nat.le_refl _⟩
  case round =>
    obtain ⟨wz, c, n, l, rfl, hn, hn6, rfl, hl9, hnX, hc4, hwr, hown, hto, hbl, hsz1⟩ := hrel
    have Hn := Lib.hid hn
    clear hn
    rcases Nat.eq_zero_or_pos n with h0 | h0
    · subst h0
      have hdone : m / 256 ^ c = 0 := by
        have h5 : l = Nm.dg D9 (m / 256 ^ c) := hl9.out
        have h6 : 0 = l.length := Hn.out
        exact dg_nil_iff D92 (by rw [← h5, ← h6])
      have HL : Hid (lowd m c = Nm.dg 256 m) := lowd_dg m c hdone hto.out
      have hcl : Hid (c ≤ 4000000) := by have h5 := hc4.out; show _ ≤ _; omega
      obtain ⟨pb, gb, cb, rfl, hcb, hgb⟩ := own_form hown.out
      have HGB := Lib.hid hgb
      have hcb2 : Hid (c ≤ cb) := hcb
      clear hdone hl9 hnX hc4 hwr hto Hn hgb hcb hown
      have hc0 : c ≤ 4000000 := hcl.out
      go_wp2
      go_loopw [7, 8] (fun ov iv wq => ∃ (wy : World) (k nl : Nat), wy = wq ∧ nl + k = c ∧ iv = .int .i64 ((k : Int) - 1) ∧ Hid (wy.ownsRow wz.heap.size 5 1 ov nl (bvl ((lowd m c).drop k).reverse)) ∧ Hid (Below wz.heap.size wz wy))
        (fun _ iv _ => (intOf iv + 1).toNat)
      case atStart => exact ⟨wz, c, 0, rfl, Nat.zero_add _, rfl, by
        have h5 : (lowd m c).drop c = [] := List.drop_of_length_le (by rw [lowd_length]; omega)
        rw [h5]; exact World.ownsRow_nil _ _ _ _, Below.refl _ _⟩
      case round =>
        rename_i ov _ _ _
        obtain ⟨wy, k, nl, rfl, hk, rfl, hown, hbl2⟩ := hrel
        rcases Nat.eq_zero_or_pos k with h0 | h0
        · subst h0
          have hnl : nl = ((lowd m c).drop 0).reverse.length := by simp [lowd_length]; omega
          have hcv := conv_own (x := m) (hnl ▸ hown.out) (by rw [List.drop_zero, HL.out])
          have hba := link hbl.out hbl2.out
          have q0 := keep1 hba KK.out.1
          have q4 := keep1 hba KK.out.2.1
          have q5 := keep1 hba KK.out.2.2.1
          have q6 := keepf hba KK.out.2.1 KK.out.2.2.2.1
          have q7 := keepf hba KK.out.2.2.1 KK.out.2.2.2.2
          have HB := Lib.hid (link hb0.out hba)
          have n1 : ¬ (w.heap.size = w.heap.size + 1) := by omega
          clear hown hbl2 hba
          go_wp2
          exact bodyPost_ret (v := .agg #[.bool ng, .string (bs m)]) (by simp [results, Tryz.results119, go_sem, q4, q5]) rfl ⟨by rw [HZ.out], (HB.out.setCell (p := ⟨w.heap.size + 1, 0, none⟩) (by simp) _).setCell (p := ⟨w.heap.size + 1, 1, none⟩) (by simp) _⟩
        · obtain ⟨j, rfl⟩ : ∃ j, k = j + 1 := ⟨k - 1, by omega⟩
          have hjl : j < (lowd m c).length := by rw [lowd_length]; omega
          obtain ⟨rfl, hgl, hgc⟩ := HGB.out (by omega)
          have e1 := at_old hbl2.out (hgc j _ (bvl_get _ j hjl))
          obtain ⟨x, hx⟩ : ∃ x, (lowd m c)[j] = x := ⟨_, rfl⟩
          rw [hx] at e1
          have hrd := rev_drop (lowd m c) j hjl
          rw [hx] at hrd
          have HRD := Lib.hid hrd
          have HLL : Hid (nl ≤ 4000000) := by show _ ≤ _; omega
          obtain ⟨y, hy⟩ : ∃ y : Int, (x : Int) = y := ⟨_, rfl⟩
          rw [hy] at e1
          have HY := Lib.hid hy
          have hjc : j < c := by omega
          have hjb : j ≤ cb := by have := hcb2.out; omega
          have e5 : ((j + 1 : Nat) : Int) - 1 = (j : Int) := by omega
          rw [e5]
          have hbase : Hid (wz.heap.size ≤ wy.heap.size) := hbl2.out.size
          clear hjl hgc hx hrd hy hgl
          go_wp2_with (at_builtin; refine wpList_append_own _ rfl _ _ 172 rfl wz.heap.size 5 i0 (.int .u8 0) 1 1 Tryz.underlying172 HI.out.1 HI.out.2.1 HI.out.2.2.1 HI.out.2.2.2 rfl (by decide) _ _ _ rfl (hown.out.alloc _) ⟨wy.heap.size, 0, none⟩ 1 1 [.int .u8 y] rfl rfl ?dc1 ?dc2 ?dc3 ?dc4 ?dc5 ?_)
          case dc2 => rfl
          case dc3 => have h5 := HLL.out; unfold maxLen; omega
          case dc4 => have h5 := HLL.out; omega
          case dc5 => have h5 := hbase.out; omega
          intro v' w2 hown1 hgrow1 _
          have hbl1 : Hid (Below wz.heap.size wz w2) := (hbl2.out.alloc hbase.out _).grown hgrow1 (by have h5 := hbase.out; simp; omega) (fun q hq => (hown.out.lt q hq).1)
          have hown2 : Hid (w2.ownsRow wz.heap.size 5 1 v' (nl + 1) (bvl ((lowd m c).drop j).reverse)) := by
            show World.ownsRow _ _ _ _ _ _ _
            rw [HRD.out, bvl_snoc, HY.out]
            exact hown1
          clear hown1 hgrow1 hbl2 hown
          go_wp2
          go_roundw
          case rel => exact ⟨_, j, nl + 1, rfl, by omega, by go_num, hown2, hbl1⟩
          case measure => simp [intOf]
    · have hne : l ≠ [] := fun e => by have h5 := Hn.out; rw [e] at h5; simp at h5; omega
      rcases hwr.out with h1 | ⟨g, rfl, hg1, hg2, hg3⟩
      · omega
      have hmz : m / 256 ^ c ≠ 0 := fun e => hne (by have h5 : l = Nm.dg D9 (m / 256 ^ c) := hl9.out; rw [h5, e]; rfl)
      have hc5 : c < 4 * X.length := to_bound HXL.out hmz
      have HT := Lib.hid (ToOut.step hmz)
      have DL : Hid (Nm.Dig D9 l) := by have h5 : l = Nm.dg D9 (m / 256 ^ c) := hl9.out; rw [h5]; exact Nm.dig_dg D92 _
      have VL : Hid (Nm.val D9 l = m / 256 ^ c) := by have h5 : l = Nm.dg D9 (m / 256 ^ c) := hl9.out; rw [h5]; exact Nm.val_dg D92 _
      have HG12 := Lib.hid (And.intro hg1 hg2)
      have HG3 := Lib.hid hg3
      have HC5 := Lib.hid hc5
      obtain ⟨pb, gb, cb, hbk, _, _⟩ := own_form hown.out
      subst hbk
      have hcc : Hid (n ≤ cap) := by have h5 := HC.out.2.1; have h6 := hnX.out; show _ ≤ _; omega
      clear hne hmz hc5 hg1 hg2 hg3 hwr hto hl9
      go_wp2
      go_loopw [5, 6] (fun rv iv wq => ∃ (wy : World) (k r : Nat) (ri : Int) (t : List Nat), wy = wq ∧ k ≤ n ∧ iv = .int .i64 ((k : Int) - 1) ∧ rv = .int .i64 ri ∧ 0 ≤ ri ∧ ri < 256 ∧ Hid ((r : Int) = ri) ∧ Hid (ToInv l k r t) ∧ Hid (Wr wy g (l.take k ++ t)) ∧ Hid (Only g wz wy))
        (fun _ iv _ => (intOf iv + 1).toNat)
      case atStart => exact ⟨wz, n, 0, 0, [], rfl, Nat.le_refl _, rfl, rfl, by omega, by omega, rfl, by have h5 : n = l.length := Hn.out; rw [h5]; exact ToInv.start l, by have h5 : n = l.length := Hn.out; rw [h5, List.take_length, List.append_nil]; exact HG3.out, Only.refl _ _⟩
      case round =>
        obtain ⟨wy, k, r, ri, t, rfl, hk, rfl, rfl, hr0, hr1, hri, hinv, hwr, ho⟩ := hrel
        rcases Nat.eq_zero_or_pos k with h0 | h0
        · subst h0
          obtain ⟨f1, f2, f3⟩ := hinv.out.finish
          obtain ⟨f5, f6, f7, _⟩ := hinv.out
          have hrb : r = m / 256 ^ c % 256 := by rw [f1, VL.out]
          have HL2 : Hid (bvl (lowd m c) ++ [Value.int .u8 ri] = bvl (lowd m (c + 1))) := by
            show _ = _
            rw [lowd, bvl_snoc, ← hrb, hri.out]
          have HTR : Hid (Nm.trimL t = Nm.dg D9 (m / 256 ^ (c + 1))) := by
            show _ = _
            rw [f2, VL.out, to_div]
          have ew : IntKind.u8.wrap ri = ri := by
            have h5 := byte_wrap r
            rw [hri.out] at h5
            rw [h5, Nat.mod_eq_of_lt f7]; exact hri.out
          have HF3 : Hid (t.length = n) := by have h5 : n = l.length := Hn.out; rw [h5]; exact f3
          have HTL : Hid ((Nm.trimL t).length ≤ n) := by rw [← HF3.out]; exact Nm.trimL_le t
          have HWR : Hid (Wr wy g t) := by have h5 := hwr.out; rwa [List.take_zero, List.nil_append] at h5
          have HOW : Hid (wy.ownsRow w1.heap.size 5 1 (.slice pb c cb) c (bvl (lowd m c))) := own_only hown.out ho.out HG12.out.2
          have HBW : Hid (Below w0.heap.size w0 wy) := ho.out.below hbl.out HG12.out.1
          have HSZ : Hid (w1.heap.size ≤ wy.heap.size) := by rw [ho.out.size]; exact hsz1.out
          have HC4 : Hid (c ≤ 4000000) := by have h5 := HC5.out; show _ ≤ _; omega
          clear f1 f2 f3 f5 f6 f7 hrb hinv hwr ho hown hbl hsz1 hri hk
          go_wp2_with (at_builtin; refine wpList_append_own _ rfl _ _ 172 rfl w1.heap.size 5 i0 (.int .u8 0) 1 1 Tryz.underlying172 HI.out.1 HI.out.2.1 HI.out.2.2.1 HI.out.2.2.2 rfl (by decide) _ _ _ rfl (HOW.out.alloc _) ⟨wy.heap.size, 0, none⟩ 1 1 [.int .u8 ri] rfl rfl ?ec1 ?ec2 ?ec3 ?ec4 ?ec5 ?_)
          case ec1 => exact one_cell (by simp [go_sem])
          case ec2 => intro u hu; simp at hu; subst hu; rfl
          case ec3 => have h5 := HC4.out; unfold maxLen; omega
          case ec4 => have h5 := HC4.out; omega
          case ec5 => have h5 := HSZ.out; simp; omega
          intro v' w2 hown1 hgrow1 _
          rw [HL2.out] at hown1
          have hgb : ∀ q, some q = Value.ownBlock (.slice pb c cb) → w1.heap.size ≤ q := fun q hq => (HOW.out.lt q hq.symm).1
          have hbl1 : Hid (Below w1.heap.size wy w2) := ((Below.refl w1.heap.size wy).alloc HSZ.out _).grown hgrow1 (by have h5 := HSZ.out; simp; omega) (fun q hq => (HOW.out.lt q hq).1)
          have hown2 : Hid (w2.ownsRow w1.heap.size 5 1 v' (c + 1) (bvl (lowd m (c + 1)))) := hown1
          have HWR2 : Hid (Wr w2 g t) := HWR.out.keep (hbl1.out.block g HG12.out.2)
          have HB2 : Hid (Below w0.heap.size w0 w2) := HBW.out.trans (hbl1.out.mono HB1.out.size)
          have HSZ2 : Hid (w1.heap.size ≤ w2.heap.size) := Nat.le_trans HSZ.out hbl1.out.size
          have HTx := rtrim_exact g cap t w2 HWR2.out (by rw [HF3.out]; exact hcc.out) HC.out.2.2
          rw [HF3.out] at HTx
          have HTX := Lib.hid HTx
          clear hown1 hgrow1 HWR HOW HBW HSZ hgb hbl1 HTx
          go_wp2_with (go_at_call 69; (with_reducible refine HTX.out.mono ?_); rintro e w9 ⟨rfl, rfl⟩)
          go_roundw
          case rel => exact ⟨_, c + 1, (Nm.trimL t).length, Nm.trimL t, rfl, rfl, by have h5 := HTL.out; omega, rfl, HTR.out, by have h5 := HTL.out; have h6 := hnX.out; show _ ≤ _; omega, by have h5 := HC5.out; show _ ≤ _; omega, Or.inr ⟨g, rfl, HG12.out.1, HG12.out.2, HWR2.out.trim⟩, hown2, HT, HB2, HSZ2⟩
          case measure => have h5 := own_len hown2.out; have h6 := HC5.out; have h7 : lenOf (.slice pb c cb) = c := rfl; simp [h5, h7]; omega
        · obtain ⟨j, rfl⟩ : ∃ j, k = j + 1 := ⟨k - 1, by omega⟩
          have hjl : j < l.length := by have h5 : n = l.length := Hn.out; omega
          have hxd : l[j] < D9 := Nm.dig_get DL.out j hjl
          have hst := hinv.out.step hjl hxd
          have hlt2 : j < (l.take (j + 1) ++ t).length := by simp; omega
          obtain ⟨e1, e2⟩ := hwr.out j hlt2
          have hge : (l.take (j + 1) ++ t)[j] = l[j] := by rw [List.getElem_append_left (by simp; omega), List.getElem_take]
          rw [hge] at e1
          obtain ⟨q, hq⟩ : ∃ q, (r * 1000000000 + l[j]) / 256 = q := ⟨_, rfl⟩
          obtain ⟨r2, hr2⟩ : ∃ r2, (r * 1000000000 + l[j]) % 256 = r2 := ⟨_, rfl⟩
          rw [hq, hr2] at hst
          have hset := hwr.out.set j q
          rw [List.set_append_left _ _ (by simp; omega), List.take_succ_eq_append_getElem hjl, List.set_append_right _ _ (by simp; omega)] at hset
          have e5 : j - (l.take j).length = 0 := by simp; omega
          rw [e5, List.set_cons_zero, List.append_assoc] at hset
          have HW2 : Hid (Wr (wy.setCell ⟨g, j, none⟩ (.int .i64 (q : Int))) g (l.take j ++ q :: t)) := hset
          obtain ⟨x, hx⟩ : ∃ x : Int, (l[j] : Int) = x := ⟨_, rfl⟩
          obtain ⟨qi, hqi⟩ : ∃ qi : Int, (q : Int) = qi := ⟨_, rfl⟩
          obtain ⟨r2i, hr2i⟩ : ∃ r2i : Int, (r2 : Int) = r2i := ⟨_, rfl⟩
          have hx0 : 0 ≤ x := by omega
          have hx1 : x < 1000000000 := by unfold D9 at hxd; omega
          have hdiv : (ri * 1000000000 + x) / 256 = qi := by rw [← hri.out, ← hx, ← hqi, ← hq]; omega
          have hmod : (ri * 1000000000 + x) % 256 = r2i := by rw [← hri.out, ← hx, ← hr2i, ← hr2]; omega
          have hr20 : 0 ≤ r2i := by omega
          have hr21 : r2i < 256 := by omega
          rw [hx] at e1
          rw [hqi] at HW2
          have HO2 : Hid (Only g wz (wy.setCell ⟨g, j, none⟩ (.int .i64 qi))) := ho.out.setCell j _
          have HST := Lib.hid hst
          have HR2 : Hid ((r2 : Int) = r2i) := hr2i
          have e6 : ((j + 1 : Nat) : Int) - 1 = (j : Int) := by omega
          rw [e6]
          have hjn : j < n := by omega
          clear hjl hxd hst hlt2 hge hset hq hr2 hx hqi hr2i hinv hwr ho hri e5
          go_wp2
          go_roundw
          case rel => exact ⟨_, j, r2, r2i, q :: t, rfl, by omega, by go_num, by first | rfl | rw [hmod], hr20, hr21, HR2, HST.out, HW2.out, HO2.out⟩
          case measure => simp [intOf]
end Go.Proofs.YtlmklhffafcmmaaGreat

/- The reference's From: the integer of a wide integer's bytes. -/
namespace Go.Proofs.YtlmklhffafcmmaaGreat
open Go.RowKit

theorem Ri.drew {w : World} {v : Value} {xs : List Nat} (h : Ri w v xs) : Ri w.drew v xs := h
theorem Ri.allocd {w : World} {v : Value} {xs : List Nat} (h : Ri w v xs) (o : Obj) : Ri (w.alloc o) v xs := h.below (below_one w o) (Nat.le_refl _)
theorem trim_one {x : Nat} (h : x < 256) : Nm.trimL [x] = Nm.dg D9 x := by
  have h1 : Nm.Dig D9 [x] := Nm.dig_cons.2 ⟨by unfold D9; omega, Nm.dig_nil _⟩
  rw [Nm.trimL_dg D92 h1]
  simp [Nm.val]
theorem dg9_256 {m k : Nat} (h : m < 256 ^ k) : (Nm.dg D9 m).length ≤ k := by
  refine Nm.len_le_of_val D92 (Nm.nrm_dg D92 m) ?_
  rw [Nm.val_dg D92]
  exact Nat.lt_of_lt_of_le h (Nat.pow_le_pow_left (by decide) k)
theorem wrap_byte {x : Nat} (h : x < 256) : IntKind.i64.wrap (x : Int) = (x : Int) := by
  unfold IntKind.wrap
  simp [IntKind.bits, IntKind.signed]
  omega
theorem hval_take {s : ByteArray} {k : Nat} (hk : k < s.size) : hval (s.data.toList.take (k + 1)) 0 = hval (s.data.toList.take k) 0 * 256 + s[k].toNat := by
  have h2 : k < s.data.toList.length := hk
  rw [List.take_succ_eq_append_getElem h2, hval_snoc]
  rfl
theorem hval_take_lt {s : ByteArray} {k : Nat} (hk : k ≤ s.size) : hval (s.data.toList.take k) 0 < 256 ^ k := by
  have h := hval_lt (s.data.toList.take k)
  have h2 : (s.data.toList.take k).length = k := by
    have : s.data.toList.length = s.size := rfl
    simp; omega
  rwa [h2] at h
theorem hval_all (s : ByteArray) : hval (s.data.toList.take s.size) 0 = bv s := by
  have h2 : s.data.toList.length = s.size := rfl
  rw [List.take_of_length_le (by omega), hval_eq, Nat.zero_mul, Nat.zero_add]; rfl

set_option maxRecDepth 100000 in
set_option maxHeartbeats 4000000 in
theorem rfrom_any (a : Bool) (s : ByteArray) (w : World) (hs : s.size ≤ 100000) : Calls Tryz.prog 18 #[.agg #[.bool a, .string s]] w (IntPost (sg a (bv s)) w) := by
  have HM := Lib.hid (fun v m w h => (rmade_any a v m w h).mono (made_int (z := sg a m) rfl))
  have HT := Lib.hid (fun v xs w h => rtrim_any v xs w h)
  obtain ⟨w0, hw0⟩ : ∃ w0 : World, w0 = (w.alloc (.cells #[.bool a, .string s] 23)).alloc (.cells #[.bool false, .slice none 0 0] 38) := ⟨_, rfl⟩
  have hb0 : Hid (Below w.heap.size w w0) := by rw [hw0]; exact ((Below.refl _ _).alloc (Nat.le_refl _) _).alloc (by simp) _
  have i1 : ZC (.bool a) (.string s) w0 w.heap.size := by rw [hw0]; exact (ZC.new rfl).alloc _
  have i2 : ZC (.bool false) (.slice none 0 0) w0 (w.heap.size + 1) := by rw [hw0]; exact ZC.new (by simp)
  have I1 := Lib.hid i1
  have I2 := Lib.hid i2
  have Hw0 := Lib.hid hw0
  clear i1 i2 hw0
  go_enter Tryz.func18, Tryz.ntmps18
  go_wp2_with fail
  rw [← Hw0.out]
  clear Hw0
  go_loopw [3, 4] (fun dv iv wr => ∃ (wz : World) (k : Nat), wz = wr ∧ k ≤ s.size ∧ iv = .int .i64 (k : Int) ∧ Hid (Ri wz dv (Nm.dg D9 (hval (s.data.toList.take k) 0))) ∧ Hid (Below w0.heap.size w0 wz))
    (fun _ iv _ => s.size - (intOf iv).toNat)
  case atStart => exact ⟨w0, 0, rfl, Nat.zero_le _, rfl, by rw [List.take_zero]; exact Ri.nil w0, Below.refl _ _⟩
  case round =>
    obtain ⟨wz, k, rfl, hk, rfl, hri, hbl⟩ := hrel
    by_cases hlt : k < s.size
    · have hmx := hval_take_lt (s := s) (k := k) hk
      have HS := Lib.hid (hval_take hlt)
      have hlm := Nat.le_trans (dg9_256 hmx) (by omega : k ≤ 1000000)
      obtain ⟨m, hm⟩ : ∃ m, hval (s.data.toList.take k) 0 = m := ⟨_, rfl⟩
      rw [hm] at hri HS hlm hmx
      obtain ⟨x, hx⟩ : ∃ x : Nat, s[k].toNat = x := ⟨_, rfl⟩
      have hx2 : x < 256 := by rw [← hx]; exact UInt8.toNat_lt _
      rw [hx] at HS
      have hlm2 : (Nm.dg D9 (m * 256)).length ≤ 1000000 := by
        refine Nat.le_trans (dg9_256 (k := k + 1) ?_) (by omega)
        rw [Nat.pow_succ]
        exact Nat.mul_lt_mul_of_pos_right hmx (by decide)
      have HSM : Hid (∀ v w', Ri w' v (Nm.dg D9 m) → Calls Tryz.prog 72 #[v, .int .i64 256] w' (GivesI (m * 256) w')) := fun v w' h => rsmall_any v m 256 w' (by decide) h hlm
      have HP : Hid (∀ v1 v2 w', Ri w' v1 (Nm.dg D9 (m * 256)) → Ri w' v2 (Nm.dg D9 x) → Calls Tryz.prog 71 #[v1, v2] w' (GivesI (m * 256 + x) w')) := fun v1 v2 w' h1 h2 => rplus_any v1 v2 (m * 256) x w' h1 h2 hlm2 (Nat.le_trans (dg9_256 (k := 1) hx2) (by decide))
      have HX := Lib.hid (trim_one hx2)
      have hRi := hri.out
      have hwr := wrap_byte hx2
      obtain ⟨k0, k1, _⟩ := I1.out.next hbl.out
      have k1b := k1
      have hxi : (s[k].toNat : Int) = (x : Int) := by rw [hx]
      have hsz : Hid (w.heap.size < wz.heap.size) := World.block_lt_of_cell? wz _ k0
      have hsz2 := hsz.out
      have hsz3 : ¬ wz.heap.size = w.heap.size := by omega
      have hsz4 : ¬ w.heap.size = wz.heap.size := by omega
      clear hm hmx hlm hlm2 k0
      go_wp2_with fail
      go_region_held3 (fun W' => W'.cell? ⟨w.heap.size, 1, none⟩ = some (.string s)) (go_keep)
        (first
          | (go_at_call 72; (with_reducible refine (HSM.out _ _ (by first | exact hRi | exact hRi.drew | exact hRi.allocd _ | exact (hRi.allocd _).drew | exact hRi.drew.allocd _)).mono ?_); rintro e w1 ⟨v1, rfl, r1, b1⟩; (try (have b1 := undrew b1)); have d1 : Below wz.heap.size wz w1 := chain (by first | exact Below.refl _ _ | exact (Below.refl _ _).drew | exact below_one _ _ | exact ((Below.refl _ _).drew).alloc (Nat.le_refl _) _) b1; have p1 := keep1 d1 k1b; (try (have X1 := Lib.hid ((Ri.one wz x).below b1 (Nat.le_refl _)))); have f1 : w.heap.size < w1.heap.size := Nat.lt_of_lt_of_le hsz.out d1.size; have f2 : ¬ w1.heap.size = w.heap.size := Nat.ne_of_gt f1; have f3 : ¬ w.heap.size = w1.heap.size := Nat.ne_of_lt f1; have G1 := Lib.hid r1)
          | (go_at_call 69; (with_reducible refine (HT.out _ [x] _ (by first | exact X1.out | exact Ri.one w1 x)).mono ?_); rintro e w2 ⟨v2, rfl, r2, rfl⟩; rw [HX.out] at r2; have G2 := Lib.hid r2)
          | (go_at_call 71; (with_reducible refine (HP.out _ _ _ (by first | exact G1.out | exact G1.out.allocd _) G2.out).mono ?_); rintro e w3 ⟨v3, rfl, r3, b3⟩; have d3 : Below wz.heap.size wz w3 := chain d1 (chain (by first | exact Below.refl _ _ | exact below_one _ _) b3); have p1 := keep1 d3 k1b; have G3 := Lib.hid r3; have D3 := Lib.hid d3)
          | fail)
      all_goals
        have C3 := Lib.hid (chain hbl.out D3.out)
        rw [← HS.out] at G3
        go_wp2
        go_roundw
        case rel => exact ⟨_, k + 1, rfl, by omega, by go_num, G3, C3⟩
        case measure => simp [intOf]; omega
    · obtain rfl : k = s.size := by omega
      have hRI := hri
      rw [hval_all] at hRI
      obtain ⟨k0, _⟩ := I1.out.next hbl.out
      clear hri
      go_wp2_with fail
      refine (HM.out _ _ _ hRI.out).mono ?_
      rintro e w4 ⟨v4, rfl, r4, b4⟩
      have c := chain hbl.out b4
      obtain ⟨m0, m1, m2, m3⟩ := I2.out.next c
      have HR := Lib.hid r4
      obtain ⟨p9, q9, o9, c9, rfl, hr9⟩ := r4
      unfold iV
      obtain ⟨zz, hzz⟩ : ∃ zz, decide (sg a (bv s) < 0) = zz := ⟨_, rfl⟩
      rw [hzz]
      have HZZ := Lib.hid hzz
      clear hzz
      have HZ := Lib.hid (below_set2 (chain hb0.out c) (g := w.heap.size + 1) (by omega) (.bool zz) (.slice p9 (Nm.dg D9 (sg a (bv s)).natAbs).length c9))
      have HR2 := Lib.hid (HR.out.set2 (u1 := .bool zz) (u2 := .slice p9 (Nm.dg D9 (sg a (bv s)).natAbs).length c9) m0 m1 (fun _ => by simp))
      clear b4 c hr9
      go_wp2
      exact bodyPost_ret (v := .agg #[.bool zz, .slice p9 (Nm.dg D9 (sg a (bv s)).natAbs).length c9]) (by simp [results, Tryz.results18, go_sem, m0, m1]) rfl ⟨_, by rw [iV, HZZ.out], HR2.out, HZ.out⟩
end Go.Proofs.YtlmklhffafcmmaaGreat

/- The reference's Power. -/
namespace Go.Proofs.YtlmklhffafcmmaaGreat
open Go.RowKit

/-- An integer that is not negative comes back. -/
def PPost (z : Int) (w : World) (e : Ending) (w' : World) : Prop := ∃ v, e = .returned (.agg #[.bool false, v]) ∧ Rz w' v z ∧ Below w.heap.size w w'
theorem iV_pos {z : Int} (h : 0 ≤ z) (v : Value) : iV z v = .agg #[.bool false, v] := by
  rw [iV, decide_eq_false (by omega)]
theorem rnum_pos (z : Int) (h0 : 0 ≤ z) (h2 : z ≤ 9223372036854775807) (w : World) : Calls Tryz.prog 16 #[.int .i64 z] w (PPost z w) :=
  (rnum_any z w (by omega) h2).mono fun _ _ ⟨v, h1, h3, h4⟩ => ⟨v, by rw [← iV_pos h0]; exact h1, h3, h4⟩
theorem rmul_pos (x y : Int) (hx : 0 ≤ x) (hy : 0 ≤ y) (v1 v2 : Value) (w : World) (h1 : Rz w v1 x) (h2 : Rz w v2 y) (l1 : (Nm.dg D9 x.natAbs).length ≤ 1000000) (l2 : (Nm.dg D9 y.natAbs).length ≤ 1000000) :
    Calls Tryz.prog 74 #[.agg #[.bool false, v1], .agg #[.bool false, v2]] w (PPost (x * y) w) := by
  have h := rmul_int x y v1 v2 w h1 h2 l1 l2
  rw [iV_pos hx, iV_pos hy] at h
  exact h.mono fun _ _ ⟨v, g1, g3, g4⟩ => ⟨v, by rw [← iV_pos (Int.mul_nonneg hx hy)]; exact g1, g3, g4⟩
theorem radd_pos (x y : Int) (hx : 0 ≤ x) (hy : 0 ≤ y) (v1 v2 : Value) (w : World) (h1 : Rz w v1 x) (h2 : Rz w v2 y) (l1 : (Nm.dg D9 x.natAbs).length ≤ 1000000) (l2 : (Nm.dg D9 y.natAbs).length ≤ 1000000) :
    Calls Tryz.prog 75 #[.agg #[.bool false, v1], .agg #[.bool false, v2]] w (PPost (x + y) w) := by
  have h := radd_int x y v1 v2 w h1 h2 l1 l2
  rw [iV_pos hx, iV_pos hy] at h
  exact h.mono fun _ _ ⟨v, g1, g3, g4⟩ => ⟨v, by rw [← iV_pos (Int.add_nonneg hx hy)]; exact g1, g3, g4⟩
theorem pow2_len {z : Int} {n k : Nat} (hz : z * 2 ^ k = 2 ^ n) (h0 : 0 < z) (hn : n ≤ 100000) : (Nm.dg D9 z.natAbs).length ≤ 1000000 := by
  have h1 : z ≤ 2 ^ n := by
    have hp : (1 : Int) ≤ 2 ^ k := by
      have : (0 : Int) < 2 ^ k := Int.pow_pos (by decide)
      omega
    have h2 : z * 1 ≤ z * 2 ^ k := Int.mul_le_mul_of_nonneg_left hp (by omega)
    rw [hz] at h2
    omega
  have h3 : z.natAbs ≤ 2 ^ n := by
    have h4 : ((z.natAbs : Nat) : Int) ≤ ((2 ^ n : Nat) : Int) := by
      rw [Int.natAbs_of_nonneg (by omega)]
      push_cast
      exact h1
    exact Int.ofNat_le.1 h4
  refine Nat.le_trans (Nm.len_le_of_val (k := n + 1) D92 (Nm.nrm_dg D92 _) ?_) (by omega)
  rw [Nm.val_dg D92]
  refine Nat.lt_of_le_of_lt h3 (Nat.lt_of_lt_of_le (Nat.pow_lt_pow_right (by decide : 1 < 2) (Nat.lt_succ_self n)) (Nat.pow_le_pow_left (by decide) _))
theorem ZC.lt {x y : Value} {w : World} {g : Nat} (h : ZC x y w g) : g < w.heap.size := World.block_lt_of_cell? w _ h.1

end Go.Proofs.YtlmklhffafcmmaaGreat

/- The reference's Quo: the Euclidean division of integers. -/
namespace Go.Proofs.YtlmklhffafcmmaaGreat
open Go.RowKit

/-- Two integers come back. -/
def QIPost (q r : Int) (w : World) (e : Ending) (w' : World) : Prop := ∃ v1 v2, e = .returned (.tuple #[iV q v1, iV r v2]) ∧ Rz w' v1 q ∧ Rz w' v2 r ∧ Below w.heap.size w w'
/-- The first quotient, before it is made right. -/
def q0 (x y : Int) : Int := if (decide (x < 0) != decide (y < 0)) = true then -((x.natAbs / y.natAbs : Nat) : Int) else ((x.natAbs / y.natAbs : Nat) : Int)
theorem q0_abs (x y : Int) : (q0 x y).natAbs = x.natAbs / y.natAbs := by
  unfold q0
  generalize x.natAbs / y.natAbs = d
  split <;> omega
theorem q0_eq (x y : Int) (hy : y ≠ 0) : x - q0 x y * y = if x < 0 then -((x.natAbs % y.natAbs : Nat) : Int) else ((x.natAbs % y.natAbs : Nat) : Int) := by
  have hd := Nat.div_add_mod x.natAbs y.natAbs
  have h : ((y.natAbs : Nat) : Int) * ((x.natAbs / y.natAbs : Nat) : Int) + ((x.natAbs % y.natAbs : Nat) : Int) = ((x.natAbs : Nat) : Int) := by exact_mod_cast hd
  unfold q0
  generalize ((x.natAbs / y.natAbs : Nat) : Int) = d at *
  generalize ((x.natAbs % y.natAbs : Nat) : Int) = r at *
  by_cases hx : x < 0
  · have ex : ((x.natAbs : Nat) : Int) = -x := by omega
    rw [ex] at h
    by_cases hy0 : y < 0
    · have ey : ((y.natAbs : Nat) : Int) = -y := by omega
      rw [ey] at h
      simp only [hx, hy0, decide_true, bne_self_eq_false, if_true]
      simp only [Bool.false_eq_true, if_false]
      grind
    · have ey : ((y.natAbs : Nat) : Int) = y := by omega
      rw [ey] at h
      simp only [hx, hy0, decide_true, decide_false, if_true]
      simp
      grind
  · have ex : ((x.natAbs : Nat) : Int) = x := by omega
    rw [ex] at h
    by_cases hy0 : y < 0
    · have ey : ((y.natAbs : Nat) : Int) = -y := by omega
      rw [ey] at h
      simp only [hx, hy0, decide_true, decide_false, if_false]
      simp
      grind
    · have ey : ((y.natAbs : Nat) : Int) = y := by omega
      rw [ey] at h
      simp only [hx, hy0, decide_false, if_false]
      simp
      grind
theorem ediv_of {x y q r : Int} (h : x - q * y = r) (h0 : 0 ≤ r) (h1 : r < y.natAbs) (hy : y ≠ 0) : q = x / y ∧ r = x % y := by
  have e1 : x = r + q * y := by omega
  have e2 : x % y = r := by
    rw [e1, Int.add_mul_emod_self_right]
    rcases Int.lt_or_lt_of_ne hy with g | g
    · rw [← Int.emod_neg]
      exact Int.emod_eq_of_lt h0 (by omega)
    · exact Int.emod_eq_of_lt h0 (by omega)
  have e3 := Int.emod_add_mul_ediv x y
  have e4 : y * (x / y) = y * q := by rw [Int.mul_comm y q]; omega
  exact ⟨(Int.eq_of_mul_eq_mul_left hy e4).symm, e2.symm⟩
theorem rem_lt (x y : Int) (hy : y ≠ 0) : ((x.natAbs % y.natAbs : Nat) : Int) < ((y.natAbs : Nat) : Int) := by
  have := Nat.mod_lt x.natAbs (by omega : 0 < y.natAbs)
  omega
theorem quo_pos {x y : Int} (hy : y ≠ 0) (h : 0 ≤ x - q0 x y * y) : q0 x y = x / y ∧ x - q0 x y * y = x % y := by
  refine ediv_of rfl h ?_ hy
  have h1 := q0_eq x y hy
  have h2 := rem_lt x y hy
  rw [h1]
  split <;> omega
theorem quo_neg1 {x y : Int} (hy : 0 < y) (h : x - q0 x y * y < 0) : q0 x y - 1 = x / y ∧ x - (q0 x y - 1) * y = x % y := by
  have h1 := q0_eq x y (by omega)
  have h2 := rem_lt x y (by omega)
  have e : x - (q0 x y - 1) * y = x - q0 x y * y + y := by rw [Int.sub_mul, Int.one_mul]; omega
  refine ediv_of rfl ?_ ?_ (by omega)
  · rw [e]; split at h1 <;> omega
  · rw [e]; omega
theorem quo_neg2 {x y : Int} (hy : y < 0) (h : x - q0 x y * y < 0) : q0 x y + 1 = x / y ∧ x - (q0 x y + 1) * y = x % y := by
  have h1 := q0_eq x y (by omega)
  have h2 := rem_lt x y (by omega)
  have e : x - (q0 x y + 1) * y = x - q0 x y * y - y := by rw [Int.add_mul, Int.one_mul]; omega
  refine ediv_of rfl ?_ ?_ (by omega)
  · rw [e]; split at h1 <;> omega
  · rw [e]; omega
theorem lenD {m k : Nat} (h : m < D9 ^ k) : (Nm.dg D9 m).length ≤ k := by
  refine Nm.len_le_of_val D92 (Nm.nrm_dg D92 _) ?_
  rw [Nm.val_dg D92]
  exact h
theorem q0_le (x y : Int) : (q0 x y).natAbs ≤ x.natAbs := by rw [q0_abs]; exact Nat.div_le_self _ _
theorem q0y_le (x y : Int) : (q0 x y * y).natAbs ≤ x.natAbs := by rw [Int.natAbs_mul, q0_abs]; exact Nat.div_mul_le_self _ _
theorem twice {m k : Nat} (h : m < 2 * D9 ^ k) : m < D9 ^ (k + 1) := by
  rw [Nat.pow_succ]
  have e : D9 = 1000000000 := rfl
  generalize D9 ^ k = p at *
  rw [e]
  omega
end Go.Proofs.YtlmklhffafcmmaaGreat

/- The reference's Quo: the walk. -/
namespace Go.Proofs.YtlmklhffafcmmaaGreat
open Go.RowKit

def CutO (br : Bool) (s : Value) (X : List Nat) (B : Nat) (wb wx : World) (g : Nat) : Prop := B ≤ g ∧ ZC (.bool br) s wx g ∧ Ri wx s X ∧ Below B wb wx
section
variable {br b0 : Bool} {s : Value} {X : List Nat} {B : Nat} {wb w3 : World} {t : TypeId} {p : Option Addr} {n c g : Nat}
theorem CutO.k1 (r1 : Ri w3 s X) (h : Below B wb w3) (hB : B ≤ w3.heap.size) : CutO br s X B wb (w3.alloc (.cells #[.bool br, s] t)) w3.heap.size := ⟨hB, ZC.new rfl, r1.allocd _, h.alloc hB _⟩
theorem Ri.setq {w : World} {v : Value} {xs : List Nat} (h : Ri w v xs) (z : ZC (.bool b0) (.slice p n c) w g) (u u' : Value) : Ri ((w.setCell ⟨g, 0, none⟩ u).setCell ⟨g, 1, none⟩ u') v xs := h.set2 z.1 z.2.1 (fun _ => by simp)
theorem CutO.k2 (q : ZC (.bool b0) (.slice p n c) w3 g) (hg : B ≤ g) (r1 : Ri w3 s X) (h : Below B wb w3) : CutO br s X B wb ((w3.setCell ⟨g, 0, none⟩ (.bool br)).setCell ⟨g, 1, none⟩ s) g := ⟨hg, q.set, r1.setq q _ _, below_set2 h hg _ _⟩
end
theorem far8q {a x : Nat} (h : a + 4 ≤ x) : ¬ x = a ∧ ¬ x = a+1 ∧ ¬ x = a+1+1 ∧ ¬ x = a+1+1+1 ∧ ¬ a = x ∧ ¬ a+1 = x ∧ ¬ a+1+1 = x ∧ ¬ a+1+1+1 = x ∧ a < x ∧ a+1 < x ∧ a+1+1 < x ∧ a+1+1+1 < x := ⟨by omega, by omega, by omega, by omega, by omega, by omega, by omega, by omega, by omega, by omega, by omega, by omega⟩
/-- What the end of the call stores. -/
def QEnd (q r : Int) (w w0 wx : World) (g8 g9 : Nat) (s8 s9 : Value) : Prop := ZC (.bool (decide (q < 0))) s8 wx g8 ∧ ZC (.bool (decide (r < 0))) s9 wx g9 ∧ Rz wx s8 q ∧ Rz wx s9 r ∧ Below w0.heap.size w0 wx

set_option maxRecDepth 100000 in
set_option maxHeartbeats 8000000 in
theorem rquo_pos (x y : Int) (v1 v2 : Value) (w : World) (k : Nat) (hk : k ≤ 90000) (hx : x.natAbs < D9 ^ k) (hy : y.natAbs < D9 ^ k) (h1 : Rz w v1 x) (h2 : Rz w v2 y) (hy0 : y ≠ 0) (hr : 0 ≤ x - q0 x y * y) :
    Calls Tryz.prog 20 #[iV x v1, iV y v2] w (QIPost (q0 x y) (x - q0 x y * y) w) := by
  have lx := lenD hx
  have ly := lenD hy
  have H_over := Lib.hid (fun v1 v2 w g1 g2 => rover_any v1 v2 x.natAbs y.natAbs w (by omega) g1 g2 (by omega) (by omega))
  have H_made := Lib.hid (fun v w g => (rmade_any (decide (x < 0) != decide (y < 0)) v (x.natAbs / y.natAbs) w g).mono (made_int (z := q0 x y) rfl))
  have lq := Nat.le_trans (lenD (Nat.lt_of_le_of_lt (q0_le x y) hx)) (by omega : k ≤ 1000000)
  have lqy := Nat.le_trans (lenD (Nat.lt_of_le_of_lt (q0y_le x y) hx)) (by omega : k ≤ 1000000)
  have H_mul := Lib.hid (fun v1 v2 w g1 g2 => rmul_int (q0 x y) y v1 v2 w g1 g2 lq (by omega))
  have H_sub := Lib.hid (fun v1 v2 w g1 g2 => rsub_int x (q0 x y * y) v1 v2 w g1 g2 (by omega) lqy)
  have H_sgn := Lib.hid (fun v w g => rsign_int (x - q0 x y * y) v w g)
  obtain ⟨sg, hsg⟩ : ∃ sg, (x - q0 x y * y).sign = sg := ⟨_, rfl⟩
  have hsg0 : ¬ sg < 0 := by
    rw [← hsg]
    rcases Int.lt_or_eq_of_le hr with g | g
    · rw [Int.sign_eq_one_of_pos g]; decide
    · rw [← g]; decide
  rw [hsg] at H_sgn
  clear hsg
  obtain ⟨sb, hsb⟩ : ∃ sb, (decide (x < 0) != decide (y < 0)) = sb := ⟨_, rfl⟩
  rw [hsb] at H_made
  have HX := Lib.hid h1
  have HY := Lib.hid h2
  clear lq lqy lx ly hx hy hk hr
  clear hy0
  unfold IntPost iV at H_made H_mul H_sub
  unfold iV at H_sgn
  unfold SignPost at H_sgn
  unfold OverPost at H_over
  unfold QIPost iV
  generalize x.natAbs / y.natAbs = dd at *
  generalize x.natAbs % y.natAbs = de at *
  obtain ⟨bx, hbx⟩ : ∃ b, decide (x < 0) = b := ⟨_, rfl⟩
  obtain ⟨by', hby⟩ : ∃ b, decide (y < 0) = b := ⟨_, rfl⟩
  rw [hbx, hby] at hsb
  have hsb2 : (!(bx == by')) = sb := hsb
  rw [hby] at H_mul
  rw [hbx] at H_sub ⊢
  rw [hby]
  clear hbx hby hsb
  generalize x - q0 x y * y = r at *
  generalize q0 x y * y = qy at *
  generalize q0 x y = q at *
  generalize decide (qy < 0) = bqy at *
  obtain ⟨bq, hbq⟩ : ∃ b, decide (q < 0) = b := ⟨_, rfl⟩
  rw [hbq] at H_made H_mul
  obtain ⟨pa, ba, oa, ca, rfl, hra⟩ := h1
  obtain ⟨pb, bb, ob, cb, rfl, hrb⟩ := h2
  clear hra hrb
  generalize (Nm.dg D9 x.natAbs).length = la at *
  generalize (Nm.dg D9 y.natAbs).length = lb at *
  obtain ⟨w0, hw0⟩ : ∃ w0 : World, w0 = (((w.alloc (.cells #[.bool bx, .slice pa la ca] 38)).alloc (.cells #[.bool by', .slice pb lb cb] 38)).alloc (.cells #[.bool false, .slice none 0 0] 38)).alloc (.cells #[.bool false, .slice none 0 0] 38) := ⟨_, rfl⟩
  have hb0 : Hid (Below w.heap.size w w0) := by rw [hw0]; exact ((((Below.refl _ _).alloc (Nat.le_refl _) _).alloc (by simp) _).alloc (by simp; omega) _).alloc (by simp; omega) _
  have I1 : Hid (ZC (.bool bx) (.slice pa la ca) w0 w.heap.size) := by rw [hw0]; exact (((ZC.new rfl).alloc _).alloc _).alloc _
  have I2 : Hid (ZC (.bool by') (.slice pb lb cb) w0 (w.heap.size + 1)) := by rw [hw0]; exact ((ZC.new (by simp)).alloc _).alloc _
  have I3 : Hid (ZC (.bool false) (.slice none 0 0) w0 (w.heap.size + 1 + 1)) := by rw [hw0]; exact (ZC.new (by simp)).alloc _
  have I4 : Hid (ZC (.bool false) (.slice none 0 0) w0 (w.heap.size + 1 + 1 + 1)) := by rw [hw0]; exact ZC.new (by simp)
  have Hsz : Hid (w.heap.size + 4 ≤ w0.heap.size) := by rw [hw0]; show _ ≤ _; simp
  have RX := Lib.hid (Ri.below HX.out hb0.out (Nat.le_refl _))
  have RY := Lib.hid (Ri.below HY.out hb0.out (Nat.le_refl _))
  have Hw0 := Lib.hid hw0
  clear hw0 HX HY
  go_enter Tryz.func20, Tryz.ntmps20
  go_wp2_with fail
  rw [← Hw0.out]
  clear Hw0
  refine (H_over.out _ _ _ RX.out RY.out).mono ?_
  rintro e y1 ⟨vq, vr, rfl, rq, rr, b1⟩
  have D := Lib.hid b1
  obtain ⟨k0, k1, _⟩ := I1.out.next D.out
  obtain ⟨k2, k3, _⟩ := I2.out.next D.out
  have RQ := Lib.hid rq
  obtain ⟨pq, bq', oq, cq, rfl, hrq⟩ := rq
  clear b1 rr hrq
  go_wp2_with fail
  refine (H_made.out _ _ RQ.out).mono ?_
  rintro e y2 ⟨v8, rfl, r8, b2⟩
  have D := Lib.hid (chain D.out b2)
  obtain ⟨u2, hu2⟩ : ∃ u : World, u = y2.alloc (.cells #[.bool bq, v8] 38) := ⟨_, rfl⟩
  have R8 : Hid (Rz u2 v8 q) := by rw [hu2]; exact Ri.allocd r8 _
  have T8 : Hid (ZC (.bool bq) v8 u2 y2.heap.size) := by rw [hu2]; exact ZC.new rfl
  have hy2 : Hid (w.heap.size + 4 ≤ y2.heap.size) := Nat.le_trans Hsz.out D.out.size
  have D : Hid (Below w0.heap.size w0 u2) := by rw [hu2]; exact D.out.alloc D.out.size _
  obtain ⟨p8, bb8, o8, c8, rfl, rr8⟩ := r8
  clear rr8
  generalize (Nm.dg D9 q.natAbs).length = l8 at *
  obtain ⟨k0, k1, _⟩ := I1.out.next D.out
  obtain ⟨k2, k3, _⟩ := I2.out.next D.out
  obtain ⟨k4, k5, _⟩ := T8.out
  have HSB : Hid (w.heap.size + 4 ≤ u2.heap.size) := Nat.le_trans Hsz.out D.out.size
  have hu2g : Hid (y2.heap.size < u2.heap.size) := T8.out.lt
  have Hu2 := Lib.hid hu2
  clear b2 hu2 RQ
  have RXu := Lib.hid (Ri.below RX.out D.out (Nat.le_refl _))
  have RYu := Lib.hid (Ri.below RY.out D.out (Nat.le_refl _))
  go_upto_region 3 with (fail)
  rw [← Hu2.out]
  clear Hu2
  obtain ⟨ja, jb, jc, jd, je, jf, jg, jh, ji, jj, jk, jl⟩ := far8q HSB.out
  have jm := hu2g.out
  have jn : ¬ y2.heap.size = u2.heap.size := Nat.ne_of_lt jm
  have jo : ¬ u2.heap.size = y2.heap.size := Nat.ne_of_gt jm
  go_cut [9] (fun s9 wx => ∃ (g9 : Nat) (p9 : Option Addr) (n9 c9 : Nat), s9 = .pointer (some ⟨g9, 0, none⟩) ∧ Hid (CutO (decide (r < 0)) (.slice p9 n9 c9) (Nm.dg D9 r.natAbs) u2.heap.size u2 wx g9))
  case first =>
    rename_i J0 K0 hRJ hMK
    go_region_held3 (fun W' => W'.cell? ⟨w.heap.size, 0, none⟩ = some (.bool bx) ∧ W'.cell? ⟨w.heap.size, 1, none⟩ = some (.slice pa la ca) ∧ W'.cell? ⟨w.heap.size + 1, 0, none⟩ = some (.bool by') ∧ W'.cell? ⟨w.heap.size + 1, 1, none⟩ = some (.slice pb lb cb) ∧ W'.cell? ⟨y2.heap.size, 0, none⟩ = some (.bool bq) ∧ W'.cell? ⟨y2.heap.size, 1, none⟩ = some (.slice p8 l8 c8)) (go_keep)
      (first
        | (go_at_call 74; (with_reducible refine (H_mul.out _ _ _ (by first | exact Ri.drew R8.out | exact Ri.allocd (Ri.drew R8.out) _ | exact Ri.drew (Ri.allocd R8.out _)) (by first | exact Ri.drew RYu.out | exact Ri.allocd (Ri.drew RYu.out) _ | exact Ri.drew (Ri.allocd RYu.out _))).mono ?_); rintro e w1 ⟨vm, rfl, rz1, bz1⟩; (try (have bz1 := undrew bz1)); have d1 : Below u2.heap.size u2 w1 := chain (by first | exact Below.refl _ _ | exact (Below.refl _ _).drew | exact below_one _ _ | exact ((Below.refl _ _).drew).alloc (Nat.le_refl _) _) bz1; have e1 : Below u2.heap.size u2 w1 := d1; have p0 := keep1 e1 k0; have p1 := keep1 e1 k1; have p2 := keep1 e1 k2; have p3 := keep1 e1 k3; have p4 := keep1 e1 k4; have p5 := keep1 e1 k5; obtain ⟨j1a, j1b, j1c, j1d, j1e, j1f, j1g, j1h, j1i, j1j, j1k, j1l⟩ := far8q (Nat.le_trans HSB.out e1.size); have j1m := Nat.lt_of_lt_of_le hu2g.out e1.size; have j1n : ¬ y2.heap.size = w1.heap.size := Nat.ne_of_lt j1m; have j1o : ¬ w1.heap.size = y2.heap.size := Nat.ne_of_gt j1m; (try (have A0 := Lib.hid (ZC.made (g := u2.heap.size) rfl bz1); obtain ⟨A0a, A0b, A0c, A0d⟩ := A0.out)); (try (have L01 := Lib.hid (apart_b (g := u2.heap.size) rfl bz1); obtain ⟨l01x, l01y, l01z⟩ := L01.out)); have G1 := Lib.hid rz1; obtain ⟨pr1, br1, or1, cr1, rfl, rr1⟩ := rz1; clear rr1)
        | (go_at_call 70; (with_reducible refine (H_sub.out _ _ _ (by first | exact Ri.below RXu.out e1 (Nat.le_refl _) | exact Ri.allocd (Ri.below RXu.out e1 (Nat.le_refl _)) _) (by first | exact G1.out | exact Ri.allocd G1.out _)).mono ?_); rintro e w2 ⟨vs, rfl, rz2, bz2⟩; (try (have bz2 := undrew bz2)); have d2 : Below w1.heap.size w1 w2 := chain (by first | exact Below.refl _ _ | exact (Below.refl _ _).drew | exact below_one _ _ | exact ((Below.refl _ _).drew).alloc (Nat.le_refl _) _) bz2; have e2 : Below u2.heap.size u2 w2 := chain e1 d2; have p0 := keep1 e2 k0; have p1 := keep1 e2 k1; have p2 := keep1 e2 k2; have p3 := keep1 e2 k3; have p4 := keep1 e2 k4; have p5 := keep1 e2 k5; obtain ⟨j2a, j2b, j2c, j2d, j2e, j2f, j2g, j2h, j2i, j2j, j2k, j2l⟩ := far8q (Nat.le_trans HSB.out e2.size); have j2m := Nat.lt_of_lt_of_le hu2g.out e2.size; have j2n : ¬ y2.heap.size = w2.heap.size := Nat.ne_of_lt j2m; have j2o : ¬ w2.heap.size = y2.heap.size := Nat.ne_of_gt j2m; (try (have A1 := Lib.hid (ZC.made (g := w1.heap.size) rfl bz2); obtain ⟨A1a, A1b, A1c, A1d⟩ := A1.out)); (try (have A0 := Lib.hid (A0.out.next d2); obtain ⟨A0a, A0b, A0c, A0d⟩ := A0.out)); (try (have L02 := Lib.hid (apart_t L01.out d2.size); obtain ⟨l02x, l02y, l02z⟩ := L02.out)); (try (have L12 := Lib.hid (apart_b (g := w1.heap.size) rfl bz2); obtain ⟨l12x, l12y, l12z⟩ := L12.out)); have G2 := Lib.hid rz2; obtain ⟨pr2, br2, or2, cr2, rfl, rr2⟩ := rz2; clear rr2)
        | fail)
    all_goals
      refine hMK _ _ (Met.intro (hRJ _ _ ?_))
      (repeat apply Exists.intro)
      refine ⟨?_, rfl⟩
      refine ⟨_, pr2, (Nm.dg D9 r.natAbs).length, cr2, rfl, ?_⟩
      show CutO _ (.slice pr2 _ cr2) _ u2.heap.size u2 _ _
      have sA0 : u2.heap.size ≤ u2.heap.size := Nat.le_refl _
      have sA1 : u2.heap.size ≤ w1.heap.size := e1.size
      have sA2 : u2.heap.size ≤ w2.heap.size := e2.size
      first
        | with_reducible exact CutO.k1 G2.out e2 sA2
        | with_reducible exact CutO.k2 A0.out sA0 G2.out e2
        | with_reducible exact CutO.k2 A1.out sA1 G2.out e2
        | fail
  obtain ⟨g9, p9, n9, c9, rfl, hcut⟩ := hcut
  obtain ⟨hg9, t9, r9, b9⟩ := hcut.out
  have D := Lib.hid (chain D.out b9)
  have T8 := Lib.hid (T8.out.next b9)
  have R8 := Lib.hid (Ri.below R8.out b9 (Nat.le_refl _))
  have T9 := Lib.hid t9
  have R9 := Lib.hid r9
  have hg9' : Hid (w.heap.size + 4 ≤ g9) := Nat.le_trans HSB.out hg9
  have hg89 : Hid (y2.heap.size < g9) := Nat.lt_of_lt_of_le hu2g.out hg9
  obtain ⟨k0, k1, _⟩ := T9.out
  clear hcut hg9 t9 r9 b9 ja jb jc jd je jf jg jh ji jj jk jl jm jn jo k2 k3 k4 k5
  obtain ⟨br, hbr⟩ : ∃ b, decide (r < 0) = b := ⟨_, rfl⟩
  rw [hbr] at T9 k0 H_sgn
  go_wp2_with fail
  refine (H_sgn.out _ _ R9.out).mono ?_
  rintro e y3 ⟨rfl, b3⟩
  have D := Lib.hid (chain D.out b3)
  have T8 := Lib.hid (T8.out.next b3)
  have R8 := Lib.hid (Ri.below R8.out b3 (Nat.le_refl _))
  have T9 := Lib.hid (T9.out.next b3)
  have R9 := Lib.hid (Ri.below R9.out b3 (Nat.le_refl _))
  clear b3 k0 k1
  have HQQ := Lib.hid hbq
  have HRR := Lib.hid hbr
  clear hbq hbr
  obtain ⟨f0, f1, f2, f3⟩ := T8.out
  obtain ⟨f4, f5, f6, f7⟩ := T9.out
  obtain ⟨m0, m1, m2, m3⟩ := I3.out.next D.out
  obtain ⟨n0, n1, n2, n3⟩ := I4.out.next D.out
  obtain ⟨ja, jb, jc, jd, je, jf, jg, jh, _⟩ := far8q hy2.out
  obtain ⟨qa, qb, qc, qd, qe, qf, qg, qh, _⟩ := far8q hg9'.out
  have i5 := (I4.out.next D.out).other (g2 := w.heap.size + 1 + 1) (u := .bool bq) (v := (.slice p8 l8 c8)) (by omega)
  have HZ := Lib.hid ((below_set2 (below_set2 (chain hb0.out D.out) (g := w.heap.size + 1 + 1) (by omega) (.bool bq) (.slice p8 l8 c8)) (g := w.heap.size + 1 + 1 + 1) (by omega) (.bool br) (.slice p9 n9 c9)).drew)
  have RQf := Lib.hid (Ri.drew ((R8.out.setq (I3.out.next D.out) (.bool bq) (.slice p8 l8 c8)).setq i5 (.bool br) (.slice p9 n9 c9)))
  have RRf := Lib.hid (Ri.drew ((R9.out.setq (I3.out.next D.out) (.bool bq) (.slice p8 l8 c8)).setq i5 (.bool br) (.slice p9 n9 c9)))
  clear i5
  go_wp2_with fail
  go_region
  go_wp2
  exact bodyPost_ret (v := .tuple #[.agg #[.bool bq, (.slice p8 l8 c8)], .agg #[.bool br, (.slice p9 n9 c9)]]) (by simp [results, Tryz.results20, go_sem, m0, m1, n0, n1]) rfl ⟨_, _, by rw [HQQ.out, HRR.out], RQf.out, RRf.out, HZ.out⟩
end Go.Proofs.YtlmklhffafcmmaaGreat
