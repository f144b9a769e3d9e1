/- What the theorem leans on, part 9: Q2, Kn1, Known, Short, LInts. -/
import Derived.Test.YtlmklhffafcmmaaGreatV7
import Derived.Test.YtlmklhffafcmmaaGreatV4
import Derived.Test.YtlmklhffafcmmaaGreatV8
import Derived.Test.YtlmklhffafcmmaaGreatV5
import Derived.Test.YtlmklhffafcmmaaGreatV6

/- The reference's ratios: FromRatio, CompareQ, MulQ, AddQ, SubQ, OutRatio; the law's function same. -/
namespace Go.Proofs.YtlmklhffafcmmaaGreat
open Go.RowKit

theorem vld_rat {a b : Bool} {s t : ByteArray} : vldR a s b t = (vld a s && vld b t && !b && decide (0 < t.size)) := by
  unfold vldR sgV
  cases vld b t <;> cases b <;> by_cases h : 0 < t.size <;> simp [h]


set_option maxRecDepth 100000 in
set_option maxHeartbeats 4000000 in
theorem rfromRatio_any (a b : Bool) (s t : ByteArray) (w : World) (hs : s.size ≤ 100000) (ht : t.size ≤ 100000) :
    Calls Tryz.prog 26 #[rat a s b t] w (RQPost (sg a (bv s)) (sg b (bv t)) w) := by
  have H_f1 := Lib.hid (fun w => rfrom_any a s w hs)
  have H_f2 := Lib.hid (fun w => rfrom_any b t w ht)
  obtain ⟨x, hx⟩ : ∃ x, sg a (bv s) = x := ⟨_, rfl⟩
  obtain ⟨y, hy⟩ : ∃ y, sg b (bv t) = y := ⟨_, rfl⟩
  rw [hx] at H_f1 ⊢
  rw [hy] at H_f2 ⊢
  unfold IntPost iV at H_f1 H_f2
  unfold RQPost qV rat
  clear hx hy hs ht
  generalize decide (x < 0) = bx at *
  generalize decide (y < 0) = b_y at *
  obtain ⟨w0, hw0⟩ : ∃ w0 : World, w0 = (w.alloc (.cells #[.bool a, .string s, .bool b, .string t] 27)).alloc (.cells #[.bool false, .slice none 0 0, .bool false, .slice none 0 0] 40) := ⟨_, rfl⟩
  have hb0 : Hid (Below w.heap.size w w0) := by rw [hw0]; exact ((Below.refl _ _).alloc (Nat.le_refl _) _).alloc (by simp) _
  have I1 : Hid (ZC4 (.bool a) (.string s) (.bool b) (.string t) w0 w.heap.size) := by
    rw [hw0]; exact (ZC4.made0 w).next (below_one _ _)
  have I3 : Hid (ZC4 (.bool false) (.slice none 0 0) (.bool false) (.slice none 0 0) w0 (w.heap.size + 1)) := by
    rw [hw0]; have := ZC4.made0 (x := .bool false) (y := .slice none 0 0) (z := .bool false) (u := .slice none 0 0) (t := 40) (w.alloc (.cells #[.bool a, .string s, .bool b, .string t] 27)); show ZC4 _ _ _ _ _ _; simpa using this
  have Hw0 := Lib.hid hw0
  clear hw0
  go_enter Tryz.func26, Tryz.ntmps26
  go_upto_region 1 with (fail)
  rw [← Hw0.out]
  obtain ⟨⟨k0, k1, k2, k3⟩, _⟩ := I1.out
  go_region_held3 (fun W' => W'.cell? ⟨w.heap.size, 0, none⟩ = some (.bool a) ∧ W'.cell? ⟨w.heap.size, 1, none⟩ = some (.string s) ∧ W'.cell? ⟨w.heap.size, 2, none⟩ = some (.bool b) ∧ W'.cell? ⟨w.heap.size, 3, none⟩ = some (.string t)) (go_keep)
    (first
      | (go_at_call 18; (with_reducible refine (H_f1.out  _ ).mono ?_); rintro e w1 ⟨v1, rfl, r1, b1⟩; (try (have b1 := undrew b1)); have E : Hid (Below w0.heap.size w0 w1) := (by first | exact b1 | exact chain ((Below.refl _ _).drew) b1); have pk0 := keep1 E.out k0; have pk1 := keep1 E.out k1; have pk2 := keep1 E.out k2; have pk3 := keep1 E.out k3; have G1 := Lib.hid r1; obtain ⟨pp1, bb1, oo1, cc1, rfl, hr1⟩ := r1; clear hr1; have Q3 := I3.out.next E.out; have Q3h := Lib.hid Q3; obtain ⟨⟨n0, n1, n2, n3⟩, n4, n5, n6, n7⟩ := Q3; clear b1)
      | (go_at_call 18; (with_reducible refine (H_f2.out  _ ).mono ?_); rintro e w2 ⟨v2, rfl, r2, b2⟩; (try (have b2 := undrew b2)); have E := Lib.hid (chain E.out b2); have pk0 := keep1 E.out k0; have pk1 := keep1 E.out k1; have pk2 := keep1 E.out k2; have pk3 := keep1 E.out k3; have G1 := Lib.hid (Ri.below G1.out b2 (Nat.le_refl _)); have G2 := Lib.hid r2; obtain ⟨pp2, bb2, oo2, cc2, rfl, hr2⟩ := r2; clear hr2; have Q3 := I3.out.next E.out; have Q3h := Lib.hid Q3; obtain ⟨⟨n0, n1, n2, n3⟩, n4, n5, n6, n7⟩ := Q3; clear b2)
      | fail)
  have HZ := Lib.hid (below_set4 (chain hb0.out E.out) (g := w.heap.size + 1) (by omega) (.bool bx) (.slice pp1 (Nm.dg D9 x.natAbs).length cc1) (.bool b_y) (.slice pp2 (Nm.dg D9 y.natAbs).length cc2))
  have HR1 := Lib.hid (Ri.set4 G1.out Q3h.out (.bool bx) (.slice pp1 (Nm.dg D9 x.natAbs).length cc1) (.bool b_y) (.slice pp2 (Nm.dg D9 y.natAbs).length cc2))
  have HR2 := Lib.hid (Ri.set4 G2.out Q3h.out (.bool bx) (.slice pp1 (Nm.dg D9 x.natAbs).length cc1) (.bool b_y) (.slice pp2 (Nm.dg D9 y.natAbs).length cc2))
  go_wp2
  exact bodyPost_ret (v := .agg #[.bool bx, .slice pp1 (Nm.dg D9 x.natAbs).length cc1, .bool b_y, .slice pp2 (Nm.dg D9 y.natAbs).length cc2]) (by simp [results, Tryz.results26, go_sem, n0, n1, n2, n3]) rfl ⟨_, _, rfl, HR1.out, HR2.out, HZ.out⟩

theorem mul9 {x y : Int} {k : Nat} (h1 : x.natAbs < D9 ^ k) (h2 : y.natAbs < D9 ^ k) : (x * y).natAbs < D9 ^ (k + k) := by
  rw [Int.natAbs_mul, Nat.pow_add]
  exact Nat.mul_lt_mul'' h1 h2
theorem add9 {x y : Int} {k : Nat} (h1 : x.natAbs < D9 ^ k) (h2 : y.natAbs < D9 ^ k) : (x + y).natAbs < D9 ^ (k + 1) := by
  rw [Nat.pow_succ]
  have h3 : D9 ^ k * 2 ≤ D9 ^ k * D9 := Nat.mul_le_mul_left _ (by decide)
  omega
theorem sub9 {x y : Int} {k : Nat} (h1 : x.natAbs < D9 ^ k) (h2 : y.natAbs < D9 ^ k) : (x - y).natAbs < D9 ^ (k + 1) := by
  rw [Nat.pow_succ]
  have h3 : D9 ^ k * 2 ≤ D9 ^ k * D9 := Nat.mul_le_mul_left _ (by decide)
  omega
theorem up9 {x : Int} {j k : Nat} (h : x.natAbs < D9 ^ j) (hj : j ≤ k) : x.natAbs < D9 ^ k := Nat.lt_of_lt_of_le h (Nat.pow_le_pow_right (by decide) hj)

set_option maxRecDepth 100000 in
set_option maxHeartbeats 4000000 in
theorem rcompareQ_int (x1 y1 x2 y2 : Int) (v1 v2 v3 v4 : Value) (w : World) (k : Nat) (hk : k ≤ 20000) (hx1 : x1.natAbs < D9 ^ k) (hy1 : y1.natAbs < D9 ^ k) (hx2 : x2.natAbs < D9 ^ k) (hy2 : y2.natAbs < D9 ^ k) (h1 : Rz w v1 x1) (h2 : Rz w v2 y1) (h3 : Rz w v3 x2) (h4 : Rz w v4 y2) :
    Calls Tryz.prog 27 #[qV x1 y1 v1 v2, qV x2 y2 v3 v4] w (SignPost (x1 * y2 - x2 * y1).sign w) := by
  have m12 := mul9 hx1 hy2
  have m21 := mul9 hx2 hy1
  have H_m1 := Lib.hid (fun v1 v2 w g1 g2 => rmul_int x1 y2 v1 v2 w g1 g2 (Nat.le_trans (len9 hx1) (by omega)) (Nat.le_trans (len9 hy2) (by omega)))
  have H_m2 := Lib.hid (fun v1 v2 w g1 g2 => rmul_int x2 y1 v1 v2 w g1 g2 (Nat.le_trans (len9 hx2) (by omega)) (Nat.le_trans (len9 hy1) (by omega)))
  have H_c := Lib.hid (fun v1 v2 w g1 g2 => rcompare_int (x1 * y2) (x2 * y1) v1 v2 w g1 g2 (Nat.le_trans (len9 m12) (by omega)) (Nat.le_trans (len9 m21) (by omega)))
  generalize x1 * y2 = X1 at *
  generalize x2 * y1 = X2 at *
  have R1 : Hid (Rz w v1 x1) := h1
  have R2 : Hid (Rz w v2 y1) := h2
  have R3 : Hid (Rz w v3 x2) := h3
  have R4 : Hid (Rz w v4 y2) := h4
  obtain ⟨p1, b1, o1, c1, rfl, hr1⟩ := h1
  obtain ⟨p2, b2, o2, c2, rfl, hr2⟩ := h2
  obtain ⟨p3, b3, o3, c3, rfl, hr3⟩ := h3
  obtain ⟨p4, b4, o4, c4, rfl, hr4⟩ := h4
  clear hr1 hr2 hr3 hr4 m12 m21 hx1 hy1 hx2 hy2 hk
  unfold qV
  unfold IntPost iV at *
  unfold SignPost at *
  generalize decide (x1 < 0) = bx1 at *
  generalize decide (y1 < 0) = by1 at *
  generalize decide (x2 < 0) = bx2 at *
  generalize decide (y2 < 0) = by2 at *
  generalize (Nm.dg D9 x1.natAbs).length = l1 at *
  generalize (Nm.dg D9 y1.natAbs).length = l2 at *
  generalize (Nm.dg D9 x2.natAbs).length = l3 at *
  generalize (Nm.dg D9 y2.natAbs).length = l4 at *
  obtain ⟨w0, hw0⟩ : ∃ w0 : World, w0 = (w.alloc (.cells #[.bool bx1, .slice p1 l1 c1, .bool by1, .slice p2 l2 c2] 40)).alloc (.cells #[.bool bx2, .slice p3 l3 c3, .bool by2, .slice p4 l4 c4] 40) := ⟨_, rfl⟩
  have hb0 : Hid (Below w.heap.size w w0) := by rw [hw0]; exact ((Below.refl _ _).alloc (Nat.le_refl _) _).alloc (by simp) _
  have I1 : Hid (ZC4 (.bool bx1) (.slice p1 l1 c1) (.bool by1) (.slice p2 l2 c2) w0 w.heap.size) := by
    rw [hw0]; exact (ZC4.made0 w).next (below_one _ _)
  have I2 : Hid (ZC4 (.bool bx2) (.slice p3 l3 c3) (.bool by2) (.slice p4 l4 c4) w0 (w.heap.size + 1)) := by
    rw [hw0]
    have := ZC4.made0 (x := .bool bx2) (y := .slice p3 l3 c3) (z := .bool by2) (u := .slice p4 l4 c4) (t := 40) (w.alloc (.cells #[.bool bx1, .slice p1 l1 c1, .bool by1, .slice p2 l2 c2] 40))
    skip
    show ZC4 _ _ _ _ _ _
    simpa using this
  have R1 : Hid (Rz w0 (.slice p1 l1 c1) x1) := Ri.below R1.out hb0.out (Nat.le_refl _)
  have R2 : Hid (Rz w0 (.slice p2 l2 c2) y1) := Ri.below R2.out hb0.out (Nat.le_refl _)
  have R3 : Hid (Rz w0 (.slice p3 l3 c3) x2) := Ri.below R3.out hb0.out (Nat.le_refl _)
  have R4 : Hid (Rz w0 (.slice p4 l4 c4) y2) := Ri.below R4.out hb0.out (Nat.le_refl _)
  have Hw0 := Lib.hid hw0
  clear hw0
  go_enter Tryz.func27, Tryz.ntmps27
  go_upto_region 1 with (fail)
  rw [← Hw0.out]
  obtain ⟨⟨k0, k1, k2, k3⟩, _⟩ := I1.out
  obtain ⟨⟨k4, k5, k6, k7⟩, _⟩ := I2.out
  have e1 : ¬ w.heap.size = w.heap.size + 1 + 1 := by omega
  have e2 : ¬ w.heap.size + 1 + 1 = w.heap.size := by omega
  have e3 : ¬ w.heap.size + 1 = w.heap.size + 1 + 1 := by omega
  have e4 : ¬ w.heap.size + 1 + 1 = w.heap.size + 1 := by omega
  go_region_held3 (fun W' => W'.cell? ⟨w.heap.size, 0, none⟩ = some (.bool bx1) ∧ W'.cell? ⟨w.heap.size, 1, none⟩ = some (.slice p1 l1 c1) ∧ W'.cell? ⟨w.heap.size, 2, none⟩ = some (.bool by1) ∧ W'.cell? ⟨w.heap.size, 3, none⟩ = some (.slice p2 l2 c2) ∧ W'.cell? ⟨w.heap.size + 1, 0, none⟩ = some (.bool bx2) ∧ W'.cell? ⟨w.heap.size + 1, 1, none⟩ = some (.slice p3 l3 c3) ∧ W'.cell? ⟨w.heap.size + 1, 2, none⟩ = some (.bool by2) ∧ W'.cell? ⟨w.heap.size + 1, 3, none⟩ = some (.slice p4 l4 c4)) (go_keep)
    (first
      | (go_at_call 74; (with_reducible refine (H_m1.out _ _ _ (by first | exact R1.out | exact Ri.drew R1.out | exact Ri.below R1.out E.out (Nat.le_refl _)) (by first | exact R4.out | exact Ri.drew R4.out | exact Ri.below R4.out E.out (Nat.le_refl _))).mono ?_); rintro e w1 ⟨v1, rfl, r1, b1⟩; (try (have b1 := undrew b1)); have E : Hid (Below w0.heap.size w0 w1) := (by first | exact b1 | exact chain ((Below.refl _ _).drew) b1); have pk0 := keep1 E.out k0; have pk1 := keep1 E.out k1; have pk2 := keep1 E.out k2; have pk3 := keep1 E.out k3; have pk4 := keep1 E.out k4; have pk5 := keep1 E.out k5; have pk6 := keep1 E.out k6; have pk7 := keep1 E.out k7; have G1 := Lib.hid r1; obtain ⟨pp1, bb1, oo1, cc1, rfl, hr1⟩ := r1; clear hr1; clear b1)
      | (go_at_call 74; (with_reducible refine (H_m2.out _ _ _ (by first | exact R3.out | exact Ri.drew R3.out | exact Ri.below R3.out E.out (Nat.le_refl _)) (by first | exact R2.out | exact Ri.drew R2.out | exact Ri.below R2.out E.out (Nat.le_refl _))).mono ?_); rintro e w2 ⟨v2, rfl, r2, b2⟩; (try (have b2 := undrew b2)); have E := Lib.hid (chain E.out b2); have pk0 := keep1 E.out k0; have pk1 := keep1 E.out k1; have pk2 := keep1 E.out k2; have pk3 := keep1 E.out k3; have pk4 := keep1 E.out k4; have pk5 := keep1 E.out k5; have pk6 := keep1 E.out k6; have pk7 := keep1 E.out k7; have G1 := Lib.hid (Ri.below G1.out b2 (Nat.le_refl _)); have G2 := Lib.hid r2; obtain ⟨pp2, bb2, oo2, cc2, rfl, hr2⟩ := r2; clear hr2; clear b2)
      | (go_at_call 87; (with_reducible refine (H_c.out _ _ _ (by first | exact G1.out | exact Ri.drew G1.out | exact Ri.below G1.out E.out (Nat.le_refl _)) (by first | exact G2.out | exact Ri.drew G2.out | exact Ri.below G2.out E.out (Nat.le_refl _))).mono ?_); rintro e w3 ⟨rfl, b3⟩; (try (have b3 := undrew b3)); have E := Lib.hid (chain E.out b3); have pk0 := keep1 E.out k0; have pk1 := keep1 E.out k1; have pk2 := keep1 E.out k2; have pk3 := keep1 E.out k3; have pk4 := keep1 E.out k4; have pk5 := keep1 E.out k5; have pk6 := keep1 E.out k6; have pk7 := keep1 E.out k7; have G1 := Lib.hid (Ri.below G1.out b3 (Nat.le_refl _)); have G2 := Lib.hid (Ri.below G2.out b3 (Nat.le_refl _)); clear b3)
      | fail)
  have HZ := Lib.hid (chain hb0.out E.out)
  go_wp2
  go_ret
  exact ⟨rfl, HZ.out⟩

set_option maxRecDepth 100000 in
set_option maxHeartbeats 4000000 in
theorem rmulQ_int (x1 y1 x2 y2 : Int) (v1 v2 v3 v4 : Value) (w : World) (k : Nat) (hk : k ≤ 20000) (hx1 : x1.natAbs < D9 ^ k) (hy1 : y1.natAbs < D9 ^ k) (hx2 : x2.natAbs < D9 ^ k) (hy2 : y2.natAbs < D9 ^ k) (hp1 : 0 < y1) (hp2 : 0 < y2) (h1 : Rz w v1 x1) (h2 : Rz w v2 y1) (h3 : Rz w v3 x2) (h4 : Rz w v4 y2) :
    Calls Tryz.prog 30 #[qV x1 y1 v1 v2, qV x2 y2 v3 v4] w (RQPost (x1 * x2 / lg (x1 * x2) (y1 * y2)) (y1 * y2 / lg (x1 * x2) (y1 * y2)) w) := by
  have m12 := mul9 hx1 hy2
  have m21 := mul9 hx2 hy1
  have n12 := mul9 hx1 hx2
  have d12 := mul9 hy1 hy2
  have H_m1 := Lib.hid (fun v1 v2 w g1 g2 => rmul_int x1 x2 v1 v2 w g1 g2 (Nat.le_trans (len9 hx1) (by omega)) (Nat.le_trans (len9 hx2) (by omega)))
  have H_m2 := Lib.hid (fun v1 v2 w g1 g2 => rmul_int y1 y2 v1 v2 w g1 g2 (Nat.le_trans (len9 hy1) (by omega)) (Nat.le_trans (len9 hy2) (by omega)))
  have hD0 : y1 * y2 ≠ 0 := by
    have := Int.mul_pos hp1 hp2
    omega
  have H_l := Lib.hid (fun v1 v2 w g1 g2 => rlowest_int (x1 * x2) (y1 * y2) v1 v2 w (k + k + 1) (by omega) (up9 n12 (by omega)) (up9 d12 (by omega)) hD0 g1 g2)
  obtain ⟨z1, hz1⟩ : ∃ z, (x1 * x2) / lg (x1 * x2) (y1 * y2) = z := ⟨_, rfl⟩
  obtain ⟨z2, hz2⟩ : ∃ z, (y1 * y2) / lg (x1 * x2) (y1 * y2) = z := ⟨_, rfl⟩
  rw [hz1, hz2] at H_l ⊢
  clear hz1 hz2 hD0 hp1 hp2
  obtain ⟨bz1, hbz1⟩ : ∃ b, decide (z1 < 0) = b := ⟨_, rfl⟩
  obtain ⟨bz2, hbz2⟩ : ∃ b, decide (z2 < 0) = b := ⟨_, rfl⟩
  unfold RQPost qV at H_l ⊢
  rw [hbz1, hbz2] at H_l ⊢
  clear hbz1 hbz2
  clear n12 d12
  generalize x1 * x2 = X1 at *
  generalize y1 * y2 = X2 at *
  have R1 : Hid (Rz w v1 x1) := h1
  have R2 : Hid (Rz w v2 y1) := h2
  have R3 : Hid (Rz w v3 x2) := h3
  have R4 : Hid (Rz w v4 y2) := h4
  obtain ⟨p1, b1, o1, c1, rfl, hr1⟩ := h1
  obtain ⟨p2, b2, o2, c2, rfl, hr2⟩ := h2
  obtain ⟨p3, b3, o3, c3, rfl, hr3⟩ := h3
  obtain ⟨p4, b4, o4, c4, rfl, hr4⟩ := h4
  clear hr1 hr2 hr3 hr4 m12 m21 hx1 hy1 hx2 hy2 hk
  skip
  unfold IntPost iV at *
  skip
  generalize decide (x1 < 0) = bx1 at *
  generalize decide (y1 < 0) = by1 at *
  generalize decide (x2 < 0) = bx2 at *
  generalize decide (y2 < 0) = by2 at *
  generalize (Nm.dg D9 x1.natAbs).length = l1 at *
  generalize (Nm.dg D9 y1.natAbs).length = l2 at *
  generalize (Nm.dg D9 x2.natAbs).length = l3 at *
  generalize (Nm.dg D9 y2.natAbs).length = l4 at *
  obtain ⟨w0, hw0⟩ : ∃ w0 : World, w0 = ((w.alloc (.cells #[.bool bx1, .slice p1 l1 c1, .bool by1, .slice p2 l2 c2] 40)).alloc (.cells #[.bool bx2, .slice p3 l3 c3, .bool by2, .slice p4 l4 c4] 40)).alloc (.cells #[.bool false, .slice none 0 0, .bool false, .slice none 0 0] 40) := ⟨_, rfl⟩
  have hb0 : Hid (Below w.heap.size w w0) := by rw [hw0]; exact (((Below.refl _ _).alloc (Nat.le_refl _) _).alloc (by simp) _).alloc (by simp; omega) _
  have I1 : Hid (ZC4 (.bool bx1) (.slice p1 l1 c1) (.bool by1) (.slice p2 l2 c2) w0 w.heap.size) := by
    rw [hw0]; exact (ZC4.made0 w).next (below_two _ _ _)
  have I2 : Hid (ZC4 (.bool bx2) (.slice p3 l3 c3) (.bool by2) (.slice p4 l4 c4) w0 (w.heap.size + 1)) := by
    rw [hw0]
    have := ZC4.made0 (x := .bool bx2) (y := .slice p3 l3 c3) (z := .bool by2) (u := .slice p4 l4 c4) (t := 40) (w.alloc (.cells #[.bool bx1, .slice p1 l1 c1, .bool by1, .slice p2 l2 c2] 40))
    have := this.next (below_one _ (.cells #[.bool false, .slice none 0 0, .bool false, .slice none 0 0] 40))
    show ZC4 _ _ _ _ _ _
    simpa using this
  have I3 : Hid (ZC4 (.bool false) (.slice none 0 0) (.bool false) (.slice none 0 0) w0 (w.heap.size + 1 + 1)) := by
    rw [hw0]; have := ZC4.made0 (x := .bool false) (y := .slice none 0 0) (z := .bool false) (u := .slice none 0 0) (t := 40) ((w.alloc (.cells #[.bool bx1, .slice p1 l1 c1, .bool by1, .slice p2 l2 c2] 40)).alloc (.cells #[.bool bx2, .slice p3 l3 c3, .bool by2, .slice p4 l4 c4] 40)); show ZC4 _ _ _ _ _ _; simpa using this
  have R1 : Hid (Rz w0 (.slice p1 l1 c1) x1) := Ri.below R1.out hb0.out (Nat.le_refl _)
  have R2 : Hid (Rz w0 (.slice p2 l2 c2) y1) := Ri.below R2.out hb0.out (Nat.le_refl _)
  have R3 : Hid (Rz w0 (.slice p3 l3 c3) x2) := Ri.below R3.out hb0.out (Nat.le_refl _)
  have R4 : Hid (Rz w0 (.slice p4 l4 c4) y2) := Ri.below R4.out hb0.out (Nat.le_refl _)
  have Hw0 := Lib.hid hw0
  clear hw0
  go_enter Tryz.func30, Tryz.ntmps30
  go_upto_region 1 with (fail)
  rw [← Hw0.out]
  obtain ⟨⟨k0, k1, k2, k3⟩, _⟩ := I1.out
  obtain ⟨⟨k4, k5, k6, k7⟩, _⟩ := I2.out
  have e1 : ¬ w.heap.size = w.heap.size + 1 + 1 := by omega
  have e2 : ¬ w.heap.size + 1 + 1 = w.heap.size := by omega
  have e3 : ¬ w.heap.size + 1 = w.heap.size + 1 + 1 := by omega
  have e4 : ¬ w.heap.size + 1 + 1 = w.heap.size + 1 := by omega
  go_region_held3 (fun W' => W'.cell? ⟨w.heap.size, 0, none⟩ = some (.bool bx1) ∧ W'.cell? ⟨w.heap.size, 1, none⟩ = some (.slice p1 l1 c1) ∧ W'.cell? ⟨w.heap.size, 2, none⟩ = some (.bool by1) ∧ W'.cell? ⟨w.heap.size, 3, none⟩ = some (.slice p2 l2 c2) ∧ W'.cell? ⟨w.heap.size + 1, 0, none⟩ = some (.bool bx2) ∧ W'.cell? ⟨w.heap.size + 1, 1, none⟩ = some (.slice p3 l3 c3) ∧ W'.cell? ⟨w.heap.size + 1, 2, none⟩ = some (.bool by2) ∧ W'.cell? ⟨w.heap.size + 1, 3, none⟩ = some (.slice p4 l4 c4)) (go_keep)
    (first
      | (go_at_call 74; (with_reducible refine (H_m1.out _ _ _ (by first | exact R1.out | exact Ri.drew R1.out | exact Ri.below R1.out E.out (Nat.le_refl _)) (by first | exact R3.out | exact Ri.drew R3.out | exact Ri.below R3.out E.out (Nat.le_refl _))).mono ?_); rintro e w1 ⟨v1, rfl, r1, b1⟩; (try (have b1 := undrew b1)); have E : Hid (Below w0.heap.size w0 w1) := (by first | exact b1 | exact chain ((Below.refl _ _).drew) b1); have pk0 := keep1 E.out k0; have pk1 := keep1 E.out k1; have pk2 := keep1 E.out k2; have pk3 := keep1 E.out k3; have pk4 := keep1 E.out k4; have pk5 := keep1 E.out k5; have pk6 := keep1 E.out k6; have pk7 := keep1 E.out k7; have G1 := Lib.hid r1; obtain ⟨pp1, bb1, oo1, cc1, rfl, hr1⟩ := r1; clear hr1; have Q3 := I3.out.next E.out; have Q3h := Lib.hid Q3; obtain ⟨⟨n0, n1, n2, n3⟩, n4, n5, n6, n7⟩ := Q3; clear b1)
      | (go_at_call 74; (with_reducible refine (H_m2.out _ _ _ (by first | exact R2.out | exact Ri.drew R2.out | exact Ri.below R2.out E.out (Nat.le_refl _)) (by first | exact R4.out | exact Ri.drew R4.out | exact Ri.below R4.out E.out (Nat.le_refl _))).mono ?_); rintro e w2 ⟨v2, rfl, r2, b2⟩; (try (have b2 := undrew b2)); have E := Lib.hid (chain E.out b2); have pk0 := keep1 E.out k0; have pk1 := keep1 E.out k1; have pk2 := keep1 E.out k2; have pk3 := keep1 E.out k3; have pk4 := keep1 E.out k4; have pk5 := keep1 E.out k5; have pk6 := keep1 E.out k6; have pk7 := keep1 E.out k7; have G1 := Lib.hid (Ri.below G1.out b2 (Nat.le_refl _)); have G2 := Lib.hid r2; obtain ⟨pp2, bb2, oo2, cc2, rfl, hr2⟩ := r2; clear hr2; have Q3 := I3.out.next E.out; have Q3h := Lib.hid Q3; obtain ⟨⟨n0, n1, n2, n3⟩, n4, n5, n6, n7⟩ := Q3; clear b2)
      | (go_at_call 15; (with_reducible refine (H_l.out _ _ _ (by first | exact G1.out | exact Ri.drew G1.out | exact Ri.below G1.out E.out (Nat.le_refl _)) (by first | exact G2.out | exact Ri.drew G2.out | exact Ri.below G2.out E.out (Nat.le_refl _))).mono ?_); rintro e w3 ⟨v3, x3, rfl, r3, s3, b3⟩; (try (have b3 := undrew b3)); have E := Lib.hid (chain E.out b3); have pk0 := keep1 E.out k0; have pk1 := keep1 E.out k1; have pk2 := keep1 E.out k2; have pk3 := keep1 E.out k3; have pk4 := keep1 E.out k4; have pk5 := keep1 E.out k5; have pk6 := keep1 E.out k6; have pk7 := keep1 E.out k7; have G1 := Lib.hid (Ri.below G1.out b3 (Nat.le_refl _)); have G2 := Lib.hid (Ri.below G2.out b3 (Nat.le_refl _)); have G3 := Lib.hid r3; have J3 := Lib.hid s3; obtain ⟨pp3, bb3, oo3, cc3, rfl, hr3⟩ := r3; obtain ⟨pq3, bq3, oq3, cq3, rfl, hs3⟩ := s3; clear hr3 hs3; have Q3 := I3.out.next E.out; have Q3h := Lib.hid Q3; obtain ⟨⟨n0, n1, n2, n3⟩, n4, n5, n6, n7⟩ := Q3; clear b3)
      | fail)
  have HZ := Lib.hid (below_set4 (chain hb0.out E.out) (g := w.heap.size + 1 + 1) (by omega) (.bool bz1) (.slice pp3 (Nm.dg D9 z1.natAbs).length cc3) (.bool bz2) (.slice pq3 (Nm.dg D9 z2.natAbs).length cq3))
  have HR1 := Lib.hid (Ri.set4 G3.out Q3h.out (.bool bz1) (.slice pp3 (Nm.dg D9 z1.natAbs).length cc3) (.bool bz2) (.slice pq3 (Nm.dg D9 z2.natAbs).length cq3))
  have HR2 := Lib.hid (Ri.set4 J3.out Q3h.out (.bool bz1) (.slice pp3 (Nm.dg D9 z1.natAbs).length cc3) (.bool bz2) (.slice pq3 (Nm.dg D9 z2.natAbs).length cq3))
  go_wp2
  exact bodyPost_ret (v := .agg #[.bool bz1, .slice pp3 (Nm.dg D9 z1.natAbs).length cc3, .bool bz2, .slice pq3 (Nm.dg D9 z2.natAbs).length cq3]) (by simp [results, Tryz.results30, go_sem, n0, n1, n2, n3]) rfl ⟨_, _, rfl, HR1.out, HR2.out, HZ.out⟩

set_option maxRecDepth 100000 in
set_option maxHeartbeats 4000000 in
theorem raddQ_int (x1 y1 x2 y2 : Int) (v1 v2 v3 v4 : Value) (w : World) (k : Nat) (hk : k ≤ 20000) (hx1 : x1.natAbs < D9 ^ k) (hy1 : y1.natAbs < D9 ^ k) (hx2 : x2.natAbs < D9 ^ k) (hy2 : y2.natAbs < D9 ^ k) (hp1 : 0 < y1) (hp2 : 0 < y2) (h1 : Rz w v1 x1) (h2 : Rz w v2 y1) (h3 : Rz w v3 x2) (h4 : Rz w v4 y2) :
    Calls Tryz.prog 28 #[qV x1 y1 v1 v2, qV x2 y2 v3 v4] w (RQPost ((x1 * y2 + x2 * y1) / lg (x1 * y2 + x2 * y1) (y1 * y2)) (y1 * y2 / lg (x1 * y2 + x2 * y1) (y1 * y2)) w) := by
  have m12 := mul9 hx1 hy2
  have m21 := mul9 hx2 hy1
  have H_m1 := Lib.hid (fun v1 v2 w g1 g2 => rmul_int x1 y2 v1 v2 w g1 g2 (Nat.le_trans (len9 hx1) (by omega)) (Nat.le_trans (len9 hy2) (by omega)))
  have H_m2 := Lib.hid (fun v1 v2 w g1 g2 => rmul_int x2 y1 v1 v2 w g1 g2 (Nat.le_trans (len9 hx2) (by omega)) (Nat.le_trans (len9 hy1) (by omega)))
  have d12 := mul9 hy1 hy2
  have n12 := add9 m12 m21
  have H_a := Lib.hid (fun v1 v2 w g1 g2 => radd_int (x1 * y2) (x2 * y1) v1 v2 w g1 g2 (Nat.le_trans (len9 m12) (by omega)) (Nat.le_trans (len9 m21) (by omega)))
  have H_m3 := Lib.hid (fun v1 v2 w g1 g2 => rmul_int y1 y2 v1 v2 w g1 g2 (Nat.le_trans (len9 hy1) (by omega)) (Nat.le_trans (len9 hy2) (by omega)))
  have hD0 : y1 * y2 ≠ 0 := by
    have := Int.mul_pos hp1 hp2
    omega
  have H_l := Lib.hid (fun v1 v2 w g1 g2 => rlowest_int (x1 * y2 + x2 * y1) (y1 * y2) v1 v2 w (k + k + 1) (by omega) n12 (up9 d12 (by omega)) hD0 g1 g2)
  obtain ⟨z1, hz1⟩ : ∃ z, (x1 * y2 + x2 * y1) / lg (x1 * y2 + x2 * y1) (y1 * y2) = z := ⟨_, rfl⟩
  obtain ⟨z2, hz2⟩ : ∃ z, (y1 * y2) / lg (x1 * y2 + x2 * y1) (y1 * y2) = z := ⟨_, rfl⟩
  rw [hz1, hz2] at H_l ⊢
  clear hz1 hz2 hD0 hp1 hp2
  obtain ⟨bz1, hbz1⟩ : ∃ b, decide (z1 < 0) = b := ⟨_, rfl⟩
  obtain ⟨bz2, hbz2⟩ : ∃ b, decide (z2 < 0) = b := ⟨_, rfl⟩
  unfold RQPost qV at H_l ⊢
  rw [hbz1, hbz2] at H_l ⊢
  clear hbz1 hbz2
  clear n12 d12
  generalize x1 * y2 + x2 * y1 = X3 at *
  generalize x1 * y2 = X1 at *
  generalize x2 * y1 = X2 at *
  generalize y1 * y2 = X4 at *
  have R1 : Hid (Rz w v1 x1) := h1
  have R2 : Hid (Rz w v2 y1) := h2
  have R3 : Hid (Rz w v3 x2) := h3
  have R4 : Hid (Rz w v4 y2) := h4
  obtain ⟨p1, b1, o1, c1, rfl, hr1⟩ := h1
  obtain ⟨p2, b2, o2, c2, rfl, hr2⟩ := h2
  obtain ⟨p3, b3, o3, c3, rfl, hr3⟩ := h3
  obtain ⟨p4, b4, o4, c4, rfl, hr4⟩ := h4
  clear hr1 hr2 hr3 hr4 m12 m21 hx1 hy1 hx2 hy2 hk
  skip
  unfold IntPost iV at *
  skip
  generalize decide (x1 < 0) = bx1 at *
  generalize decide (y1 < 0) = by1 at *
  generalize decide (x2 < 0) = bx2 at *
  generalize decide (y2 < 0) = by2 at *
  generalize (Nm.dg D9 x1.natAbs).length = l1 at *
  generalize (Nm.dg D9 y1.natAbs).length = l2 at *
  generalize (Nm.dg D9 x2.natAbs).length = l3 at *
  generalize (Nm.dg D9 y2.natAbs).length = l4 at *
  obtain ⟨w0, hw0⟩ : ∃ w0 : World, w0 = ((w.alloc (.cells #[.bool bx1, .slice p1 l1 c1, .bool by1, .slice p2 l2 c2] 40)).alloc (.cells #[.bool bx2, .slice p3 l3 c3, .bool by2, .slice p4 l4 c4] 40)).alloc (.cells #[.bool false, .slice none 0 0, .bool false, .slice none 0 0] 40) := ⟨_, rfl⟩
  have hb0 : Hid (Below w.heap.size w w0) := by rw [hw0]; exact (((Below.refl _ _).alloc (Nat.le_refl _) _).alloc (by simp) _).alloc (by simp; omega) _
  have I1 : Hid (ZC4 (.bool bx1) (.slice p1 l1 c1) (.bool by1) (.slice p2 l2 c2) w0 w.heap.size) := by
    rw [hw0]; exact (ZC4.made0 w).next (below_two _ _ _)
  have I2 : Hid (ZC4 (.bool bx2) (.slice p3 l3 c3) (.bool by2) (.slice p4 l4 c4) w0 (w.heap.size + 1)) := by
    rw [hw0]
    have := ZC4.made0 (x := .bool bx2) (y := .slice p3 l3 c3) (z := .bool by2) (u := .slice p4 l4 c4) (t := 40) (w.alloc (.cells #[.bool bx1, .slice p1 l1 c1, .bool by1, .slice p2 l2 c2] 40))
    have := this.next (below_one _ (.cells #[.bool false, .slice none 0 0, .bool false, .slice none 0 0] 40))
    show ZC4 _ _ _ _ _ _
    simpa using this
  have I3 : Hid (ZC4 (.bool false) (.slice none 0 0) (.bool false) (.slice none 0 0) w0 (w.heap.size + 1 + 1)) := by
    rw [hw0]; have := ZC4.made0 (x := .bool false) (y := .slice none 0 0) (z := .bool false) (u := .slice none 0 0) (t := 40) ((w.alloc (.cells #[.bool bx1, .slice p1 l1 c1, .bool by1, .slice p2 l2 c2] 40)).alloc (.cells #[.bool bx2, .slice p3 l3 c3, .bool by2, .slice p4 l4 c4] 40)); show ZC4 _ _ _ _ _ _; simpa using this
  have R1 : Hid (Rz w0 (.slice p1 l1 c1) x1) := Ri.below R1.out hb0.out (Nat.le_refl _)
  have R2 : Hid (Rz w0 (.slice p2 l2 c2) y1) := Ri.below R2.out hb0.out (Nat.le_refl _)
  have R3 : Hid (Rz w0 (.slice p3 l3 c3) x2) := Ri.below R3.out hb0.out (Nat.le_refl _)
  have R4 : Hid (Rz w0 (.slice p4 l4 c4) y2) := Ri.below R4.out hb0.out (Nat.le_refl _)
  have Hw0 := Lib.hid hw0
  clear hw0
  go_enter Tryz.func28, Tryz.ntmps28
  go_upto_region 1 with (fail)
  rw [← Hw0.out]
  obtain ⟨⟨k0, k1, k2, k3⟩, _⟩ := I1.out
  obtain ⟨⟨k4, k5, k6, k7⟩, _⟩ := I2.out
  have e1 : ¬ w.heap.size = w.heap.size + 1 + 1 := by omega
  have e2 : ¬ w.heap.size + 1 + 1 = w.heap.size := by omega
  have e3 : ¬ w.heap.size + 1 = w.heap.size + 1 + 1 := by omega
  have e4 : ¬ w.heap.size + 1 + 1 = w.heap.size + 1 := by omega
  go_region_held3 (fun W' => W'.cell? ⟨w.heap.size, 0, none⟩ = some (.bool bx1) ∧ W'.cell? ⟨w.heap.size, 1, none⟩ = some (.slice p1 l1 c1) ∧ W'.cell? ⟨w.heap.size, 2, none⟩ = some (.bool by1) ∧ W'.cell? ⟨w.heap.size, 3, none⟩ = some (.slice p2 l2 c2) ∧ W'.cell? ⟨w.heap.size + 1, 0, none⟩ = some (.bool bx2) ∧ W'.cell? ⟨w.heap.size + 1, 1, none⟩ = some (.slice p3 l3 c3) ∧ W'.cell? ⟨w.heap.size + 1, 2, none⟩ = some (.bool by2) ∧ W'.cell? ⟨w.heap.size + 1, 3, none⟩ = some (.slice p4 l4 c4)) (go_keep)
    (first
      | (go_at_call 74; (with_reducible refine (H_m1.out _ _ _ (by first | exact R1.out | exact Ri.drew R1.out | exact Ri.below R1.out E.out (Nat.le_refl _)) (by first | exact R4.out | exact Ri.drew R4.out | exact Ri.below R4.out E.out (Nat.le_refl _))).mono ?_); rintro e w1 ⟨v1, rfl, r1, b1⟩; (try (have b1 := undrew b1)); have E : Hid (Below w0.heap.size w0 w1) := (by first | exact b1 | exact chain ((Below.refl _ _).drew) b1); have pk0 := keep1 E.out k0; have pk1 := keep1 E.out k1; have pk2 := keep1 E.out k2; have pk3 := keep1 E.out k3; have pk4 := keep1 E.out k4; have pk5 := keep1 E.out k5; have pk6 := keep1 E.out k6; have pk7 := keep1 E.out k7; have G1 := Lib.hid r1; obtain ⟨pp1, bb1, oo1, cc1, rfl, hr1⟩ := r1; clear hr1; have Q3 := I3.out.next E.out; have Q3h := Lib.hid Q3; obtain ⟨⟨n0, n1, n2, n3⟩, n4, n5, n6, n7⟩ := Q3; clear b1)
      | (go_at_call 74; (with_reducible refine (H_m2.out _ _ _ (by first | exact R3.out | exact Ri.drew R3.out | exact Ri.below R3.out E.out (Nat.le_refl _)) (by first | exact R2.out | exact Ri.drew R2.out | exact Ri.below R2.out E.out (Nat.le_refl _))).mono ?_); rintro e w2 ⟨v2, rfl, r2, b2⟩; (try (have b2 := undrew b2)); have E := Lib.hid (chain E.out b2); have pk0 := keep1 E.out k0; have pk1 := keep1 E.out k1; have pk2 := keep1 E.out k2; have pk3 := keep1 E.out k3; have pk4 := keep1 E.out k4; have pk5 := keep1 E.out k5; have pk6 := keep1 E.out k6; have pk7 := keep1 E.out k7; have G1 := Lib.hid (Ri.below G1.out b2 (Nat.le_refl _)); have G2 := Lib.hid r2; obtain ⟨pp2, bb2, oo2, cc2, rfl, hr2⟩ := r2; clear hr2; have Q3 := I3.out.next E.out; have Q3h := Lib.hid Q3; obtain ⟨⟨n0, n1, n2, n3⟩, n4, n5, n6, n7⟩ := Q3; clear b2)
      | (go_at_call 75; (with_reducible refine (H_a.out _ _ _ (by first | exact G1.out | exact Ri.drew G1.out | exact Ri.below G1.out E.out (Nat.le_refl _)) (by first | exact G2.out | exact Ri.drew G2.out | exact Ri.below G2.out E.out (Nat.le_refl _))).mono ?_); rintro e w3 ⟨v3, rfl, r3, b3⟩; (try (have b3 := undrew b3)); have E := Lib.hid (chain E.out b3); have pk0 := keep1 E.out k0; have pk1 := keep1 E.out k1; have pk2 := keep1 E.out k2; have pk3 := keep1 E.out k3; have pk4 := keep1 E.out k4; have pk5 := keep1 E.out k5; have pk6 := keep1 E.out k6; have pk7 := keep1 E.out k7; have G1 := Lib.hid (Ri.below G1.out b3 (Nat.le_refl _)); have G2 := Lib.hid (Ri.below G2.out b3 (Nat.le_refl _)); have G3 := Lib.hid r3; obtain ⟨pp3, bb3, oo3, cc3, rfl, hr3⟩ := r3; clear hr3; have Q3 := I3.out.next E.out; have Q3h := Lib.hid Q3; obtain ⟨⟨n0, n1, n2, n3⟩, n4, n5, n6, n7⟩ := Q3; clear b3)
      | (go_at_call 74; (with_reducible refine (H_m3.out _ _ _ (by first | exact R2.out | exact Ri.drew R2.out | exact Ri.below R2.out E.out (Nat.le_refl _)) (by first | exact R4.out | exact Ri.drew R4.out | exact Ri.below R4.out E.out (Nat.le_refl _))).mono ?_); rintro e w4 ⟨v4, rfl, r4, b4⟩; (try (have b4 := undrew b4)); have E := Lib.hid (chain E.out b4); have pk0 := keep1 E.out k0; have pk1 := keep1 E.out k1; have pk2 := keep1 E.out k2; have pk3 := keep1 E.out k3; have pk4 := keep1 E.out k4; have pk5 := keep1 E.out k5; have pk6 := keep1 E.out k6; have pk7 := keep1 E.out k7; have G1 := Lib.hid (Ri.below G1.out b4 (Nat.le_refl _)); have G2 := Lib.hid (Ri.below G2.out b4 (Nat.le_refl _)); have G3 := Lib.hid (Ri.below G3.out b4 (Nat.le_refl _)); have G4 := Lib.hid r4; obtain ⟨pp4, bb4, oo4, cc4, rfl, hr4⟩ := r4; clear hr4; have Q3 := I3.out.next E.out; have Q3h := Lib.hid Q3; obtain ⟨⟨n0, n1, n2, n3⟩, n4, n5, n6, n7⟩ := Q3; clear b4)
      | (go_at_call 15; (with_reducible refine (H_l.out _ _ _ (by first | exact G3.out | exact Ri.drew G3.out | exact Ri.below G3.out E.out (Nat.le_refl _)) (by first | exact G4.out | exact Ri.drew G4.out | exact Ri.below G4.out E.out (Nat.le_refl _))).mono ?_); rintro e w5 ⟨v5, x5, rfl, r5, s5, b5⟩; (try (have b5 := undrew b5)); have E := Lib.hid (chain E.out b5); have pk0 := keep1 E.out k0; have pk1 := keep1 E.out k1; have pk2 := keep1 E.out k2; have pk3 := keep1 E.out k3; have pk4 := keep1 E.out k4; have pk5 := keep1 E.out k5; have pk6 := keep1 E.out k6; have pk7 := keep1 E.out k7; have G1 := Lib.hid (Ri.below G1.out b5 (Nat.le_refl _)); have G2 := Lib.hid (Ri.below G2.out b5 (Nat.le_refl _)); have G3 := Lib.hid (Ri.below G3.out b5 (Nat.le_refl _)); have G4 := Lib.hid (Ri.below G4.out b5 (Nat.le_refl _)); have G5 := Lib.hid r5; have J5 := Lib.hid s5; obtain ⟨pp5, bb5, oo5, cc5, rfl, hr5⟩ := r5; obtain ⟨pq5, bq5, oq5, cq5, rfl, hs5⟩ := s5; clear hr5 hs5; have Q3 := I3.out.next E.out; have Q3h := Lib.hid Q3; obtain ⟨⟨n0, n1, n2, n3⟩, n4, n5, n6, n7⟩ := Q3; clear b5)
      | fail)
  have HZ := Lib.hid (below_set4 (chain hb0.out E.out) (g := w.heap.size + 1 + 1) (by omega) (.bool bz1) (.slice pp5 (Nm.dg D9 z1.natAbs).length cc5) (.bool bz2) (.slice pq5 (Nm.dg D9 z2.natAbs).length cq5))
  have HR1 := Lib.hid (Ri.set4 G5.out Q3h.out (.bool bz1) (.slice pp5 (Nm.dg D9 z1.natAbs).length cc5) (.bool bz2) (.slice pq5 (Nm.dg D9 z2.natAbs).length cq5))
  have HR2 := Lib.hid (Ri.set4 J5.out Q3h.out (.bool bz1) (.slice pp5 (Nm.dg D9 z1.natAbs).length cc5) (.bool bz2) (.slice pq5 (Nm.dg D9 z2.natAbs).length cq5))
  go_wp2
  exact bodyPost_ret (v := .agg #[.bool bz1, .slice pp5 (Nm.dg D9 z1.natAbs).length cc5, .bool bz2, .slice pq5 (Nm.dg D9 z2.natAbs).length cq5]) (by simp [results, Tryz.results28, go_sem, n0, n1, n2, n3]) rfl ⟨_, _, rfl, HR1.out, HR2.out, HZ.out⟩

set_option maxRecDepth 100000 in
set_option maxHeartbeats 4000000 in
theorem rsubQ_int (x1 y1 x2 y2 : Int) (v1 v2 v3 v4 : Value) (w : World) (k : Nat) (hk : k ≤ 20000) (hx1 : x1.natAbs < D9 ^ k) (hy1 : y1.natAbs < D9 ^ k) (hx2 : x2.natAbs < D9 ^ k) (hy2 : y2.natAbs < D9 ^ k) (hp1 : 0 < y1) (hp2 : 0 < y2) (h1 : Rz w v1 x1) (h2 : Rz w v2 y1) (h3 : Rz w v3 x2) (h4 : Rz w v4 y2) :
    Calls Tryz.prog 29 #[qV x1 y1 v1 v2, qV x2 y2 v3 v4] w (RQPost ((x1 * y2 - x2 * y1) / lg (x1 * y2 - x2 * y1) (y1 * y2)) (y1 * y2 / lg (x1 * y2 - x2 * y1) (y1 * y2)) w) := by
  have m12 := mul9 hx1 hy2
  have m21 := mul9 hx2 hy1
  have H_m1 := Lib.hid (fun v1 v2 w g1 g2 => rmul_int x1 y2 v1 v2 w g1 g2 (Nat.le_trans (len9 hx1) (by omega)) (Nat.le_trans (len9 hy2) (by omega)))
  have H_m2 := Lib.hid (fun v1 v2 w g1 g2 => rmul_int x2 y1 v1 v2 w g1 g2 (Nat.le_trans (len9 hx2) (by omega)) (Nat.le_trans (len9 hy1) (by omega)))
  have d12 := mul9 hy1 hy2
  have n12 := sub9 m12 m21
  have H_a := Lib.hid (fun v1 v2 w g1 g2 => rsub_int (x1 * y2) (x2 * y1) v1 v2 w g1 g2 (Nat.le_trans (len9 m12) (by omega)) (Nat.le_trans (len9 m21) (by omega)))
  have H_m3 := Lib.hid (fun v1 v2 w g1 g2 => rmul_int y1 y2 v1 v2 w g1 g2 (Nat.le_trans (len9 hy1) (by omega)) (Nat.le_trans (len9 hy2) (by omega)))
  have hD0 : y1 * y2 ≠ 0 := by
    have := Int.mul_pos hp1 hp2
    omega
  have H_l := Lib.hid (fun v1 v2 w g1 g2 => rlowest_int (x1 * y2 - x2 * y1) (y1 * y2) v1 v2 w (k + k + 1) (by omega) n12 (up9 d12 (by omega)) hD0 g1 g2)
  obtain ⟨z1, hz1⟩ : ∃ z, (x1 * y2 - x2 * y1) / lg (x1 * y2 - x2 * y1) (y1 * y2) = z := ⟨_, rfl⟩
  obtain ⟨z2, hz2⟩ : ∃ z, (y1 * y2) / lg (x1 * y2 - x2 * y1) (y1 * y2) = z := ⟨_, rfl⟩
  rw [hz1, hz2] at H_l ⊢
  clear hz1 hz2 hD0 hp1 hp2
  obtain ⟨bz1, hbz1⟩ : ∃ b, decide (z1 < 0) = b := ⟨_, rfl⟩
  obtain ⟨bz2, hbz2⟩ : ∃ b, decide (z2 < 0) = b := ⟨_, rfl⟩
  unfold RQPost qV at H_l ⊢
  rw [hbz1, hbz2] at H_l ⊢
  clear hbz1 hbz2
  clear n12 d12
  generalize x1 * y2 - x2 * y1 = X3 at *
  generalize x1 * y2 = X1 at *
  generalize x2 * y1 = X2 at *
  generalize y1 * y2 = X4 at *
  have R1 : Hid (Rz w v1 x1) := h1
  have R2 : Hid (Rz w v2 y1) := h2
  have R3 : Hid (Rz w v3 x2) := h3
  have R4 : Hid (Rz w v4 y2) := h4
  obtain ⟨p1, b1, o1, c1, rfl, hr1⟩ := h1
  obtain ⟨p2, b2, o2, c2, rfl, hr2⟩ := h2
  obtain ⟨p3, b3, o3, c3, rfl, hr3⟩ := h3
  obtain ⟨p4, b4, o4, c4, rfl, hr4⟩ := h4
  clear hr1 hr2 hr3 hr4 m12 m21 hx1 hy1 hx2 hy2 hk
  skip
  unfold IntPost iV at *
  skip
  generalize decide (x1 < 0) = bx1 at *
  generalize decide (y1 < 0) = by1 at *
  generalize decide (x2 < 0) = bx2 at *
  generalize decide (y2 < 0) = by2 at *
  generalize (Nm.dg D9 x1.natAbs).length = l1 at *
  generalize (Nm.dg D9 y1.natAbs).length = l2 at *
  generalize (Nm.dg D9 x2.natAbs).length = l3 at *
  generalize (Nm.dg D9 y2.natAbs).length = l4 at *
  obtain ⟨w0, hw0⟩ : ∃ w0 : World, w0 = ((w.alloc (.cells #[.bool bx1, .slice p1 l1 c1, .bool by1, .slice p2 l2 c2] 40)).alloc (.cells #[.bool bx2, .slice p3 l3 c3, .bool by2, .slice p4 l4 c4] 40)).alloc (.cells #[.bool false, .slice none 0 0, .bool false, .slice none 0 0] 40) := ⟨_, rfl⟩
  have hb0 : Hid (Below w.heap.size w w0) := by rw [hw0]; exact (((Below.refl _ _).alloc (Nat.le_refl _) _).alloc (by simp) _).alloc (by simp; omega) _
  have I1 : Hid (ZC4 (.bool bx1) (.slice p1 l1 c1) (.bool by1) (.slice p2 l2 c2) w0 w.heap.size) := by
    rw [hw0]; exact (ZC4.made0 w).next (below_two _ _ _)
  have I2 : Hid (ZC4 (.bool bx2) (.slice p3 l3 c3) (.bool by2) (.slice p4 l4 c4) w0 (w.heap.size + 1)) := by
    rw [hw0]
    have := ZC4.made0 (x := .bool bx2) (y := .slice p3 l3 c3) (z := .bool by2) (u := .slice p4 l4 c4) (t := 40) (w.alloc (.cells #[.bool bx1, .slice p1 l1 c1, .bool by1, .slice p2 l2 c2] 40))
    have := this.next (below_one _ (.cells #[.bool false, .slice none 0 0, .bool false, .slice none 0 0] 40))
    show ZC4 _ _ _ _ _ _
    simpa using this
  have I3 : Hid (ZC4 (.bool false) (.slice none 0 0) (.bool false) (.slice none 0 0) w0 (w.heap.size + 1 + 1)) := by
    rw [hw0]; have := ZC4.made0 (x := .bool false) (y := .slice none 0 0) (z := .bool false) (u := .slice none 0 0) (t := 40) ((w.alloc (.cells #[.bool bx1, .slice p1 l1 c1, .bool by1, .slice p2 l2 c2] 40)).alloc (.cells #[.bool bx2, .slice p3 l3 c3, .bool by2, .slice p4 l4 c4] 40)); show ZC4 _ _ _ _ _ _; simpa using this
  have R1 : Hid (Rz w0 (.slice p1 l1 c1) x1) := Ri.below R1.out hb0.out (Nat.le_refl _)
  have R2 : Hid (Rz w0 (.slice p2 l2 c2) y1) := Ri.below R2.out hb0.out (Nat.le_refl _)
  have R3 : Hid (Rz w0 (.slice p3 l3 c3) x2) := Ri.below R3.out hb0.out (Nat.le_refl _)
  have R4 : Hid (Rz w0 (.slice p4 l4 c4) y2) := Ri.below R4.out hb0.out (Nat.le_refl _)
  have Hw0 := Lib.hid hw0
  clear hw0
  go_enter Tryz.func29, Tryz.ntmps29
  go_upto_region 1 with (fail)
  rw [← Hw0.out]
  obtain ⟨⟨k0, k1, k2, k3⟩, _⟩ := I1.out
  obtain ⟨⟨k4, k5, k6, k7⟩, _⟩ := I2.out
  have e1 : ¬ w.heap.size = w.heap.size + 1 + 1 := by omega
  have e2 : ¬ w.heap.size + 1 + 1 = w.heap.size := by omega
  have e3 : ¬ w.heap.size + 1 = w.heap.size + 1 + 1 := by omega
  have e4 : ¬ w.heap.size + 1 + 1 = w.heap.size + 1 := by omega
  go_region_held3 (fun W' => W'.cell? ⟨w.heap.size, 0, none⟩ = some (.bool bx1) ∧ W'.cell? ⟨w.heap.size, 1, none⟩ = some (.slice p1 l1 c1) ∧ W'.cell? ⟨w.heap.size, 2, none⟩ = some (.bool by1) ∧ W'.cell? ⟨w.heap.size, 3, none⟩ = some (.slice p2 l2 c2) ∧ W'.cell? ⟨w.heap.size + 1, 0, none⟩ = some (.bool bx2) ∧ W'.cell? ⟨w.heap.size + 1, 1, none⟩ = some (.slice p3 l3 c3) ∧ W'.cell? ⟨w.heap.size + 1, 2, none⟩ = some (.bool by2) ∧ W'.cell? ⟨w.heap.size + 1, 3, none⟩ = some (.slice p4 l4 c4)) (go_keep)
    (first
      | (go_at_call 74; (with_reducible refine (H_m1.out _ _ _ (by first | exact R1.out | exact Ri.drew R1.out | exact Ri.below R1.out E.out (Nat.le_refl _)) (by first | exact R4.out | exact Ri.drew R4.out | exact Ri.below R4.out E.out (Nat.le_refl _))).mono ?_); rintro e w1 ⟨v1, rfl, r1, b1⟩; (try (have b1 := undrew b1)); have E : Hid (Below w0.heap.size w0 w1) := (by first | exact b1 | exact chain ((Below.refl _ _).drew) b1); have pk0 := keep1 E.out k0; have pk1 := keep1 E.out k1; have pk2 := keep1 E.out k2; have pk3 := keep1 E.out k3; have pk4 := keep1 E.out k4; have pk5 := keep1 E.out k5; have pk6 := keep1 E.out k6; have pk7 := keep1 E.out k7; have G1 := Lib.hid r1; obtain ⟨pp1, bb1, oo1, cc1, rfl, hr1⟩ := r1; clear hr1; have Q3 := I3.out.next E.out; have Q3h := Lib.hid Q3; obtain ⟨⟨n0, n1, n2, n3⟩, n4, n5, n6, n7⟩ := Q3; clear b1)
      | (go_at_call 74; (with_reducible refine (H_m2.out _ _ _ (by first | exact R3.out | exact Ri.drew R3.out | exact Ri.below R3.out E.out (Nat.le_refl _)) (by first | exact R2.out | exact Ri.drew R2.out | exact Ri.below R2.out E.out (Nat.le_refl _))).mono ?_); rintro e w2 ⟨v2, rfl, r2, b2⟩; (try (have b2 := undrew b2)); have E := Lib.hid (chain E.out b2); have pk0 := keep1 E.out k0; have pk1 := keep1 E.out k1; have pk2 := keep1 E.out k2; have pk3 := keep1 E.out k3; have pk4 := keep1 E.out k4; have pk5 := keep1 E.out k5; have pk6 := keep1 E.out k6; have pk7 := keep1 E.out k7; have G1 := Lib.hid (Ri.below G1.out b2 (Nat.le_refl _)); have G2 := Lib.hid r2; obtain ⟨pp2, bb2, oo2, cc2, rfl, hr2⟩ := r2; clear hr2; have Q3 := I3.out.next E.out; have Q3h := Lib.hid Q3; obtain ⟨⟨n0, n1, n2, n3⟩, n4, n5, n6, n7⟩ := Q3; clear b2)
      | (go_at_call 70; (with_reducible refine (H_a.out _ _ _ (by first | exact G1.out | exact Ri.drew G1.out | exact Ri.below G1.out E.out (Nat.le_refl _)) (by first | exact G2.out | exact Ri.drew G2.out | exact Ri.below G2.out E.out (Nat.le_refl _))).mono ?_); rintro e w3 ⟨v3, rfl, r3, b3⟩; (try (have b3 := undrew b3)); have E := Lib.hid (chain E.out b3); have pk0 := keep1 E.out k0; have pk1 := keep1 E.out k1; have pk2 := keep1 E.out k2; have pk3 := keep1 E.out k3; have pk4 := keep1 E.out k4; have pk5 := keep1 E.out k5; have pk6 := keep1 E.out k6; have pk7 := keep1 E.out k7; have G1 := Lib.hid (Ri.below G1.out b3 (Nat.le_refl _)); have G2 := Lib.hid (Ri.below G2.out b3 (Nat.le_refl _)); have G3 := Lib.hid r3; obtain ⟨pp3, bb3, oo3, cc3, rfl, hr3⟩ := r3; clear hr3; have Q3 := I3.out.next E.out; have Q3h := Lib.hid Q3; obtain ⟨⟨n0, n1, n2, n3⟩, n4, n5, n6, n7⟩ := Q3; clear b3)
      | (go_at_call 74; (with_reducible refine (H_m3.out _ _ _ (by first | exact R2.out | exact Ri.drew R2.out | exact Ri.below R2.out E.out (Nat.le_refl _)) (by first | exact R4.out | exact Ri.drew R4.out | exact Ri.below R4.out E.out (Nat.le_refl _))).mono ?_); rintro e w4 ⟨v4, rfl, r4, b4⟩; (try (have b4 := undrew b4)); have E := Lib.hid (chain E.out b4); have pk0 := keep1 E.out k0; have pk1 := keep1 E.out k1; have pk2 := keep1 E.out k2; have pk3 := keep1 E.out k3; have pk4 := keep1 E.out k4; have pk5 := keep1 E.out k5; have pk6 := keep1 E.out k6; have pk7 := keep1 E.out k7; have G1 := Lib.hid (Ri.below G1.out b4 (Nat.le_refl _)); have G2 := Lib.hid (Ri.below G2.out b4 (Nat.le_refl _)); have G3 := Lib.hid (Ri.below G3.out b4 (Nat.le_refl _)); have G4 := Lib.hid r4; obtain ⟨pp4, bb4, oo4, cc4, rfl, hr4⟩ := r4; clear hr4; have Q3 := I3.out.next E.out; have Q3h := Lib.hid Q3; obtain ⟨⟨n0, n1, n2, n3⟩, n4, n5, n6, n7⟩ := Q3; clear b4)
      | (go_at_call 15; (with_reducible refine (H_l.out _ _ _ (by first | exact G3.out | exact Ri.drew G3.out | exact Ri.below G3.out E.out (Nat.le_refl _)) (by first | exact G4.out | exact Ri.drew G4.out | exact Ri.below G4.out E.out (Nat.le_refl _))).mono ?_); rintro e w5 ⟨v5, x5, rfl, r5, s5, b5⟩; (try (have b5 := undrew b5)); have E := Lib.hid (chain E.out b5); have pk0 := keep1 E.out k0; have pk1 := keep1 E.out k1; have pk2 := keep1 E.out k2; have pk3 := keep1 E.out k3; have pk4 := keep1 E.out k4; have pk5 := keep1 E.out k5; have pk6 := keep1 E.out k6; have pk7 := keep1 E.out k7; have G1 := Lib.hid (Ri.below G1.out b5 (Nat.le_refl _)); have G2 := Lib.hid (Ri.below G2.out b5 (Nat.le_refl _)); have G3 := Lib.hid (Ri.below G3.out b5 (Nat.le_refl _)); have G4 := Lib.hid (Ri.below G4.out b5 (Nat.le_refl _)); have G5 := Lib.hid r5; have J5 := Lib.hid s5; obtain ⟨pp5, bb5, oo5, cc5, rfl, hr5⟩ := r5; obtain ⟨pq5, bq5, oq5, cq5, rfl, hs5⟩ := s5; clear hr5 hs5; have Q3 := I3.out.next E.out; have Q3h := Lib.hid Q3; obtain ⟨⟨n0, n1, n2, n3⟩, n4, n5, n6, n7⟩ := Q3; clear b5)
      | fail)
  have HZ := Lib.hid (below_set4 (chain hb0.out E.out) (g := w.heap.size + 1 + 1) (by omega) (.bool bz1) (.slice pp5 (Nm.dg D9 z1.natAbs).length cc5) (.bool bz2) (.slice pq5 (Nm.dg D9 z2.natAbs).length cq5))
  have HR1 := Lib.hid (Ri.set4 G5.out Q3h.out (.bool bz1) (.slice pp5 (Nm.dg D9 z1.natAbs).length cc5) (.bool bz2) (.slice pq5 (Nm.dg D9 z2.natAbs).length cq5))
  have HR2 := Lib.hid (Ri.set4 J5.out Q3h.out (.bool bz1) (.slice pp5 (Nm.dg D9 z1.natAbs).length cc5) (.bool bz2) (.slice pq5 (Nm.dg D9 z2.natAbs).length cq5))
  go_wp2
  exact bodyPost_ret (v := .agg #[.bool bz1, .slice pp5 (Nm.dg D9 z1.natAbs).length cc5, .bool bz2, .slice pq5 (Nm.dg D9 z2.natAbs).length cq5]) (by simp [results, Tryz.results29, go_sem, n0, n1, n2, n3]) rfl ⟨_, _, rfl, HR1.out, HR2.out, HZ.out⟩
end Go.Proofs.YtlmklhffafcmmaaGreat

/- What the calls of the law's function known give, at their inputs. -/
namespace Go.Proofs.YtlmklhffafcmmaaGreat
open Go.RowKit

theorem len_small {m : Nat} (h : m < W) : (Nm.dg W m).length ≤ 1000000 := Nat.le_trans (len_top (W_Top2 h)) (by decide)
theorem len_small9 {m : Nat} (h : m < W) : (Nm.dg W m).length ≤ 1000000000 := Nat.le_trans (len_top (W_Top2 h)) (by decide)
theorem low_small {m n A B : Nat} (hm : m < W) (hn : n < W) (h0 : 0 < n) (hA : m / Nat.gcd m n = A) (hB : n / Nat.gcd m n = B) : LowOK m n A B := by
  have hg := Nat.gcd_pos_of_pos_right m h0
  have hgn : Nat.gcd m n ≤ n := Nat.gcd_le_right m h0
  have tA : A < W := by rw [← hA]; exact Nat.lt_of_le_of_lt (Nat.div_le_self _ _) hm
  have tB : B < W := by rw [← hB]; exact Nat.lt_of_le_of_lt (Nat.div_le_self _ _) hn
  refine ⟨gcdOK_small m n (Or.inl hm) (len_small9 hm) (len_small9 hn), divOK_small _ _ hg (Or.inr (by omega)) (len_small9 hm) (len_small9 (by omega)), divOK_small _ _ hg (Or.inr (by omega)) (len_small9 hn) (len_small9 (by omega)), hA, hB, len_small tA, len_small tB, W_Top2 tA, W_Top2 tB⟩
theorem zv {z : Int} (h : z.natAbs < W) : vld (zb z) (zs z) = true := zb_zs_valid (W_Top2 h)
theorem div_small {m n : Nat} (hm : m < W) (hn : n < W) (h0 : 0 < n) : DivOK m n := divOK_small m n h0 (Or.inr hn) (len_small9 hm) (len_small9 hn)

abbrev Z (z : Int) : Value := .agg #[.bool (zb z), .string (zs z)]
abbrev Q (x y : Int) : Value := .agg #[.bool (zb x), .string (zs x), .bool (zb y), .string (zs y)]
def Ret (v : Value) (w : World) (e : Ending) (w' : World) : Prop := e = .returned v ∧ Below w.heap.size w w'

theorem k_quo (x y q r : Int) (hx : x.natAbs < W) (hy : y.natAbs < W) (h0 : y ≠ 0) (hq : wd (zb x != zb y) (eq1 (zb x) x.natAbs y.natAbs) = Z q) (hr : wd false (er1 (zb x) x.natAbs y.natAbs) = Z r) (w : World) :
    Calls Tryz.prog 53 #[Z x, Z y] w (Ret (.tuple #[Z q, Z r, .int .i64 0]) w) := by
  have h := Quo_valid (zb x) (zb y) (zs x) (zs y) w (by rw [bv_zs, bv_zs]; exact div_small hx hy (by omega)) (zv hx) (zv hy) (by rw [bv_zs]; omega)
  rw [bv_zs, bv_zs, hq, hr] at h
  exact h
theorem k_quo1 (w : World) : Calls Tryz.prog 53 #[Z (-7), Z 2] w (Ret (.tuple #[Z (-4), Z 1, .int .i64 0]) w) := k_quo _ _ _ _ (by decide) (by decide) (by decide) rfl rfl w
theorem k_quo2 (w : World) : Calls Tryz.prog 53 #[Z 7, Z (-2)] w (Ret (.tuple #[Z (-3), Z 1, .int .i64 0]) w) := k_quo _ _ _ _ (by decide) (by decide) (by decide) rfl rfl w
theorem k_quo3 (w : World) : Calls Tryz.prog 53 #[Z (-7), Z (-2)] w (Ret (.tuple #[Z 4, Z 1, .int .i64 0]) w) := k_quo _ _ _ _ (by decide) (by decide) (by decide) rfl rfl w
theorem k_quo4 (w : World) : Calls Tryz.prog 53 #[Z 7, Z 0] w (Ret (.tuple #[Z 0, Z 0, .int .i64 3]) w) := Quo_zero (zb 7) (zb 0) (zs 7) w (zv (by decide)) rfl

theorem k_int (w : World) : Calls Tryz.prog 51 #[.agg #[.bool true, .string ⟨#[1, 0]⟩]] w (Ret (.tuple #[.int .i64 (-256), .int .i64 0]) w) := by
  have h := Int_valid true ⟨#[1, 0]⟩ w (by decide)
  have e : sg true (bv ⟨#[1, 0]⟩) = -256 := by decide
  unfold IntWPost at h
  rw [e, if_pos (by decide), if_pos (by decide)] at h
  exact h
theorem bs_300 : bs 300 = ⟨#[1, 44]⟩ := by decide
theorem k_of1 (w : World) : Calls Tryz.prog 52 #[.int .i64 (-300)] w (Ret (.agg #[.bool true, .string ⟨#[1, 44]⟩]) w) := by
  have h := Of_any (-300) w (by decide) (by decide)
  unfold OfPost at h
  rw [show (-300 : Int).natAbs = 300 from rfl, bs_300] at h
  exact h
theorem k_of2 (w : World) : Calls Tryz.prog 52 #[.int .i64 0] w (Ret (.agg #[.bool false, .string ⟨#[]⟩]) w) := Of_any 0 w (by decide) (by decide)

theorem k_gcd (x y g : Int) (hx : x.natAbs < W) (hy : y.natAbs < W) (hg : wd false (Nat.gcd x.natAbs y.natAbs) = Z g) (w : World) :
    Calls Tryz.prog 55 #[Z x, Z y] w (Ret (.tuple #[Z g, .int .i64 0]) w) := by
  have h := GCD_valid (zb x) (zb y) (zs x) (zs y) w (by rw [bv_zs, bv_zs]; exact gcdOK_small _ _ (Or.inl hx) (len_small9 hx) (len_small9 hy)) (zv hx) (zv hy)
  have t := gcd_top (W_Top2 hx) (W_Top2 hy)
  rw [bv_zs, bv_zs, wres_ok _ t, werr_ok t, hg] at h
  exact h
theorem k_gcd1 (w : World) : Calls Tryz.prog 55 #[Z (-12), Z 18] w (Ret (.tuple #[Z 6, .int .i64 0]) w) := k_gcd _ _ _ (by decide) (by decide) rfl w
theorem k_gcd2 (w : World) : Calls Tryz.prog 55 #[Z 0, Z 0] w (Ret (.tuple #[Z 0, .int .i64 0]) w) := k_gcd _ _ _ (by decide) (by decide) rfl w
theorem k_shift1 (w : World) : Calls Tryz.prog 56 #[Z (-5), .int .i64 (-1)] w (Ret (.tuple #[Z (-3), .int .i64 0]) w) := by
  have h := Shift_down (zb (-5)) (zs (-5)) 1 (-1) (by decide) (by decide) (by decide) w (zv (by decide))
  have e : shd (zb (-5)) (bv (zs (-5))) 1 = 3 := by rw [bv_zs]; decide
  have t : (3 : Nat) < Top := W_Top2 (by decide)
  rw [e, wres_ok _ t, werr_ok t] at h
  exact h
theorem k_shift2 (w : World) : Calls Tryz.prog 56 #[Z 5, .int .i64 3] w (Ret (.tuple #[Z 40, .int .i64 0]) w) := by
  have h := Shift_up (zb 5) (zs 5) 3 (by decide) w (zv (by decide))
  have e : bv (zs 5) * 2 ^ 3 = 40 := by rw [bv_zs]; decide
  have t : (40 : Nat) < Top := W_Top2 (by decide)
  rw [e, wres_ok _ t, werr_ok t] at h
  exact h

abbrev S0 : ByteArray := ⟨#[45, 48]⟩
abbrev S7 : ByteArray := ⟨#[48, 48, 55]⟩
abbrev S64 : ByteArray := ⟨#[45, 49, 56, 52, 52, 54, 55, 52, 52, 48, 55, 51, 55, 48, 57, 53, 53, 49, 54, 49, 54]⟩
theorem not_dec {s : ByteArray} (h1 : s.data.toList ≠ [48]) (h2 : (ds s).data.toList.head? = some 48) : ¬ DecT s := by
  rintro (h | ⟨⟨h, g⟩, _⟩)
  · rw [ByteArray.toList_eq] at h; exact h1 h
  · apply g
    have e : (ds s).data.toList.head? = some ((ds s)[0]) := by
      have hl : 0 < (ds s).data.toList.length := h
      rw [List.head?_eq_getElem?, List.getElem?_eq_getElem hl]
      rfl
    rw [e] at h2
    have := Option.some.inj h2
    rw [this]; rfl
theorem k_parse1 (w : World) : Calls Tryz.prog 57 #[.string S0] w (Ret (.tuple #[.agg #[.bool false, .string ⟨#[]⟩], .int .i64 6]) w) := Parse_bad S0 w (by decide) (not_dec (by decide) (by decide))
theorem k_parse2 (w : World) : Calls Tryz.prog 57 #[.string S7] w (Ret (.tuple #[.agg #[.bool false, .string ⟨#[]⟩], .int .i64 6]) w) := Parse_bad S7 w (by decide) (not_dec (by decide) (by decide))
theorem bs_W : bs 18446744073709551616 = ⟨#[1, 0, 0, 0, 0, 0, 0, 0, 0]⟩ := by
  have h := Nm.eq_dg (B := 256) (by decide) (l := [0, 0, 0, 0, 0, 0, 0, 0, 1]) (by unfold Nm.Dig; decide) (show (1 : Nat) ≠ 0 by decide)
  have e : Nm.val 256 [0, 0, 0, 0, 0, 0, 0, 0, 1] = 18446744073709551616 := by decide
  rw [e] at h
  unfold bs
  rw [← h]
  rfl
theorem ds64 : ds S64 = ⟨#[49, 56, 52, 52, 54, 55, 52, 52, 48, 55, 51, 55, 48, 57, 53, 53, 49, 54, 49, 54]⟩ := rfl
theorem dec64 : DecT S64 := by
  refine Or.inr ⟨⟨by decide, by decide⟩, ?_⟩
  rw [ds64]
  decide
theorem decv64 : decv (ds S64) = 18446744073709551616 := by decide
abbrev R64 : Value := .agg #[.bool true, .string ⟨#[1, 0, 0, 0, 0, 0, 0, 0, 0]⟩]
theorem W_lt_Top : (18446744073709551616 : Nat) < Top := by
  have h : (2 : Nat) ^ 65 ≤ Top := by
    rw [Top]
    exact Nat.pow_le_pow_right (by decide) (by rw [TopBits_eq]; decide)
  exact Nat.lt_of_lt_of_le (by decide) h
theorem k_parse3 (w : World) : Calls Tryz.prog 57 #[.string S64] w (Ret (.tuple #[R64, .int .i64 0]) w) := by
  have h := Parse_ok S64 w (by decide) dec64 (by decide)
  rw [decv64, wres_ok _ W_lt_Top, werr_ok W_lt_Top] at h
  rw [wd, bs_W] at h
  exact h
theorem k_len (w : World) : Calls Tryz.prog 58 #[R64] w (Ret (.int .i64 65) w) := by
  have h := Len_any true ⟨#[1, 0, 0, 0, 0, 0, 0, 0, 0]⟩ w (by decide)
  have e : lenV true ⟨#[1, 0, 0, 0, 0, 0, 0, 0, 0]⟩ = 65 := by decide
  rw [e] at h
  exact h
theorem k_sign (w : World) : Calls Tryz.prog 59 #[R64] w (Ret (.int .i64 (-1)) w) := by
  have h := Sign_any true ⟨#[1, 0, 0, 0, 0, 0, 0, 0, 0]⟩ w (by decide)
  have e : sgV true ⟨#[1, 0, 0, 0, 0, 0, 0, 0, 0]⟩ = -1 := by decide
  rw [e] at h
  exact h

theorem k_ratof (x y p q : Int) (A B : Nat) (hx : x.natAbs < 9223372036854775808) (hy : y.natAbs < 9223372036854775808) (h0 : y ≠ 0) (hA : x.natAbs / Nat.gcd x.natAbs y.natAbs = A) (hB : y.natAbs / Nat.gcd x.natAbs y.natAbs = B)
    (he : rat ((zb x != zb y) && decide (A ≠ 0)) (bs A) false (bs B) = Q p q) (w : World) : Calls Tryz.prog 10 #[.int .i64 x, .int .i64 y] w (Ret (.tuple #[Q p q, .int .i64 0]) w) := by
  have h := RatioOf_ok x y A B w (low_small (by unfold W; omega) (by unfold W; omega) (by omega) hA hB) (by omega) (by omega) (by omega) (by omega) h0
  unfold RPost at h
  rw [he] at h
  exact h
theorem k_ratof1 (w : World) : Calls Tryz.prog 10 #[.int .i64 6, .int .i64 (-4)] w (Ret (.tuple #[Q (-3) 2, .int .i64 0]) w) := k_ratof _ _ _ _ 3 2 (by decide) (by decide) (by decide) (by decide) (by decide) rfl w
theorem k_ratof2 (w : World) : Calls Tryz.prog 10 #[.int .i64 0, .int .i64 (-5)] w (Ret (.tuple #[Q 0 1, .int .i64 0]) w) := k_ratof _ _ _ _ 0 1 (by decide) (by decide) (by decide) (by decide) (by decide) rfl w
theorem sgz {z : Int} (h : z.natAbs < W) (h0 : 0 < z) : 0 < sgV (zb z) (zs z) := by rw [sgV_z (W_Top2 h), Int.sign_eq_one_of_pos h0]; decide
theorem k_floor (w : World) : Calls Tryz.prog 11 #[Q (-3) 2] w (Ret (.tuple #[Z (-2), .int .i64 0]) w) := by
  have h := Floor_ok (zb (-3)) (zb 2) (zs (-3)) (zs 2) w (by rw [bv_zs, bv_zs]; exact div_small (by decide) (by decide) (by decide)) (zv (by decide)) (zv (by decide)) (sgz (by decide) (by decide)) (by rw [bv_zs]; decide)
  rw [bv_zs, bv_zs] at h
  exact h
theorem k_add (w : World) : Calls Tryz.prog 23 #[Q 1 2, Q 1 3] w (Ret (.tuple #[Q 5 6, .int .i64 0]) w) := by
  have hf := addFrac (zb 1) (zb 2) (zb 1) (zb 3) (bv (zs 1)) (bv (zs 2)) (bv (zs 1)) (bv (zs 3))
  have h := AddRatio_ok (zb 1) (zb 2) (zb 1) (zb 3) (zs 1) (zs 2) (zs 1) (zs 3) false 5 5 6 w (by
      have e := hf (by rw [bv_zs]; exact len_small9 (by decide)) (by rw [bv_zs]; exact len_small9 (by decide)) (by rw [bv_zs]; exact len_small9 (by decide)) (by rw [bv_zs]; exact len_small9 (by decide)) (by rw [bv_zs, bv_zs]; exact len_small9 (by decide)) (by rw [bv_zs, bv_zs]; exact len_small9 (by decide))
      rw [bv_zs, bv_zs, bv_zs] at e ⊢
      exact e) (by rw [bv_zs, bv_zs]; exact low_small (by decide) (by decide) (by decide) (by decide) (by decide)) (zv (by decide)) (zv (by decide)) (zv (by decide)) (zv (by decide)) (sgz (by decide) (by decide)) (sgz (by decide) (by decide))
  exact h
theorem k_mul (w : World) : Calls Tryz.prog 25 #[Q 2 3, Q 3 4] w (Ret (.tuple #[Q 1 2, .int .i64 0]) w) := by
  have hf := mulFrac (zb 2) (zb 3) (zb 3) (zb 4) (bv (zs 2)) (bv (zs 3)) (bv (zs 3)) (bv (zs 4)) (by rw [bv_zs]; exact len_small9 (by decide)) (by rw [bv_zs]; exact len_small9 (by decide))
  have h := MulRatio_ok (zb 2) (zb 3) (zb 3) (zb 4) (zs 2) (zs 3) (zs 3) (zs 4) false 6 1 2 w (by
      rw [bv_zs, bv_zs, bv_zs] at hf ⊢
      exact hf) (by rw [bv_zs, bv_zs]; exact low_small (by decide) (by decide) (by decide) (by decide) (by decide)) (zv (by decide)) (zv (by decide)) (zv (by decide)) (zv (by decide)) (sgz (by decide) (by decide)) (sgz (by decide) (by decide))
  exact h
theorem k_cmp (w : World) : Calls Tryz.prog 22 #[Q 2 4, Q 1 2] w (Ret (.tuple #[.int .i64 0, .int .i64 0]) w) := by
  have h := CompareRatio_pos (zb 2) (zb 4) (zb 1) (zb 2) (zs 2) (zs 4) (zs 1) (zs 2) w (zv (by decide)) (zv (by decide)) (zv (by decide)) (zv (by decide)) (sgz (by decide) (by decide)) (sgz (by decide) (by decide)) (by rw [sgV_z (W_Top2 (by decide)), sgV_z (W_Top2 (by decide))]; decide) (by decide)
  have e : cmpN (bv (zs 2) * bv (zs 2)) (bv (zs 1) * bv (zs 4)) = 0 := by rw [bv_zs, bv_zs, bv_zs]; decide
  rw [e] at h
  exact h
theorem k_w (z : Int) (h1 : -9223372036854775808 ≤ z) (h2 : z ≤ 9223372036854775807) (w : World) : Calls Tryz.prog 54 #[.int .i64 z] w (Ret (Z z) w) := w_any z w h1 h2
theorem k_q (x y : Int) (h1 : -9223372036854775808 ≤ x) (h2 : x ≤ 9223372036854775807) (h3 : -9223372036854775808 ≤ y) (h4 : y ≤ 9223372036854775807) (w : World) : Calls Tryz.prog 60 #[.int .i64 x, .int .i64 y] w (Ret (Q x y) w) := q_any x y w h1 h2 h3 h4
end Go.Proofs.YtlmklhffafcmmaaGreat

/- The law's function known gives true. -/
namespace Go.Proofs.YtlmklhffafcmmaaGreat
open Go.RowKit

set_option maxRecDepth 100000 in
set_option maxHeartbeats 8000000 in
theorem known_true (w : World) : Calls Tryz.prog 8 #[] w (Ret (.bool true) w) := by
  have H_int := Lib.hid k_int
  have H_of1 := Lib.hid k_of1
  have H_of2 := Lib.hid k_of2
  have H_quo1 := Lib.hid k_quo1
  have H_quo2 := Lib.hid k_quo2
  have H_quo3 := Lib.hid k_quo3
  have H_quo4 := Lib.hid k_quo4
  have H_gcd1 := Lib.hid k_gcd1
  have H_gcd2 := Lib.hid k_gcd2
  have H_shift1 := Lib.hid k_shift1
  have H_shift2 := Lib.hid k_shift2
  have H_parse1 := Lib.hid k_parse1
  have H_parse2 := Lib.hid k_parse2
  have H_parse3 := Lib.hid k_parse3
  have H_len := Lib.hid k_len
  have H_sign := Lib.hid k_sign
  have H_ratof1 := Lib.hid k_ratof1
  have H_ratof2 := Lib.hid k_ratof2
  have H_floor := Lib.hid k_floor
  have H_add := Lib.hid k_add
  have H_mul := Lib.hid k_mul
  have H_cmp := Lib.hid k_cmp
  have H_wm7 := Lib.hid (k_w (-7) (by decide) (by decide))
  have H_wp2 := Lib.hid (k_w (2) (by decide) (by decide))
  have H_wp7 := Lib.hid (k_w (7) (by decide) (by decide))
  have H_wm2 := Lib.hid (k_w (-2) (by decide) (by decide))
  have H_wp0 := Lib.hid (k_w (0) (by decide) (by decide))
  have H_wm4 := Lib.hid (k_w (-4) (by decide) (by decide))
  have H_wp1 := Lib.hid (k_w (1) (by decide) (by decide))
  have H_wm3 := Lib.hid (k_w (-3) (by decide) (by decide))
  have H_wp4 := Lib.hid (k_w (4) (by decide) (by decide))
  have H_wm12 := Lib.hid (k_w (-12) (by decide) (by decide))
  have H_wp18 := Lib.hid (k_w (18) (by decide) (by decide))
  have H_wp6 := Lib.hid (k_w (6) (by decide) (by decide))
  have H_wm5 := Lib.hid (k_w (-5) (by decide) (by decide))
  have H_wp5 := Lib.hid (k_w (5) (by decide) (by decide))
  have H_wp40 := Lib.hid (k_w (40) (by decide) (by decide))
  have H_wp3 := Lib.hid (k_w (3) (by decide) (by decide))
  have H_qm3p2 := Lib.hid (k_q (-3) (2) (by decide) (by decide) (by decide) (by decide))
  have H_qp0p1 := Lib.hid (k_q (0) (1) (by decide) (by decide) (by decide) (by decide))
  have H_qp1p2 := Lib.hid (k_q (1) (2) (by decide) (by decide) (by decide) (by decide))
  have H_qp1p3 := Lib.hid (k_q (1) (3) (by decide) (by decide) (by decide) (by decide))
  have H_qp2p3 := Lib.hid (k_q (2) (3) (by decide) (by decide) (by decide) (by decide))
  have H_qp3p4 := Lib.hid (k_q (3) (4) (by decide) (by decide) (by decide) (by decide))
  have H_qp2p4 := Lib.hid (k_q (2) (4) (by decide) (by decide) (by decide) (by decide))
  have H_qp5p6 := Lib.hid (k_q (5) (6) (by decide) (by decide) (by decide) (by decide))
  unfold Z Q Ret at *
  unfold R64 at *
  generalize zb (-7) = b_m7 at *
  generalize zs (-7) = s_m7 at *
  generalize zb (2) = b_p2 at *
  generalize zs (2) = s_p2 at *
  generalize zb (7) = b_p7 at *
  generalize zs (7) = s_p7 at *
  generalize zb (-2) = b_m2 at *
  generalize zs (-2) = s_m2 at *
  generalize zb (0) = b_p0 at *
  generalize zs (0) = s_p0 at *
  generalize zb (-4) = b_m4 at *
  generalize zs (-4) = s_m4 at *
  generalize zb (1) = b_p1 at *
  generalize zs (1) = s_p1 at *
  generalize zb (-3) = b_m3 at *
  generalize zs (-3) = s_m3 at *
  generalize zb (4) = b_p4 at *
  generalize zs (4) = s_p4 at *
  generalize zb (-12) = b_m12 at *
  generalize zs (-12) = s_m12 at *
  generalize zb (18) = b_p18 at *
  generalize zs (18) = s_p18 at *
  generalize zb (6) = b_p6 at *
  generalize zs (6) = s_p6 at *
  generalize zb (-5) = b_m5 at *
  generalize zs (-5) = s_m5 at *
  generalize zb (5) = b_p5 at *
  generalize zs (5) = s_p5 at *
  generalize zb (40) = b_p40 at *
  generalize zs (40) = s_p40 at *
  generalize zb (3) = b_p3 at *
  generalize zs (3) = s_p3 at *
  go_enter Tryz.func8, Tryz.ntmps8
  have TOT : Hid (Below w.heap.size w w) := Below.refl _ _
  go_wp2_with fail
  refine (H_int.out _).mono ?_
  rintro e x1 ⟨rfl, b1⟩
  have E := Lib.hid b1
  clear b1
  have TOT := Lib.hid (chain TOT.out E.out)
  go_wp2_with fail
  refine (H_of1.out _).mono ?_
  rintro e x2 ⟨rfl, b2⟩
  have E := Lib.hid b2
  clear b2
  go_wp2_with fail
  refine (H_of2.out _).mono ?_
  rintro e x3 ⟨rfl, b3⟩
  have E := Lib.hid (chain E.out b3)
  clear b3
  have TOT := Lib.hid (chain TOT.out E.out)
  go_wp2_with fail
  refine (H_wm7.out _).mono ?_
  rintro e x4 ⟨rfl, b4⟩
  have E := Lib.hid b4
  clear b4
  go_wp2_with fail
  refine (H_wp2.out _).mono ?_
  rintro e x5 ⟨rfl, b5⟩
  have E := Lib.hid (chain E.out b5)
  clear b5
  go_wp2_with fail
  refine (H_quo1.out _).mono ?_
  rintro e x6 ⟨rfl, b6⟩
  have E := Lib.hid (chain E.out b6)
  clear b6
  obtain ⟨u4, hu4⟩ : ∃ u : World, u = (x6.alloc (.cells #[.bool b_m4, .string s_m4] 23)).alloc (.cells #[.bool b_p1, .string s_p1] 23) := ⟨_, rfl⟩
  have D : Hid (Below x3.heap.size x3 u4) := by rw [hu4]; exact ((E.out.alloc E.out.size _).alloc (Nat.le_trans E.out.size (by simp)) _)
  have T3 : Hid (ZC (.bool b_m4) (.string s_m4) u4 x6.heap.size) := by rw [hu4]; exact (ZC.new rfl).alloc _
  have T4 : Hid (ZC (.bool b_p1) (.string s_p1) u4 (x6.heap.size + 1)) := by rw [hu4]; exact ZC.new (by simp)
  have TOT := Lib.hid (chain TOT.out D.out)
  have Hu4 := Lib.hid hu4
  clear hu4 D E
  go_wp2_with fail
  rw [← Hu4.out]
  clear Hu4
  refine (H_wp7.out _).mono ?_
  rintro e x7 ⟨rfl, b7⟩
  have E := Lib.hid b7
  clear b7
  go_wp2_with fail
  refine (H_wm2.out _).mono ?_
  rintro e x8 ⟨rfl, b8⟩
  have E := Lib.hid (chain E.out b8)
  clear b8
  go_wp2_with fail
  refine (H_quo2.out _).mono ?_
  rintro e x9 ⟨rfl, b9⟩
  have E := Lib.hid (chain E.out b9)
  clear b9
  obtain ⟨u5, hu5⟩ : ∃ u : World, u = (x9.alloc (.cells #[.bool b_m3, .string s_m3] 23)).alloc (.cells #[.bool b_p1, .string s_p1] 23) := ⟨_, rfl⟩
  have D : Hid (Below u4.heap.size u4 u5) := by rw [hu5]; exact ((E.out.alloc E.out.size _).alloc (Nat.le_trans E.out.size (by simp)) _)
  have T3 := Lib.hid (T3.out.next D.out)
  have T4 := Lib.hid (T4.out.next D.out)
  have T6 : Hid (ZC (.bool b_m3) (.string s_m3) u5 x9.heap.size) := by rw [hu5]; exact (ZC.new rfl).alloc _
  have T7 : Hid (ZC (.bool b_p1) (.string s_p1) u5 (x9.heap.size + 1)) := by rw [hu5]; exact ZC.new (by simp)
  have TOT := Lib.hid (chain TOT.out D.out)
  have Hu5 := Lib.hid hu5
  clear hu5 D E
  go_wp2_with fail
  rw [← Hu5.out]
  clear Hu5
  refine (H_wm7.out _).mono ?_
  rintro e x10 ⟨rfl, b10⟩
  have E := Lib.hid b10
  clear b10
  go_wp2_with fail
  refine (H_wm2.out _).mono ?_
  rintro e x11 ⟨rfl, b11⟩
  have E := Lib.hid (chain E.out b11)
  clear b11
  go_wp2_with fail
  refine (H_quo3.out _).mono ?_
  rintro e x12 ⟨rfl, b12⟩
  have E := Lib.hid (chain E.out b12)
  clear b12
  obtain ⟨u6, hu6⟩ : ∃ u : World, u = (x12.alloc (.cells #[.bool b_p4, .string s_p4] 23)).alloc (.cells #[.bool b_p1, .string s_p1] 23) := ⟨_, rfl⟩
  have D : Hid (Below u5.heap.size u5 u6) := by rw [hu6]; exact ((E.out.alloc E.out.size _).alloc (Nat.le_trans E.out.size (by simp)) _)
  have T3 := Lib.hid (T3.out.next D.out)
  have T4 := Lib.hid (T4.out.next D.out)
  have T6 := Lib.hid (T6.out.next D.out)
  have T7 := Lib.hid (T7.out.next D.out)
  have T9 : Hid (ZC (.bool b_p4) (.string s_p4) u6 x12.heap.size) := by rw [hu6]; exact (ZC.new rfl).alloc _
  have T10 : Hid (ZC (.bool b_p1) (.string s_p1) u6 (x12.heap.size + 1)) := by rw [hu6]; exact ZC.new (by simp)
  have TOT := Lib.hid (chain TOT.out D.out)
  have Hu6 := Lib.hid hu6
  clear hu6 D E
  go_wp2_with fail
  rw [← Hu6.out]
  clear Hu6
  refine (H_wp7.out _).mono ?_
  rintro e x13 ⟨rfl, b13⟩
  have E := Lib.hid b13
  clear b13
  go_wp2_with fail
  refine (H_wp0.out _).mono ?_
  rintro e x14 ⟨rfl, b14⟩
  have E := Lib.hid (chain E.out b14)
  clear b14
  go_wp2_with fail
  refine (H_quo4.out _).mono ?_
  rintro e x15 ⟨rfl, b15⟩
  have E := Lib.hid (chain E.out b15)
  clear b15
  obtain ⟨u7, hu7⟩ : ∃ u : World, u = (x15.alloc (.cells #[.bool b_p0, .string s_p0] 23)).alloc (.cells #[.bool b_p0, .string s_p0] 23) := ⟨_, rfl⟩
  have D : Hid (Below u6.heap.size u6 u7) := by rw [hu7]; exact ((E.out.alloc E.out.size _).alloc (Nat.le_trans E.out.size (by simp)) _)
  have T3 := Lib.hid (T3.out.next D.out)
  have T4 := Lib.hid (T4.out.next D.out)
  have T6 := Lib.hid (T6.out.next D.out)
  have T7 := Lib.hid (T7.out.next D.out)
  have T9 := Lib.hid (T9.out.next D.out)
  have T10 := Lib.hid (T10.out.next D.out)
  have T12 : Hid (ZC (.bool b_p0) (.string s_p0) u7 x15.heap.size) := by rw [hu7]; exact (ZC.new rfl).alloc _
  have T13 : Hid (ZC (.bool b_p0) (.string s_p0) u7 (x15.heap.size + 1)) := by rw [hu7]; exact ZC.new (by simp)
  have TOT := Lib.hid (chain TOT.out D.out)
  have Hu7 := Lib.hid hu7
  clear hu7 D E
  clear T12 T13
  go_wp2_with fail
  rw [← Hu7.out]
  clear Hu7
  obtain ⟨k0, k1, _⟩ := T3.out
  obtain ⟨k2, k3, _⟩ := T4.out
  obtain ⟨k4, k5, _⟩ := T6.out
  obtain ⟨k6, k7, _⟩ := T7.out
  obtain ⟨k8, k9, _⟩ := T9.out
  obtain ⟨k10, k11, _⟩ := T10.out
  go_region_held3 (fun W' => W'.cell? ⟨x6.heap.size, 0, none⟩ = some (.bool b_m4) ∧ W'.cell? ⟨x6.heap.size, 1, none⟩ = some (.string s_m4) ∧ W'.cell? ⟨(x6.heap.size + 1), 0, none⟩ = some (.bool b_p1) ∧ W'.cell? ⟨(x6.heap.size + 1), 1, none⟩ = some (.string s_p1) ∧ W'.cell? ⟨x9.heap.size, 0, none⟩ = some (.bool b_m3) ∧ W'.cell? ⟨x9.heap.size, 1, none⟩ = some (.string s_m3) ∧ W'.cell? ⟨(x9.heap.size + 1), 0, none⟩ = some (.bool b_p1) ∧ W'.cell? ⟨(x9.heap.size + 1), 1, none⟩ = some (.string s_p1) ∧ W'.cell? ⟨x12.heap.size, 0, none⟩ = some (.bool b_p4) ∧ W'.cell? ⟨x12.heap.size, 1, none⟩ = some (.string s_p4) ∧ W'.cell? ⟨(x12.heap.size + 1), 0, none⟩ = some (.bool b_p1) ∧ W'.cell? ⟨(x12.heap.size + 1), 1, none⟩ = some (.string s_p1)) (go_keep)
    (first
      | (go_at_call 54; (with_reducible refine (H_wm4.out _).mono ?_); rintro e y ⟨rfl, b9⟩; have D := Lib.hid (show Below u7.heap.size u7 y by first | exact chain D.out b9 | exact chain ((Below.refl _ _).drew) b9); have p0 := keep1 D.out k0; have p1 := keep1 D.out k1; have p2 := keep1 D.out k2; have p3 := keep1 D.out k3; have p4 := keep1 D.out k4; have p5 := keep1 D.out k5; have p6 := keep1 D.out k6; have p7 := keep1 D.out k7; have p8 := keep1 D.out k8; have p9 := keep1 D.out k9; have p10 := keep1 D.out k10; have p11 := keep1 D.out k11; clear b9)
      | (go_at_call 54; (with_reducible refine (H_wp1.out _).mono ?_); rintro e y ⟨rfl, b9⟩; have D := Lib.hid (show Below u7.heap.size u7 y by first | exact chain D.out b9 | exact chain ((Below.refl _ _).drew) b9); have p0 := keep1 D.out k0; have p1 := keep1 D.out k1; have p2 := keep1 D.out k2; have p3 := keep1 D.out k3; have p4 := keep1 D.out k4; have p5 := keep1 D.out k5; have p6 := keep1 D.out k6; have p7 := keep1 D.out k7; have p8 := keep1 D.out k8; have p9 := keep1 D.out k9; have p10 := keep1 D.out k10; have p11 := keep1 D.out k11; clear b9)
      | (go_at_call 54; (with_reducible refine (H_wm3.out _).mono ?_); rintro e y ⟨rfl, b9⟩; have D := Lib.hid (show Below u7.heap.size u7 y by first | exact chain D.out b9 | exact chain ((Below.refl _ _).drew) b9); have p0 := keep1 D.out k0; have p1 := keep1 D.out k1; have p2 := keep1 D.out k2; have p3 := keep1 D.out k3; have p4 := keep1 D.out k4; have p5 := keep1 D.out k5; have p6 := keep1 D.out k6; have p7 := keep1 D.out k7; have p8 := keep1 D.out k8; have p9 := keep1 D.out k9; have p10 := keep1 D.out k10; have p11 := keep1 D.out k11; clear b9)
      | (go_at_call 54; (with_reducible refine (H_wp4.out _).mono ?_); rintro e y ⟨rfl, b9⟩; have D := Lib.hid (show Below u7.heap.size u7 y by first | exact chain D.out b9 | exact chain ((Below.refl _ _).drew) b9); have p0 := keep1 D.out k0; have p1 := keep1 D.out k1; have p2 := keep1 D.out k2; have p3 := keep1 D.out k3; have p4 := keep1 D.out k4; have p5 := keep1 D.out k5; have p6 := keep1 D.out k6; have p7 := keep1 D.out k7; have p8 := keep1 D.out k8; have p9 := keep1 D.out k9; have p10 := keep1 D.out k10; have p11 := keep1 D.out k11; clear b9)
      | fail)
  have TOT := Lib.hid (chain TOT.out D.out)
  clear T3 T4 T6 T7 T9 T10 k0 k1 k2 k3 k4 k5 k6 k7 k8 k9 k10 k11 p0 p1 p2 p3 p4 p5 p6 p7 p8 p9 p10 p11 D
  go_wp2_with fail
  refine (H_wm12.out _).mono ?_
  rintro e x16 ⟨rfl, b16⟩
  have E := Lib.hid b16
  clear b16
  go_wp2_with fail
  refine (H_wp18.out _).mono ?_
  rintro e x17 ⟨rfl, b17⟩
  have E := Lib.hid (chain E.out b17)
  clear b17
  go_wp2_with fail
  refine (H_gcd1.out _).mono ?_
  rintro e x18 ⟨rfl, b18⟩
  have E := Lib.hid (chain E.out b18)
  clear b18
  obtain ⟨u10, hu10⟩ : ∃ u : World, u = x18.alloc (.cells #[.bool b_p6, .string s_p6] 23) := ⟨_, rfl⟩
  have D : Hid (Below y.heap.size y u10) := by rw [hu10]; exact (E.out.alloc E.out.size _)
  have T15 : Hid (ZC (.bool b_p6) (.string s_p6) u10 x18.heap.size) := by rw [hu10]; exact ZC.new rfl
  have TOT := Lib.hid (chain TOT.out D.out)
  have Hu10 := Lib.hid hu10
  clear hu10 D E
  go_wp2_with fail
  rw [← Hu10.out]
  clear Hu10
  refine (H_wp0.out _).mono ?_
  rintro e x19 ⟨rfl, b19⟩
  have E := Lib.hid b19
  clear b19
  go_wp2_with fail
  refine (H_wp0.out _).mono ?_
  rintro e x20 ⟨rfl, b20⟩
  have E := Lib.hid (chain E.out b20)
  clear b20
  go_wp2_with fail
  refine (H_gcd2.out _).mono ?_
  rintro e x21 ⟨rfl, b21⟩
  have E := Lib.hid (chain E.out b21)
  clear b21
  obtain ⟨u11, hu11⟩ : ∃ u : World, u = x21.alloc (.cells #[.bool b_p0, .string s_p0] 23) := ⟨_, rfl⟩
  have D : Hid (Below u10.heap.size u10 u11) := by rw [hu11]; exact (E.out.alloc E.out.size _)
  have T15 := Lib.hid (T15.out.next D.out)
  have T16 : Hid (ZC (.bool b_p0) (.string s_p0) u11 x21.heap.size) := by rw [hu11]; exact ZC.new rfl
  have TOT := Lib.hid (chain TOT.out D.out)
  have Hu11 := Lib.hid hu11
  clear hu11 D E
  go_wp2_with fail
  rw [← Hu11.out]
  clear Hu11
  refine (H_wm5.out _).mono ?_
  rintro e x22 ⟨rfl, b22⟩
  have E := Lib.hid b22
  clear b22
  go_wp2_with fail
  refine (H_shift1.out _).mono ?_
  rintro e x23 ⟨rfl, b23⟩
  have E := Lib.hid (chain E.out b23)
  clear b23
  obtain ⟨u12, hu12⟩ : ∃ u : World, u = x23.alloc (.cells #[.bool b_m3, .string s_m3] 23) := ⟨_, rfl⟩
  have D : Hid (Below u11.heap.size u11 u12) := by rw [hu12]; exact (E.out.alloc E.out.size _)
  have T15 := Lib.hid (T15.out.next D.out)
  have T16 := Lib.hid (T16.out.next D.out)
  have T17 : Hid (ZC (.bool b_m3) (.string s_m3) u12 x23.heap.size) := by rw [hu12]; exact ZC.new rfl
  have TOT := Lib.hid (chain TOT.out D.out)
  have Hu12 := Lib.hid hu12
  clear hu12 D E
  go_wp2_with fail
  rw [← Hu12.out]
  clear Hu12
  refine (H_wp5.out _).mono ?_
  rintro e x24 ⟨rfl, b24⟩
  have E := Lib.hid b24
  clear b24
  go_wp2_with fail
  refine (H_shift2.out _).mono ?_
  rintro e x25 ⟨rfl, b25⟩
  have E := Lib.hid (chain E.out b25)
  clear b25
  obtain ⟨u13, hu13⟩ : ∃ u : World, u = x25.alloc (.cells #[.bool b_p40, .string s_p40] 23) := ⟨_, rfl⟩
  have D : Hid (Below u12.heap.size u12 u13) := by rw [hu13]; exact (E.out.alloc E.out.size _)
  have T15 := Lib.hid (T15.out.next D.out)
  have T16 := Lib.hid (T16.out.next D.out)
  have T17 := Lib.hid (T17.out.next D.out)
  have T19 : Hid (ZC (.bool b_p40) (.string s_p40) u13 x25.heap.size) := by rw [hu13]; exact ZC.new rfl
  have TOT := Lib.hid (chain TOT.out D.out)
  have Hu13 := Lib.hid hu13
  clear hu13 D E
  go_wp2_with fail
  rw [← Hu13.out]
  clear Hu13
  obtain ⟨k0, k1, _⟩ := T15.out
  obtain ⟨k2, k3, _⟩ := T16.out
  obtain ⟨k4, k5, _⟩ := T17.out
  obtain ⟨k6, k7, _⟩ := T19.out
  go_region_held3 (fun W' => W'.cell? ⟨x18.heap.size, 0, none⟩ = some (.bool b_p6) ∧ W'.cell? ⟨x18.heap.size, 1, none⟩ = some (.string s_p6) ∧ W'.cell? ⟨x21.heap.size, 0, none⟩ = some (.bool b_p0) ∧ W'.cell? ⟨x21.heap.size, 1, none⟩ = some (.string s_p0) ∧ W'.cell? ⟨x23.heap.size, 0, none⟩ = some (.bool b_m3) ∧ W'.cell? ⟨x23.heap.size, 1, none⟩ = some (.string s_m3) ∧ W'.cell? ⟨x25.heap.size, 0, none⟩ = some (.bool b_p40) ∧ W'.cell? ⟨x25.heap.size, 1, none⟩ = some (.string s_p40)) (go_keep)
    (first
      | (go_at_call 54; (with_reducible refine (H_wp6.out _).mono ?_); rintro e y ⟨rfl, b9⟩; have D := Lib.hid (show Below u13.heap.size u13 y by first | exact chain D.out b9 | exact chain ((Below.refl _ _).drew) b9); have p0 := keep1 D.out k0; have p1 := keep1 D.out k1; have p2 := keep1 D.out k2; have p3 := keep1 D.out k3; have p4 := keep1 D.out k4; have p5 := keep1 D.out k5; have p6 := keep1 D.out k6; have p7 := keep1 D.out k7; clear b9)
      | (go_at_call 54; (with_reducible refine (H_wp0.out _).mono ?_); rintro e y ⟨rfl, b9⟩; have D := Lib.hid (show Below u13.heap.size u13 y by first | exact chain D.out b9 | exact chain ((Below.refl _ _).drew) b9); have p0 := keep1 D.out k0; have p1 := keep1 D.out k1; have p2 := keep1 D.out k2; have p3 := keep1 D.out k3; have p4 := keep1 D.out k4; have p5 := keep1 D.out k5; have p6 := keep1 D.out k6; have p7 := keep1 D.out k7; clear b9)
      | (go_at_call 54; (with_reducible refine (H_wm3.out _).mono ?_); rintro e y ⟨rfl, b9⟩; have D := Lib.hid (show Below u13.heap.size u13 y by first | exact chain D.out b9 | exact chain ((Below.refl _ _).drew) b9); have p0 := keep1 D.out k0; have p1 := keep1 D.out k1; have p2 := keep1 D.out k2; have p3 := keep1 D.out k3; have p4 := keep1 D.out k4; have p5 := keep1 D.out k5; have p6 := keep1 D.out k6; have p7 := keep1 D.out k7; clear b9)
      | (go_at_call 54; (with_reducible refine (H_wp40.out _).mono ?_); rintro e y ⟨rfl, b9⟩; have D := Lib.hid (show Below u13.heap.size u13 y by first | exact chain D.out b9 | exact chain ((Below.refl _ _).drew) b9); have p0 := keep1 D.out k0; have p1 := keep1 D.out k1; have p2 := keep1 D.out k2; have p3 := keep1 D.out k3; have p4 := keep1 D.out k4; have p5 := keep1 D.out k5; have p6 := keep1 D.out k6; have p7 := keep1 D.out k7; clear b9)
      | fail)
  have TOT := Lib.hid (chain TOT.out D.out)
  clear T15 T16 T17 T19 k0 k1 k2 k3 k4 k5 k6 k7 p0 p1 p2 p3 p4 p5 p6 p7 D
  go_wp2_with fail
  refine (H_parse1.out _).mono ?_
  rintro e x26 ⟨rfl, b26⟩
  have E := Lib.hid b26
  clear b26
  have TOT := Lib.hid (chain TOT.out E.out)
  go_wp2_with fail
  refine (H_parse2.out _).mono ?_
  rintro e x27 ⟨rfl, b27⟩
  have E := Lib.hid b27
  clear b27
  have TOT := Lib.hid (chain TOT.out E.out)
  go_wp2_with fail
  refine (H_parse3.out _).mono ?_
  rintro e x28 ⟨rfl, b28⟩
  have E := Lib.hid b28
  clear b28
  obtain ⟨u18, hu18⟩ : ∃ u : World, u = x28.alloc (.cells #[.bool true, .string ⟨#[1, 0, 0, 0, 0, 0, 0, 0, 0]⟩] 23) := ⟨_, rfl⟩
  have D : Hid (Below x27.heap.size x27 u18) := by rw [hu18]; exact (E.out.alloc E.out.size _)
  have T21 : Hid (ZC (.bool true) (.string ⟨#[1, 0, 0, 0, 0, 0, 0, 0, 0]⟩) u18 x28.heap.size) := by rw [hu18]; exact ZC.new rfl
  have TOT := Lib.hid (chain TOT.out D.out)
  have Hu18 := Lib.hid hu18
  clear hu18 D E
  obtain ⟨k0, k1, _⟩ := T21.out
  clear T21
  go_wp2_with fail
  rw [← Hu18.out]
  clear Hu18
  refine (H_len.out _).mono ?_
  rintro e x29 ⟨rfl, b29⟩
  have E := Lib.hid b29
  clear b29
  have p0 := keep1 E.out k0
  have p1 := keep1 E.out k1
  go_wp2_with fail
  refine (H_sign.out _).mono ?_
  rintro e x30 ⟨rfl, b30⟩
  have E := Lib.hid (chain E.out b30)
  clear b30
  have TOT := Lib.hid (chain TOT.out E.out)
  clear k0 k1 p0 p1 E
  go_wp2_with fail
  refine (H_ratof1.out _).mono ?_
  rintro e x31 ⟨rfl, b31⟩
  have E := Lib.hid b31
  clear b31
  obtain ⟨u21, hu21⟩ : ∃ u : World, u = x31.alloc (.cells #[.bool b_m3, .string s_m3, .bool b_p2, .string s_p2] 27) := ⟨_, rfl⟩
  have D : Hid (Below x30.heap.size x30 u21) := by rw [hu21]; exact (E.out.alloc E.out.size _)
  have T23 : Hid (ZC4 (.bool b_m3) (.string s_m3) (.bool b_p2) (.string s_p2) u21 x31.heap.size) := by rw [hu21]; exact ZC4.made0 x31
  have TOT := Lib.hid (chain TOT.out D.out)
  have Hu21 := Lib.hid hu21
  clear hu21 D E
  go_wp2_with fail
  rw [← Hu21.out]
  clear Hu21
  refine (H_ratof2.out _).mono ?_
  rintro e x32 ⟨rfl, b32⟩
  have E := Lib.hid b32
  clear b32
  obtain ⟨u22, hu22⟩ : ∃ u : World, u = x32.alloc (.cells #[.bool b_p0, .string s_p0, .bool b_p1, .string s_p1] 27) := ⟨_, rfl⟩
  have D : Hid (Below u21.heap.size u21 u22) := by rw [hu22]; exact (E.out.alloc E.out.size _)
  have T23 := Lib.hid (T23.out.next D.out)
  have T24 : Hid (ZC4 (.bool b_p0) (.string s_p0) (.bool b_p1) (.string s_p1) u22 x32.heap.size) := by rw [hu22]; exact ZC4.made0 x32
  have TOT := Lib.hid (chain TOT.out D.out)
  have Hu22 := Lib.hid hu22
  clear hu22 D E
  go_wp2_with fail
  rw [← Hu22.out]
  clear Hu22
  refine (H_qm3p2.out _).mono ?_
  rintro e x33 ⟨rfl, b33⟩
  have E := Lib.hid b33
  clear b33
  go_wp2_with fail
  refine (H_floor.out _).mono ?_
  rintro e x34 ⟨rfl, b34⟩
  have E := Lib.hid (chain E.out b34)
  clear b34
  obtain ⟨u23, hu23⟩ : ∃ u : World, u = x34.alloc (.cells #[.bool b_m2, .string s_m2] 23) := ⟨_, rfl⟩
  have D : Hid (Below u22.heap.size u22 u23) := by rw [hu23]; exact (E.out.alloc E.out.size _)
  have T23 := Lib.hid (T23.out.next D.out)
  have T24 := Lib.hid (T24.out.next D.out)
  have T25 : Hid (ZC (.bool b_m2) (.string s_m2) u23 x34.heap.size) := by rw [hu23]; exact ZC.new rfl
  have TOT := Lib.hid (chain TOT.out D.out)
  have Hu23 := Lib.hid hu23
  clear hu23 D E
  go_wp2_with fail
  rw [← Hu23.out]
  clear Hu23
  obtain ⟨⟨k0, k1, k2, k3⟩, _⟩ := T23.out
  obtain ⟨⟨k4, k5, k6, k7⟩, _⟩ := T24.out
  obtain ⟨k8, k9, _⟩ := T25.out
  go_region_held3 (fun W' => W'.cell? ⟨x31.heap.size, 0, none⟩ = some (.bool b_m3) ∧ W'.cell? ⟨x31.heap.size, 1, none⟩ = some (.string s_m3) ∧ W'.cell? ⟨x31.heap.size, 2, none⟩ = some (.bool b_p2) ∧ W'.cell? ⟨x31.heap.size, 3, none⟩ = some (.string s_p2) ∧ W'.cell? ⟨x32.heap.size, 0, none⟩ = some (.bool b_p0) ∧ W'.cell? ⟨x32.heap.size, 1, none⟩ = some (.string s_p0) ∧ W'.cell? ⟨x32.heap.size, 2, none⟩ = some (.bool b_p1) ∧ W'.cell? ⟨x32.heap.size, 3, none⟩ = some (.string s_p1) ∧ W'.cell? ⟨x34.heap.size, 0, none⟩ = some (.bool b_m2) ∧ W'.cell? ⟨x34.heap.size, 1, none⟩ = some (.string s_m2)) (go_keep)
    (first
      | (go_at_call 60; (with_reducible refine (H_qm3p2.out _).mono ?_); rintro e y ⟨rfl, b9⟩; have D := Lib.hid (show Below u23.heap.size u23 y by first | exact chain D.out b9 | exact chain ((Below.refl _ _).drew) b9); have p0 := keep1 D.out k0; have p1 := keep1 D.out k1; have p2 := keep1 D.out k2; have p3 := keep1 D.out k3; have p4 := keep1 D.out k4; have p5 := keep1 D.out k5; have p6 := keep1 D.out k6; have p7 := keep1 D.out k7; have p8 := keep1 D.out k8; have p9 := keep1 D.out k9; clear b9)
      | (go_at_call 60; (with_reducible refine (H_qp0p1.out _).mono ?_); rintro e y ⟨rfl, b9⟩; have D := Lib.hid (show Below u23.heap.size u23 y by first | exact chain D.out b9 | exact chain ((Below.refl _ _).drew) b9); have p0 := keep1 D.out k0; have p1 := keep1 D.out k1; have p2 := keep1 D.out k2; have p3 := keep1 D.out k3; have p4 := keep1 D.out k4; have p5 := keep1 D.out k5; have p6 := keep1 D.out k6; have p7 := keep1 D.out k7; have p8 := keep1 D.out k8; have p9 := keep1 D.out k9; clear b9)
      | (go_at_call 54; (with_reducible refine (H_wm2.out _).mono ?_); rintro e y ⟨rfl, b9⟩; have D := Lib.hid (show Below u23.heap.size u23 y by first | exact chain D.out b9 | exact chain ((Below.refl _ _).drew) b9); have p0 := keep1 D.out k0; have p1 := keep1 D.out k1; have p2 := keep1 D.out k2; have p3 := keep1 D.out k3; have p4 := keep1 D.out k4; have p5 := keep1 D.out k5; have p6 := keep1 D.out k6; have p7 := keep1 D.out k7; have p8 := keep1 D.out k8; have p9 := keep1 D.out k9; clear b9)
      | fail)
  have TOT := Lib.hid (chain TOT.out D.out)
  clear T23 T24 T25 k0 k1 k2 k3 k4 k5 k6 k7 k8 k9 p0 p1 p2 p3 p4 p5 p6 p7 p8 p9 D
  go_wp2_with fail
  refine (H_qp1p2.out _).mono ?_
  rintro e x35 ⟨rfl, b35⟩
  have E := Lib.hid b35
  clear b35
  go_wp2_with fail
  refine (H_qp1p3.out _).mono ?_
  rintro e x36 ⟨rfl, b36⟩
  have E := Lib.hid (chain E.out b36)
  clear b36
  go_wp2_with fail
  refine (H_add.out _).mono ?_
  rintro e x37 ⟨rfl, b37⟩
  have E := Lib.hid (chain E.out b37)
  clear b37
  obtain ⟨u26, hu26⟩ : ∃ u : World, u = x37.alloc (.cells #[.bool b_p5, .string s_p5, .bool b_p6, .string s_p6] 27) := ⟨_, rfl⟩
  have D : Hid (Below y.heap.size y u26) := by rw [hu26]; exact (E.out.alloc E.out.size _)
  have T27 : Hid (ZC4 (.bool b_p5) (.string s_p5) (.bool b_p6) (.string s_p6) u26 x37.heap.size) := by rw [hu26]; exact ZC4.made0 x37
  have TOT := Lib.hid (chain TOT.out D.out)
  have Hu26 := Lib.hid hu26
  clear hu26 D E
  go_wp2_with fail
  rw [← Hu26.out]
  clear Hu26
  refine (H_qp2p3.out _).mono ?_
  rintro e x38 ⟨rfl, b38⟩
  have E := Lib.hid b38
  clear b38
  go_wp2_with fail
  refine (H_qp3p4.out _).mono ?_
  rintro e x39 ⟨rfl, b39⟩
  have E := Lib.hid (chain E.out b39)
  clear b39
  go_wp2_with fail
  refine (H_mul.out _).mono ?_
  rintro e x40 ⟨rfl, b40⟩
  have E := Lib.hid (chain E.out b40)
  clear b40
  obtain ⟨u27, hu27⟩ : ∃ u : World, u = x40.alloc (.cells #[.bool b_p1, .string s_p1, .bool b_p2, .string s_p2] 27) := ⟨_, rfl⟩
  have D : Hid (Below u26.heap.size u26 u27) := by rw [hu27]; exact (E.out.alloc E.out.size _)
  have T27 := Lib.hid (T27.out.next D.out)
  have T28 : Hid (ZC4 (.bool b_p1) (.string s_p1) (.bool b_p2) (.string s_p2) u27 x40.heap.size) := by rw [hu27]; exact ZC4.made0 x40
  have TOT := Lib.hid (chain TOT.out D.out)
  have Hu27 := Lib.hid hu27
  clear hu27 D E
  go_wp2_with fail
  rw [← Hu27.out]
  clear Hu27
  refine (H_qp2p4.out _).mono ?_
  rintro e x41 ⟨rfl, b41⟩
  have E := Lib.hid b41
  clear b41
  go_wp2_with fail
  refine (H_qp1p2.out _).mono ?_
  rintro e x42 ⟨rfl, b42⟩
  have E := Lib.hid (chain E.out b42)
  clear b42
  go_wp2_with fail
  refine (H_cmp.out _).mono ?_
  rintro e x43 ⟨rfl, b43⟩
  have E := Lib.hid (chain E.out b43)
  clear b43
  have TOT := Lib.hid (chain TOT.out E.out)
  have T27 := Lib.hid (T27.out.next E.out)
  have T28 := Lib.hid (T28.out.next E.out)
  go_wp2_with fail
  obtain ⟨⟨k0, k1, k2, k3⟩, _⟩ := T27.out
  obtain ⟨⟨k4, k5, k6, k7⟩, _⟩ := T28.out
  go_region_held3 (fun W' => W'.cell? ⟨x37.heap.size, 0, none⟩ = some (.bool b_p5) ∧ W'.cell? ⟨x37.heap.size, 1, none⟩ = some (.string s_p5) ∧ W'.cell? ⟨x37.heap.size, 2, none⟩ = some (.bool b_p6) ∧ W'.cell? ⟨x37.heap.size, 3, none⟩ = some (.string s_p6) ∧ W'.cell? ⟨x40.heap.size, 0, none⟩ = some (.bool b_p1) ∧ W'.cell? ⟨x40.heap.size, 1, none⟩ = some (.string s_p1) ∧ W'.cell? ⟨x40.heap.size, 2, none⟩ = some (.bool b_p2) ∧ W'.cell? ⟨x40.heap.size, 3, none⟩ = some (.string s_p2)) (go_keep)
    (first
      | (go_at_call 60; (with_reducible refine (H_qp5p6.out _).mono ?_); rintro e y ⟨rfl, b9⟩; have D := Lib.hid (show Below x43.heap.size x43 y by first | exact chain D.out b9 | exact chain ((Below.refl _ _).drew) b9); have p0 := keep1 D.out k0; have p1 := keep1 D.out k1; have p2 := keep1 D.out k2; have p3 := keep1 D.out k3; have p4 := keep1 D.out k4; have p5 := keep1 D.out k5; have p6 := keep1 D.out k6; have p7 := keep1 D.out k7; clear b9)
      | (go_at_call 60; (with_reducible refine (H_qp1p2.out _).mono ?_); rintro e y ⟨rfl, b9⟩; have D := Lib.hid (show Below x43.heap.size x43 y by first | exact chain D.out b9 | exact chain ((Below.refl _ _).drew) b9); have p0 := keep1 D.out k0; have p1 := keep1 D.out k1; have p2 := keep1 D.out k2; have p3 := keep1 D.out k3; have p4 := keep1 D.out k4; have p5 := keep1 D.out k5; have p6 := keep1 D.out k6; have p7 := keep1 D.out k7; clear b9)
      | fail)
  have TOT := Lib.hid (chain TOT.out D.out)
  clear T27 T28 k0 k1 k2 k3 k4 k5 k6 k7 p0 p1 p2 p3 p4 p5 p6 p7 D
  go_wp2
  go_ret
  exact ⟨rfl, TOT.out⟩
end Go.Proofs.YtlmklhffafcmmaaGreat

/- The law's functions short and valid. -/
namespace Go.Proofs.YtlmklhffafcmmaaGreat
open Go.RowKit

/-- A list of wide integers lies in a block. -/
def WL (w : World) (g : Nat) (L : List (Bool × ByteArray)) : Prop := ∀ k (h : k < L.length), w.cell? ⟨g, 2 * k, none⟩ = some (.bool L[k].1) ∧ w.cell? ⟨g, 2 * k + 1, none⟩ = some (.string L[k].2)
theorem WL.below {w w' : World} {g : Nat} {L : List (Bool × ByteArray)} (h : WL w g L) (b : Below w.heap.size w w') : WL w' g L := fun k hk => ⟨keep1 b (h k hk).1, keep1 b (h k hk).2⟩
theorem WL.one (w : World) (a : Bool) (s : ByteArray) (t : TypeId) : WL (w.alloc (.cells #[.bool a, .string s] t)) w.heap.size [(a, s)] := by
  intro k hk
  match k, hk with
  | 0, _ => exact ⟨by simp [go_sem], by simp [go_sem]⟩
theorem WL.two (w : World) (a b : Bool) (s t : ByteArray) (ty : TypeId) : WL (w.alloc (.cells #[.bool a, .string s, .bool b, .string t] ty)) w.heap.size [(a, s), (b, t)] := by
  intro k hk
  match k, hk with
  | 0, _ => exact ⟨by simp [go_sem], by simp [go_sem]⟩
  | 1, _ => exact ⟨by simp [go_sem], by simp [go_sem]⟩
def shortL (L : List (Bool × ByteArray)) : Bool := L.all fun x => decide (x.2.size ≤ 60)
def validL (L : List (Bool × ByteArray)) : Bool := L.all fun x => vld x.1 x.2
theorem all_false {L : List (Bool × ByteArray)} {p : Bool × ByteArray → Bool} {k : Nat} (hk : k < L.length) (h : p L[k] = false) : L.all p = false := by
  rw [List.all_eq_false]
  exact ⟨_, List.getElem_mem hk, by simp [h]⟩
theorem all_true {L : List (Bool × ByteArray)} {p : Bool × ByteArray → Bool} (h : ∀ k (hk : k < L.length), p L[k] = true) : L.all p = true := by
  rw [List.all_eq_true]
  intro x hx
  obtain ⟨k, hk, rfl⟩ := List.mem_iff_getElem.1 hx
  exact h k hk

set_option maxRecDepth 100000 in
set_option maxHeartbeats 2000000 in
theorem short_any (L : List (Bool × ByteArray)) (n g : Nat) (w : World) (hn : n = L.length) (hn4 : n ≤ 4) (h : WL w g L) :
    Calls Tryz.prog 7 #[.slice (some ⟨g, 0, none⟩) n n] w (BPost (shortL L) w) := by
  have HL := Lib.hid h
  have HN := Lib.hid hn
  have HE : Hid (shortL L = L.all fun x => decide (x.2.size ≤ 60)) := rfl
  generalize shortL L = res at *
  clear h hn
  go_enter Tryz.func7, Tryz.ntmps7
  go_wp2
  go_loopw [4, 7] (fun _ iv wr => ∃ (wz : World) (k : Nat), wz = wr ∧ k ≤ n ∧ iv = .int .i64 (k : Int) ∧ Hid (∀ j (hj : j < L.length), j < k → L[j].2.size ≤ 60) ∧ Hid (Below w.heap.size w wz))
    (fun _ iv _ => n - (intOf iv).toNat)
  case atStart => exact ⟨w, 0, rfl, Nat.zero_le _, rfl, fun j _ hj => absurd hj (Nat.not_lt_zero _), Below.refl _ _⟩
  case round =>
    obtain ⟨wz, k, rfl, hk, rfl, hall, hbl⟩ := hrel
    by_cases hlt : k < n
    · have hkl : k < L.length := by have h5 : n = L.length := HN.out; omega
      obtain ⟨a, s, hL⟩ : ∃ a s, L[k] = (a, s) := ⟨_, _, rfl⟩
      have c0 : wz.cell? ⟨g, k * 2, none⟩ = some (.bool a) := by
        rw [Nat.mul_comm k 2]
        have := ((HL.out.below hbl.out) k hkl).1
        simpa [hL] using this
      have c1 : wz.cell? ⟨g, k * 2 + 1, none⟩ = some (.string s) := by
        rw [Nat.mul_comm k 2]
        have := ((HL.out.below hbl.out) k hkl).2
        simpa [hL] using this
      have hall2 : Hid (∀ h : k < L.length, L[k].2.size ≤ 60 → ∀ j (hj : j < L.length), j < k + 1 → L[j].2.size ≤ 60) := by
        intro _ hs j hj hjk
        rcases Nat.lt_or_ge j k with g | g
        · exact hall.out j hj g
        · obtain rfl : j = k := by omega
          exact hs
      have hbad : Hid (∀ h : k < L.length, ¬ L[k].2.size ≤ 60 → res = false) := fun _ hs => by
        rw [HE.out]
        exact all_false hkl (by simpa using hs)
      have HKL := Lib.hid hkl
      have HS : Hid (∀ h : k < L.length, L[k].2 = s) := fun _ => by rw [hL]
      have hlw : Hid (g < wz.heap.size) := World.block_lt_of_cell? wz _ c0
      have f1 := hlw.out
      have f2 : ¬ wz.heap.size = g := by omega
      have f3 : ¬ g = wz.heap.size := by omega
      have HB2 := Lib.hid (hbl.out.alloc hbl.out.size (.cells #[.bool a, .string s] 23))
      clear hkl hL
      by_cases hsz : s.size ≤ 60
      · have hR := hall2.out HKL.out (by rw [HS.out HKL.out]; exact hsz)
        have HR := Lib.hid hR
        clear hR
        go_wp2
        go_roundw
        case rel => exact ⟨_, k + 1, rfl, by omega, by go_num, HR.out, HB2⟩
        case measure => simp [intOf]; omega
      · have hF := Lib.hid (hbad.out HKL.out (by rw [HS.out HKL.out]; exact hsz))
        go_wp2
        go_ret
        exact ⟨by rw [hF.out]; rfl, HB2.out⟩
    · have hT : Hid (res = true) := by
        show _ = _
        rw [HE.out]
        exact all_true fun j hj => by simpa using hall.out j hj (by have h5 : n = L.length := HN.out; omega)
      go_wp2
      go_ret
      exact ⟨by rw [hT.out]; rfl, hbl.out⟩
set_option maxRecDepth 100000 in
set_option maxHeartbeats 2000000 in
theorem valid_any (L : List (Bool × ByteArray)) (n g : Nat) (w : World) (hn : n = L.length) (hn4 : n ≤ 4) (h : WL w g L) (hz : ∀ x ∈ L, x.2.size ≤ 140737488351232) :
    Calls Tryz.prog 17 #[.slice (some ⟨g, 0, none⟩) n n] w (BPost (validL L) w) := by
  have HL := Lib.hid h
  have HV := Lib.hid (fun k (hk : k < L.length) w => rvalid_any L[k].1 L[k].2 w (hz _ (List.getElem_mem hk)))
  have HN := Lib.hid hn
  have HE : Hid (validL L = L.all fun x => vld x.1 x.2) := rfl
  generalize validL L = res at *
  clear h hn hz
  go_enter Tryz.func17, Tryz.ntmps17
  go_wp2
  go_loopw [4, 7] (fun _ iv wr => ∃ (wz : World) (k : Nat), wz = wr ∧ k ≤ n ∧ iv = .int .i64 (k : Int) ∧ Hid (∀ j (hj : j < L.length), j < k → vld L[j].1 L[j].2 = true) ∧ Hid (Below w.heap.size w wz))
    (fun _ iv _ => n - (intOf iv).toNat)
  case atStart => exact ⟨w, 0, rfl, Nat.zero_le _, rfl, fun j _ hj => absurd hj (Nat.not_lt_zero _), Below.refl _ _⟩
  case round =>
    obtain ⟨wz, k, rfl, hk, rfl, hall, hbl⟩ := hrel
    by_cases hlt : k < n
    · have hkl : k < L.length := by have h5 : n = L.length := HN.out; omega
      obtain ⟨a, s, hL⟩ : ∃ a s, L[k] = (a, s) := ⟨_, _, rfl⟩
      have c0 : wz.cell? ⟨g, k * 2, none⟩ = some (.bool a) := by
        rw [Nat.mul_comm k 2]
        have := ((HL.out.below hbl.out) k hkl).1
        simpa [hL] using this
      have c1 : wz.cell? ⟨g, k * 2 + 1, none⟩ = some (.string s) := by
        rw [Nat.mul_comm k 2]
        have := ((HL.out.below hbl.out) k hkl).2
        simpa [hL] using this
      have hall2 : Hid (∀ h : k < L.length, vld L[k].1 L[k].2 = true → ∀ j (hj : j < L.length), j < k + 1 → vld L[j].1 L[j].2 = true) := by
        intro _ hs j hj hjk
        rcases Nat.lt_or_ge j k with g | g
        · exact hall.out j hj g
        · obtain rfl : j = k := by omega
          exact hs
      have hbad : Hid (∀ h : k < L.length, ¬ vld L[k].1 L[k].2 = true → res = false) := fun _ hs => by
        rw [HE.out]
        exact all_false hkl (by simpa using hs)
      have HKL := Lib.hid hkl
      have HS : Hid (∀ h : k < L.length, vld L[k].1 L[k].2 = vld a s) := fun _ => by rw [hL]
      have HVk : Hid (∀ w, Calls Tryz.prog 64 #[.agg #[.bool a, .string s]] w (BPost (vld a s) w)) := by
        have := HV.out k hkl
        rw [hL] at this
        exact this
      have hlw : Hid (g < wz.heap.size) := World.block_lt_of_cell? wz _ c0
      have f1 := hlw.out
      have f2 : ¬ wz.heap.size = g := by omega
      have f3 : ¬ g = wz.heap.size := by omega
      have HB2 := Lib.hid (hbl.out.alloc hbl.out.size (.cells #[.bool a, .string s] 23))
      clear hkl hL
      by_cases hsz : vld a s = true
      · have hR := hall2.out HKL.out (by rw [HS.out HKL.out]; exact hsz)
        have HR := Lib.hid hR
        clear hR
        rw [hsz] at HVk
        go_wp2_with fail
        refine (HVk.out _).mono ?_
        rintro e w5 ⟨rfl, b5⟩
        have HB2 := Lib.hid (chain HB2.out b5)
        clear b5
        go_wp2
        go_roundw
        case rel => exact ⟨_, k + 1, rfl, by omega, by go_num, HR.out, HB2⟩
        case measure => simp [intOf]; omega
      · have hF := Lib.hid (hbad.out HKL.out (by rw [HS.out HKL.out]; exact hsz))
        rw [Bool.not_eq_true] at hsz
        rw [hsz] at HVk
        go_wp2_with fail
        refine (HVk.out _).mono ?_
        rintro e w5 ⟨rfl, b5⟩
        have HB2 := Lib.hid (chain HB2.out b5)
        clear b5
        go_wp2
        go_ret
        exact ⟨by rw [hF.out]; rfl, HB2.out⟩
    · have hT : Hid (res = true) := by
        show _ = _
        rw [HE.out]
        exact all_true fun j hj => by simpa using hall.out j hj (by have h5 : n = L.length := HN.out; omega)
      go_wp2
      go_ret
      exact ⟨by rw [hT.out]; rfl, hbl.out⟩
end Go.Proofs.YtlmklhffafcmmaaGreat

/- The law WideInts gives true. -/
namespace Go.Proofs.YtlmklhffafcmmaaGreat
open Go.RowKit

theorem sg_z (z : Int) : sg (zb z) z.natAbs = z := by
  unfold sg zb
  by_cases h : z < 0
  · rw [decide_eq_true h, if_pos rfl]; omega
  · rw [decide_eq_false h, if_neg (by simp)]; omega
theorem zb_sg {a : Bool} {s : ByteArray} (h : vld a s = true) : zb (sg a (bv s)) = a ∧ zs (sg a (bv s)) = s := by
  have hc := vld_can h
  have e1 : (sg a (bv s)).natAbs = bv s := by unfold sg; split <;> omega
  refine ⟨?_, by rw [zs, e1, bs_bv hc]⟩
  unfold sg zb
  cases a with
  | false => rw [if_neg (by simp)]; exact decide_eq_false (by omega)
  | true =>
    rw [if_pos rfl]
    have h0 : 0 < s.size := by
      rcases Nat.eq_zero_or_pos s.size with h0 | h0
      · unfold vld at h; rw [dif_neg (by omega)] at h; simp at h
      · exact h0
    have : bv s ≠ 0 := fun h1 => by have := (bv_zero_iff hc).1 h1; omega
    exact decide_eq_true (by omega)
theorem int_z (n : Int) (w : World) (h1 : -9223372036854775808 ≤ n) (h2 : n ≤ 9223372036854775807) : Calls Tryz.prog 51 #[.agg #[.bool (zb n), .string (zs n)]] w (Ret (.tuple #[.int .i64 n, .int .i64 0]) w) := by
  have h := Int_valid (zb n) (zs n) w (zv (by unfold W; omega))
  unfold IntWPost at h
  rw [bv_zs, sg_z, if_pos ⟨h1, h2⟩, if_pos ⟨h1, h2⟩] at h
  exact h
theorem short_false {a : Bool} {s : ByteArray} (h : ¬ s.size ≤ 60) : shortL [(a, s)] = false := by simp [shortL, h]
theorem short_true {a : Bool} {s : ByteArray} (h : s.size ≤ 60) : shortL [(a, s)] = true := by simp [shortL, h]

end Go.Proofs.YtlmklhffafcmmaaGreat
