/- WideProducts gives true for all pairs of wide integers (P1.4), and leaves its arguments as they were. No condition. -/
import Derived.Test.YtlmklhffafcmmaaR13
import Derived.Test.YtlmklhffafcmmaaRows
import Derived.Test.YtlmklhffafcmmaaR9
import Derived.ProofKit
import Derived.OpenShut
import Derived.ShutString
import Derived.ChangeOld
import Derived.Below
import Derived.Lib.SmallJoins

/- The law WideProducts gives true: the second one not 0. -/
namespace Go.Proofs.Ytlmklhffafcmmaa
open Go.RowKit

set_option maxRecDepth 100000 in
set_option maxHeartbeats 8000000 in
theorem prods_good (a b : Bool) (s t : ByteArray) (w : World) (z1 : s.size ≤ 60) (z2 : t.size ≤ 60) (hv : vld a s = true) (hv2 : vld b t = true) (h0 : sg b (bv t) ≠ 0) :
    Calls Try.prog 6 #[.agg #[.bool a, .string s], .agg #[.bool b, .string t]] w (Ret (.bool true) w) := by
  have H_known := Lib.hid known_true
  obtain ⟨w0, hw0⟩ : ∃ w0 : World, w0 = ((w.alloc (.cells #[.bool a, .string s] 23)).alloc (.cells #[.bool b, .string t] 23)).alloc (.cells #[.bool a, .string s, .bool b, .string t] 23) := ⟨_, rfl⟩
  have hb0 : Hid (Below w.heap.size w w0) := by rw [hw0]; exact (((Below.refl _ _).alloc (Nat.le_refl _) _).alloc (by simp) _).alloc (by simp; omega) _
  have I1 : Hid (ZC (.bool a) (.string s) w0 w.heap.size) := by rw [hw0]; exact ((ZC.new rfl).alloc _).alloc _
  have I2 : Hid (ZC (.bool b) (.string t) w0 (w.heap.size + 1)) := by rw [hw0]; exact (ZC.new (by simp)).alloc _
  have Hsz : Hid (w.heap.size + 3 ≤ w0.heap.size) := by rw [hw0]; show _ ≤ _; simp
  have HSH := short_any [(a, s), (b, t)] 2 (w.heap.size + 1 + 1) w0 rfl (by decide) (by rw [hw0]; have := WL.two ((w.alloc (.cells #[.bool a, .string s] 23)).alloc (.cells #[.bool b, .string t] 23)) a b s t 23; simpa using this)
  rw [short2_true z1 z2] at HSH
  have H_val2 := Lib.hid (fun g w h => valid_any [(a, s), (b, t)] 2 g w rfl (by decide) h (by intro x hx; simp at hx; rcases hx with rfl | rfl <;> (show _ ≤ _; simp; omega)))
  have H_quo := Lib.hid (fun w => quo_z hv hv2 h0 w)
  have v2 : validL [(a, s), (b, t)] = true := by simp [validL, hv, hv2]
  rw [v2] at H_val2
  have H_mul := Lib.hid (fun w => mul_z hv hv2 z1 z2 w)
  have H_gcd := Lib.hid (fun w => gcd_z hv hv2 w)
  have H_from := Lib.hid (fun w => rfrom_any a s w (by omega))
  have H_from2 := Lib.hid (fun w => rfrom_any b t w (by omega))
  obtain ⟨k6, hk6⟩ : ∃ k6 : Nat, k6 = 60 := ⟨_, rfl⟩
  have hx6 := bv60 hk6 z1
  have hy6 := bv60 hk6 z2
  have lx6 : (Nm.dg D9 (sg a (bv s)).natAbs).length ≤ 100000 := by rw [sg_abs]; exact (fits_k (by omega) hx6).2
  have ly6 : (Nm.dg D9 (sg b (bv t)).natAbs).length ≤ 100000 := by rw [sg_abs]; exact (fits_k (by omega) hy6).2
  have hm6 : (sg a (bv s) * sg b (bv t)).natAbs < 256 ^ (k6 + k6) := by rw [Int.natAbs_mul, sg_abs, sg_abs]; exact prod120 rfl hx6 hy6
  have hm7 := fits_k (by omega) hm6
  have hg7 : (Nat.gcd (sg a (bv s)).natAbs (sg b (bv t)).natAbs) < Top := by rw [sg_abs, sg_abs]; exact gcd_top (bv_lt hv) (bv_lt hv2)
  have hg8 : (Nm.dg D9 (Nat.gcd (sg a (bv s)).natAbs (sg b (bv t)).natAbs)).length ≤ 100000 := by
    rcases Nat.eq_zero_or_pos (bv s) with g | g
    · rw [sg_abs, sg_abs, g, Nat.gcd_zero_left]; rw [sg_abs] at ly6; exact ly6
    · rw [sg_abs, sg_abs]; rw [sg_abs] at lx6; exact Nat.le_trans (dg9_mono (Nat.gcd_le_left _ g)) lx6
  have H_is1 := Lib.hid (fun v w h => is_true (sg a (bv s) * sg b (bv t)) v w h (Nat.le_trans hm7.2 (by omega)) (zs_size hm7.1))
  have H_is2 := Lib.hid (fun v w h => is_true ((Nat.gcd (sg a (bv s)).natAbs (sg b (bv t)).natAbs : Nat) : Int) v w h (Nat.le_trans hg8 (by omega)) (zs_size hg7))
  have H_rmul := Lib.hid (fun v1 v2 w g1 g2 => rmul_int (sg a (bv s)) (sg b (bv t)) v1 v2 w g1 g2 (Nat.le_trans lx6 (by omega)) (Nat.le_trans ly6 (by omega)))
  have H_rgcd := Lib.hid (fun v1 v2 w g1 g2 => rgcd_int (sg a (bv s)) (sg b (bv t)) v1 v2 w g1 g2 lx6 ly6)
  have H_rsign := Lib.hid (fun v w h => rsign_int (sg b (bv t)) v w h)
  unfold BPost at H_val2 H_is1 H_is2
  unfold IntPost at H_from H_from2 H_rmul H_rgcd
  unfold SignPost at H_rsign
  have hs0 : ((sg b (bv t)).sign == 0) = false := by simp [Int.sign_eq_zero_iff_zero, h0]
  have hs1 : ¬ (sg b (bv t)).sign = 0 := by simp [Int.sign_eq_zero_iff_zero, h0]
  have hxD : (sg a (bv s)).natAbs < D9 ^ k6 := by rw [sg_abs]; exact D9_4 hx6 (Nat.le_refl _)
  have hyD : (sg b (bv t)).natAbs < D9 ^ k6 := by rw [sg_abs]; exact D9_4 hy6 (Nat.le_refl _)
  have H_rquo := Lib.hid (fun v1 v2 w g1 g2 => rquo_int (sg a (bv s)) (sg b (bv t)) v1 v2 w k6 (by omega) hxD hyD g1 g2 h0)
  have hq1 : (sg a (bv s) / sg b (bv t)).natAbs ≤ (sg a (bv s)).natAbs := Int.natAbs_ediv_le_natAbs _ _
  have hq2 : (sg a (bv s) % sg b (bv t)).natAbs ≤ (sg b (bv t)).natAbs := by
    have e1 := Int.emod_nonneg (sg a (bv s)) h0
    have e2 := Int.emod_lt (sg a (bv s)) h0
    omega
  have H_is3 := Lib.hid (fun v w h => is_true (sg a (bv s) / sg b (bv t)) v w h (Nat.le_trans (dg9_mono hq1) (by omega)) (zs_size (Nat.lt_of_le_of_lt hq1 (by rw [sg_abs]; exact bv_lt hv))))
  have H_is4 := Lib.hid (fun v w h => is_true (sg a (bv s) % sg b (bv t)) v w h (Nat.le_trans (dg9_mono hq2) (by omega)) (zs_size (Nat.lt_of_le_of_lt hq2 (by rw [sg_abs]; exact bv_lt hv2))))
  unfold BPost at H_is3 H_is4
  unfold QIPost at H_rquo
  unfold iV at H_is3 H_is4 H_rquo
  clear h0 hxD hyD hq1 hq2
  unfold iV at H_from H_from2 H_rmul H_rgcd H_rsign H_is1 H_is2
  clear v2 hm6 hm7 hg7 hg8 lx6 ly6 hx6 hy6 hv hv2
  generalize sg a (bv s) = x at *
  generalize sg b (bv t) = y' at *
  generalize x * y' = xm at *
  generalize ((Nat.gcd x.natAbs y'.natAbs : Nat) : Int) = xg at *
  generalize x / y' = xq at *
  generalize x % y' = xr at *
  generalize zb xq = qb at *
  generalize zs xq = qs at *
  generalize zb xr = rb at *
  generalize zs xr = rs at *
  generalize decide (xq < 0) = bxq at *
  generalize decide (xr < 0) = bxr at *
  generalize zb xm = mb at *
  generalize zs xm = ms at *
  generalize zb xg = gb at *
  generalize zs xg = gs at *
  generalize decide (x < 0) = bx at *
  generalize decide (y' < 0) = by' at *
  generalize decide (xm < 0) = bxm at *
  generalize decide (xg < 0) = bxg at *
  generalize y'.sign = sv at *
  have HSh := Lib.hid HSH
  have Hw0 := Lib.hid hw0
  clear HSH hw0
  unfold Ret at *
  unfold BPost at HSh
  go_enter Try.func6, Try.ntmps6
  go_wp2_with fail
  rw [← Hw0.out]
  refine HSh.out.mono ?_
  rintro e x0 ⟨rfl, b0⟩
  have D := Lib.hid b0
  clear b0
  obtain ⟨k0, k1, _⟩ := I1.out.next D.out
  obtain ⟨k2, k3, _⟩ := I2.out.next D.out
  go_wp2_with fail
  refine (H_mul.out _).mono ?_
  rintro e y5 ⟨rfl, b9⟩
  obtain ⟨n0, n1, _⟩ := I1.out.next (chain D.out b9)
  obtain ⟨n2, n3, _⟩ := I2.out.next (chain D.out b9)
  have j1 : w.heap.size < y5.heap.size := World.block_lt_of_cell? _ _ n0
  have j2 : w.heap.size + 1 < y5.heap.size := World.block_lt_of_cell? _ _ n2
  have j3 : ¬ w.heap.size = y5.heap.size := Nat.ne_of_lt j1
  have j4 : ¬ w.heap.size + 1 = y5.heap.size := Nat.ne_of_lt j2
  have j5 : ¬ w.heap.size = y5.heap.size + 1 := Nat.ne_of_lt (Nat.lt_succ_of_lt j1)
  have j6 : ¬ w.heap.size + 1 = y5.heap.size + 1 := Nat.ne_of_lt (Nat.lt_succ_of_lt j2)
  obtain ⟨u5, hu5⟩ : ∃ u : World, u = y5.alloc (.cells #[.bool mb, .string ms] 23) := ⟨_, rfl⟩
  have E : Hid (Below x0.heap.size x0 u5) := by rw [hu5]; exact b9.alloc b9.size _
  have D := Lib.hid (chain D.out E.out)
  have T5 : Hid (ZC (.bool mb) (.string ms) u5 y5.heap.size) := by rw [hu5]; exact ZC.new rfl
  have Hu5 := Lib.hid hu5
  clear hu5 b9 E
  obtain ⟨k0, k1, _⟩ := I1.out.next D.out
  obtain ⟨k2, k3, _⟩ := I2.out.next D.out
  go_wp2_with fail
  rw [← Hu5.out]
  clear Hu5
  refine (H_quo.out _).mono ?_
  rintro e y7 ⟨rfl, b9⟩
  obtain ⟨n0, n1, _⟩ := I1.out.next (chain D.out b9)
  obtain ⟨n2, n3, _⟩ := I2.out.next (chain D.out b9)
  have j1 : w.heap.size < y7.heap.size := World.block_lt_of_cell? _ _ n0
  have j2 : w.heap.size + 1 < y7.heap.size := World.block_lt_of_cell? _ _ n2
  have j3 : ¬ w.heap.size = y7.heap.size := Nat.ne_of_lt j1
  have j4 : ¬ w.heap.size + 1 = y7.heap.size := Nat.ne_of_lt j2
  have j5 : ¬ w.heap.size = y7.heap.size + 1 := Nat.ne_of_lt (Nat.lt_succ_of_lt j1)
  have j6 : ¬ w.heap.size + 1 = y7.heap.size + 1 := Nat.ne_of_lt (Nat.lt_succ_of_lt j2)
  obtain ⟨u7, hu7⟩ : ∃ u : World, u = (y7.alloc (.cells #[.bool qb, .string qs] 23)).alloc (.cells #[.bool rb, .string rs] 23) := ⟨_, rfl⟩
  have E : Hid (Below u5.heap.size u5 u7) := by rw [hu7]; exact (b9.alloc b9.size _).alloc (Nat.le_trans b9.size (by simp)) _
  have D := Lib.hid (chain D.out E.out)
  have T5 := Lib.hid (T5.out.next E.out)
  have T7 : Hid (ZC (.bool qb) (.string qs) u7 y7.heap.size) := by rw [hu7]; exact (ZC.new rfl).alloc _
  have T8 : Hid (ZC (.bool rb) (.string rs) u7 (y7.heap.size + 1)) := by rw [hu7]; exact ZC.new (by simp)
  have Hu7 := Lib.hid hu7
  clear hu7 b9 E
  obtain ⟨k0, k1, _⟩ := I1.out.next D.out
  obtain ⟨k2, k3, _⟩ := I2.out.next D.out
  go_wp2_with fail
  rw [← Hu7.out]
  clear Hu7
  refine (H_gcd.out _).mono ?_
  rintro e y10 ⟨rfl, b9⟩
  obtain ⟨n0, n1, _⟩ := I1.out.next (chain D.out b9)
  obtain ⟨n2, n3, _⟩ := I2.out.next (chain D.out b9)
  have j1 : w.heap.size < y10.heap.size := World.block_lt_of_cell? _ _ n0
  have j2 : w.heap.size + 1 < y10.heap.size := World.block_lt_of_cell? _ _ n2
  have j3 : ¬ w.heap.size = y10.heap.size := Nat.ne_of_lt j1
  have j4 : ¬ w.heap.size + 1 = y10.heap.size := Nat.ne_of_lt j2
  have j5 : ¬ w.heap.size = y10.heap.size + 1 := Nat.ne_of_lt (Nat.lt_succ_of_lt j1)
  have j6 : ¬ w.heap.size + 1 = y10.heap.size + 1 := Nat.ne_of_lt (Nat.lt_succ_of_lt j2)
  obtain ⟨u10, hu10⟩ : ∃ u : World, u = (y10.alloc (.cells #[.bool gb, .string gs] 23)).alloc (.cells #[.bool false, .string ⟨#[]⟩] 23) := ⟨_, rfl⟩
  have E : Hid (Below u7.heap.size u7 u10) := by rw [hu10]; exact (b9.alloc b9.size _).alloc (Nat.le_trans b9.size (by simp)) _
  have D := Lib.hid (chain D.out E.out)
  have T5 := Lib.hid (T5.out.next E.out)
  have T7 := Lib.hid (T7.out.next E.out)
  have T8 := Lib.hid (T8.out.next E.out)
  have T10 : Hid (ZC (.bool gb) (.string gs) u10 y10.heap.size) := by rw [hu10]; exact (ZC.new rfl).alloc _
  have T12 : Hid (ZC (.bool false) (.string ⟨#[]⟩) u10 (y10.heap.size + 1)) := by rw [hu10]; exact ZC.new (by simp)
  have HW10 : Hid (WL (u10.alloc (.cells #[.bool a, .string s, .bool b, .string t] 23)) (y10.heap.size + 1 + 1) [(a, s), (b, t)]) := by have := WL.two u10 a b s t 23; rwa [show u10.heap.size = y10.heap.size + 1 + 1 by rw [hu10]; simp] at this
  have Hu10 := Lib.hid hu10
  clear hu10 b9 E
  obtain ⟨k0, k1, _⟩ := I1.out.next D.out
  obtain ⟨k2, k3, _⟩ := I2.out.next D.out
  go_wp2_with fail
  rw [← Hu10.out]
  clear Hu10
  refine (H_val2.out _ _ HW10.out).mono ?_
  rintro e yv ⟨rfl, b9⟩
  have E := Lib.hid (chain (below_one u10 _) b9)
  clear HW10 n0 n1 n2 n3 j1 j2 j3 j4 j5 j6
  have D := Lib.hid (chain D.out E.out)
  have T5 := Lib.hid (T5.out.next E.out)
  have T7 := Lib.hid (T7.out.next E.out)
  have T8 := Lib.hid (T8.out.next E.out)
  have T10 := Lib.hid (T10.out.next E.out)
  have T12 := Lib.hid (T12.out.next E.out)
  clear b9 E
  obtain ⟨k0, k1, _⟩ := I1.out.next D.out
  obtain ⟨k2, k3, _⟩ := I2.out.next D.out
  have HSB : Hid (w.heap.size + 3 ≤ yv.heap.size) := Nat.le_trans Hsz.out D.out.size
  go_upto_region 9 with (fail)
  obtain ⟨jba, jbb, jbc, jbd, jbe, jbf, jbg, jbh⟩ := far7 HSB.out
  go_cut [13, 14] (fun s7 s8 wx => ∃ (g7 g8 : Nat) (y1 y2 : Option Addr) (n1 c1 n2 c2 : Nat), s7 = .pointer (some ⟨g7, 0, none⟩) ∧ s8 = .pointer (some ⟨g8, 0, none⟩) ∧ Hid (CutI (.bool bx) (.bool by') (.slice y1 n1 c1) (.slice y2 n2 c2) (Nm.dg D9 x.natAbs) (Nm.dg D9 y'.natAbs) yv.heap.size yv wx g7 g8))
  case first =>
    rename_i J0 K0 hRJ hMK
    go_region_held3 (fun W' => W'.cell? ⟨w.heap.size, 0, none⟩ = some (.bool a) ∧ W'.cell? ⟨w.heap.size, 1, none⟩ = some (.string s) ∧ W'.cell? ⟨w.heap.size + 1, 0, none⟩ = some (.bool b) ∧ W'.cell? ⟨w.heap.size + 1, 1, none⟩ = some (.string t)) (go_keep)
      (first
        | (go_at_call 18; (with_reducible refine (H_from.out _).mono ?_); rintro e w1 ⟨v1, rfl, r1, b1⟩; (try (have b1 := undrew b1)); have d1 : Below yv.heap.size yv w1 := chain (by first | exact Below.refl _ _ | exact (Below.refl _ _).drew | exact below_one _ _ | exact below_two _ _ _ | exact ((Below.refl _ _).drew).alloc (Nat.le_refl _) _ | exact (((Below.refl _ _).drew).alloc (Nat.le_refl _) _).alloc (by simp) _) b1; have c1 : Below yv.heap.size yv w1 := d1; have p0 := keep1 c1 k0; have p1 := keep1 c1 k1; have p2 := keep1 c1 k2; have p3 := keep1 c1 k3; obtain ⟨j1a, j1b, j1c, j1d, j1e, j1f, j1g, j1h⟩ := far7 (show w.heap.size + 3 ≤ w1.heap.size from Nat.le_trans HSB.out c1.size); (try (have A0 := Lib.hid (ZC.made (g := yv.heap.size) rfl b1); obtain ⟨A0a, A0b, A0c, A0d⟩ := A0.out)); (try (have A0 := Lib.hid (ZC.made1 (g := yv.heap.size) rfl b1); have B0 := Lib.hid (ZC.made (g := yv.heap.size + 1) (by simp) b1); obtain ⟨A0a, A0b, A0c, A0d⟩ := A0.out; obtain ⟨B0a, B0b, B0c, B0d⟩ := B0.out)); (try (have L01 := Lib.hid (apart_b (g := yv.heap.size) rfl b1); obtain ⟨l01x, l01y, l01z⟩ := L01.out)); (try (have MM := Lib.hid (apart_b2 (g := yv.heap.size) rfl b1); have L01 := Lib.hid MM.out.1; have M01 := Lib.hid MM.out.2; clear MM; obtain ⟨l01x, l01y, l01z⟩ := L01.out; obtain ⟨m01x, m01y, m01z⟩ := M01.out)); have G1 := Lib.hid r1; obtain ⟨pp1, bb1, oo1, cc1, rfl, rr1⟩ := r1; clear rr1)
        | (go_at_call 18; (with_reducible refine (H_from2.out _).mono ?_); rintro e w2 ⟨v2, rfl, r2, b2⟩; (try (have b2 := undrew b2)); have d2 : Below w1.heap.size w1 w2 := chain (by first | exact Below.refl _ _ | exact (Below.refl _ _).drew | exact below_one _ _ | exact below_two _ _ _ | exact ((Below.refl _ _).drew).alloc (Nat.le_refl _) _ | exact (((Below.refl _ _).drew).alloc (Nat.le_refl _) _).alloc (by simp) _) b2; have c2 : Below yv.heap.size yv w2 := chain c1 d2; have p0 := keep1 c2 k0; have p1 := keep1 c2 k1; have p2 := keep1 c2 k2; have p3 := keep1 c2 k3; obtain ⟨j2a, j2b, j2c, j2d, j2e, j2f, j2g, j2h⟩ := far7 (show w.heap.size + 3 ≤ w2.heap.size from Nat.le_trans HSB.out c2.size); (try (have A1 := Lib.hid (ZC.made (g := w1.heap.size) rfl b2); obtain ⟨A1a, A1b, A1c, A1d⟩ := A1.out)); (try (have A1 := Lib.hid (ZC.made1 (g := w1.heap.size) rfl b2); have B1 := Lib.hid (ZC.made (g := w1.heap.size + 1) (by simp) b2); obtain ⟨A1a, A1b, A1c, A1d⟩ := A1.out; obtain ⟨B1a, B1b, B1c, B1d⟩ := B1.out)); (try (have A0 := Lib.hid (A0.out.next d2); obtain ⟨A0a, A0b, A0c, A0d⟩ := A0.out)); (try (have B0 := Lib.hid (B0.out.next d2); obtain ⟨B0a, B0b, B0c, B0d⟩ := B0.out)); (try (have L02 := Lib.hid (apart_t L01.out d2.size); obtain ⟨l02x, l02y, l02z⟩ := L02.out)); (try (have M02 := Lib.hid (apart_t M01.out d2.size); obtain ⟨m02x, m02y, m02z⟩ := M02.out)); (try (have L12 := Lib.hid (apart_b (g := w1.heap.size) rfl b2); obtain ⟨l12x, l12y, l12z⟩ := L12.out)); (try (have MM := Lib.hid (apart_b2 (g := w1.heap.size) rfl b2); have L12 := Lib.hid MM.out.1; have M12 := Lib.hid MM.out.2; clear MM; obtain ⟨l12x, l12y, l12z⟩ := L12.out; obtain ⟨m12x, m12y, m12z⟩ := M12.out)); have G2 := Lib.hid (And.intro (Ri.below G1.out d2 (Nat.le_refl _)) r2); obtain ⟨pp2, bb2, oo2, cc2, rfl, rr2⟩ := r2; clear rr2)
        | fail)
    all_goals
      obtain ⟨r1, r2⟩ := G2.out
      refine hMK _ _ (Met.intro (hRJ _ _ ?_))
      (repeat apply Exists.intro)
      refine ⟨?_, rfl⟩
      refine ⟨_, _, pp1, pp2, (Nm.dg D9 x.natAbs).length, cc1, (Nm.dg D9 y'.natAbs).length, cc2, rfl, rfl, ?_⟩
      show CutI (.bool bx) (.bool by') (.slice pp1 _ cc1) (.slice pp2 _ cc2) (Nm.dg D9 x.natAbs) (Nm.dg D9 y'.natAbs) yv.heap.size yv _ _ _
      have sA0 : yv.heap.size ≤ yv.heap.size := Nat.le_refl _
      have sB0 : yv.heap.size ≤ yv.heap.size + 1 := Nat.le_succ _
      have sA1 : yv.heap.size ≤ w1.heap.size := c1.size
      have sB1 : yv.heap.size ≤ w1.heap.size + 1 := Nat.le_succ_of_le sA1
      have sA2 : yv.heap.size ≤ w2.heap.size := c2.size
      have n0 : ¬ yv.heap.size = yv.heap.size + 1 := Nat.ne_of_lt (Nat.lt_succ_self _)
      have n1 : ¬ w1.heap.size = w1.heap.size + 1 := Nat.ne_of_lt (Nat.lt_succ_self _)
      have m0 : ¬ yv.heap.size + 1 = yv.heap.size := fun e => n0 e.symm
      have m1 : ¬ w1.heap.size + 1 = w1.heap.size := fun e => n1 e.symm
      first
        | with_reducible exact CutI.s1 r1 r2 c2 sA2
        | with_reducible exact CutI.s2 r1 r2 c2 sA2
        | with_reducible exact CutI.s3 A0.out sA0 r1 r2 c2 sA2
        | with_reducible exact CutI.s4 A0.out sA0 r1 r2 c2 sA2
        | with_reducible exact CutI.s3 A1.out sA1 r1 r2 c2 sA2
        | with_reducible exact CutI.s4 A1.out sA1 r1 r2 c2 sA2
        | with_reducible exact CutI.s3 B0.out sB0 r1 r2 c2 sA2
        | with_reducible exact CutI.s4 B0.out sB0 r1 r2 c2 sA2
        | with_reducible exact CutI.s3 B1.out sB1 r1 r2 c2 sA2
        | with_reducible exact CutI.s4 B1.out sB1 r1 r2 c2 sA2
        | with_reducible exact CutI.s5 A0.out sA0 B0.out sB0 n0 r1 r2 c2
        | with_reducible exact CutI.s5 B0.out sB0 A0.out sA0 m0 r1 r2 c2
        | with_reducible exact CutI.s5 A1.out sA1 B1.out sB1 n1 r1 r2 c2
        | with_reducible exact CutI.s5 B1.out sB1 A1.out sA1 m1 r1 r2 c2
        | with_reducible exact CutI.s5 A0.out sA0 A1.out sA1 l01x r1 r2 c2
        | with_reducible exact CutI.s5 A1.out sA1 A0.out sA0 l01y r1 r2 c2
        | fail
  obtain ⟨g7, g8, y1', y2', n1, c1, n2, c2, rfl, rfl, hcut⟩ := hcut
  obtain ⟨_, T11, T12x, R1, R2, bxx⟩ := hcut.out
  have D := Lib.hid (chain D.out bxx)
  have T5 := Lib.hid (T5.out.next bxx)
  have T7 := Lib.hid (T7.out.next bxx)
  have T8 := Lib.hid (T8.out.next bxx)
  have T10 := Lib.hid (T10.out.next bxx)
  have T12 := Lib.hid (T12.out.next bxx)
  have R1 := Lib.hid R1
  have R2 := Lib.hid R2
  have T13 := Lib.hid T11
  have T14 := Lib.hid T12x
  clear bxx hcut HSB jba jbb jbc jbd jbe jbf jbg jbh
  obtain ⟨k0, k1, _⟩ := T5.out
  obtain ⟨k2, k3, _⟩ := T10.out
  obtain ⟨k4, k5, _⟩ := T13.out
  obtain ⟨k6, k7, _⟩ := T14.out
  go_wp2_with fail
  go_region_held3 (fun W' => W'.cell? ⟨y5.heap.size, 0, none⟩ = some (.bool mb) ∧ W'.cell? ⟨y5.heap.size, 1, none⟩ = some (.string ms) ∧ W'.cell? ⟨y10.heap.size, 0, none⟩ = some (.bool gb) ∧ W'.cell? ⟨y10.heap.size, 1, none⟩ = some (.string gs) ∧ W'.cell? ⟨g7, 0, none⟩ = some (.bool bx) ∧ W'.cell? ⟨g7, 1, none⟩ = some (.slice y1' n1 c1) ∧ W'.cell? ⟨g8, 0, none⟩ = some (.bool by') ∧ W'.cell? ⟨g8, 1, none⟩ = some (.slice y2' n2 c2)) (go_keep)
    (first
      | (go_at_call 37; (with_reducible refine (H_rmul.out _ _ _ (by first | exact Ri.below R1.out E.out (Nat.le_refl _) | exact Ri.drew R1.out) (by first | exact Ri.below R2.out E.out (Nat.le_refl _) | exact Ri.drew R2.out)).mono ?_); rintro e y ⟨v5, rfl, r5, b9⟩; have E := Lib.hid (show Below wc.heap.size wc y by first | exact chain E.out b9 | exact chain ((Below.refl _ _).drew) b9); have p0 := keep1 E.out k0; have p1 := keep1 E.out k1; have p2 := keep1 E.out k2; have p3 := keep1 E.out k3; have p4 := keep1 E.out k4; have p5 := keep1 E.out k5; have p6 := keep1 E.out k6; have p7 := keep1 E.out k7; have R5 := Lib.hid r5; obtain ⟨q5, bb5, o5, c5, rfl, rr5⟩ := r5; clear rr5; clear b9)
      | (go_at_call 30; (with_reducible refine (H_is1.out _ _ R5.out).mono ?_); rintro e y ⟨rfl, b9⟩; have E := Lib.hid (show Below wc.heap.size wc y by first | exact chain E.out b9 | exact chain ((Below.refl _ _).drew) b9); have p0 := keep1 E.out k0; have p1 := keep1 E.out k1; have p2 := keep1 E.out k2; have p3 := keep1 E.out k3; have p4 := keep1 E.out k4; have p5 := keep1 E.out k5; have p6 := keep1 E.out k6; have p7 := keep1 E.out k7;  clear b9)
      | (go_at_call 38; (with_reducible refine (H_rgcd.out _ _ _ (by first | exact Ri.below R1.out E.out (Nat.le_refl _) | exact Ri.drew R1.out) (by first | exact Ri.below R2.out E.out (Nat.le_refl _) | exact Ri.drew R2.out)).mono ?_); rintro e y ⟨v6, rfl, r6, b9⟩; have E := Lib.hid (show Below wc.heap.size wc y by first | exact chain E.out b9 | exact chain ((Below.refl _ _).drew) b9); have p0 := keep1 E.out k0; have p1 := keep1 E.out k1; have p2 := keep1 E.out k2; have p3 := keep1 E.out k3; have p4 := keep1 E.out k4; have p5 := keep1 E.out k5; have p6 := keep1 E.out k6; have p7 := keep1 E.out k7; have R6 := Lib.hid r6; obtain ⟨q6, bb6, o6, c6, rfl, rr6⟩ := r6; clear rr6; clear b9)
      | (go_at_call 30; (with_reducible refine (H_is2.out _ _ R6.out).mono ?_); rintro e y ⟨rfl, b9⟩; have E := Lib.hid (show Below wc.heap.size wc y by first | exact chain E.out b9 | exact chain ((Below.refl _ _).drew) b9); have p0 := keep1 E.out k0; have p1 := keep1 E.out k1; have p2 := keep1 E.out k2; have p3 := keep1 E.out k3; have p4 := keep1 E.out k4; have p5 := keep1 E.out k5; have p6 := keep1 E.out k6; have p7 := keep1 E.out k7;  clear b9)
      | fail)
  have D := Lib.hid (chain D.out E.out)
  have T5 := Lib.hid (T5.out.next E.out)
  have T7 := Lib.hid (T7.out.next E.out)
  have T8 := Lib.hid (T8.out.next E.out)
  have T10 := Lib.hid (T10.out.next E.out)
  have T12 := Lib.hid (T12.out.next E.out)
  have T13 := Lib.hid (T13.out.next E.out)
  have T14 := Lib.hid (T14.out.next E.out)
  have R1 := Lib.hid (Ri.below R1.out E.out (Nat.le_refl _))
  have R2 := Lib.hid (Ri.below R2.out E.out (Nat.le_refl _))
  clear E k0 k1 k2 k3 k4 k5 k6 k7 p0 p1 p2 p3 p4 p5 p6 p7
  obtain ⟨k4, k5, _⟩ := T13.out
  obtain ⟨k6, k7, _⟩ := T14.out
  go_wp2_with fail
  refine (H_rsign.out _ _ R2.out).mono ?_
  rintro e ys ⟨rfl, b9⟩
  have D := Lib.hid (chain D.out b9)
  have T5 := Lib.hid (T5.out.next b9)
  have T7 := Lib.hid (T7.out.next b9)
  have T8 := Lib.hid (T8.out.next b9)
  have T10 := Lib.hid (T10.out.next b9)
  have T12 := Lib.hid (T12.out.next b9)
  have T13 := Lib.hid (T13.out.next b9)
  have T14 := Lib.hid (T14.out.next b9)
  have R1 := Lib.hid (Ri.below R1.out b9 (Nat.le_refl _))
  have R2 := Lib.hid (Ri.below R2.out b9 (Nat.le_refl _))
  clear b9 k4 k5 k6 k7
  obtain ⟨k4, k5, _⟩ := T13.out
  obtain ⟨k6, k7, _⟩ := T14.out
  go_wp2_with fail
  refine (H_rquo.out _ _ _ R1.out R2.out).mono ?_
  rintro e y15 ⟨v7, v8, rfl, r7, r8, b9⟩
  have R7 := Lib.hid r7
  have R8 := Lib.hid r8
  obtain ⟨q7, bb7, o7, c7, rfl, rr7⟩ := r7
  obtain ⟨q8, bb8, o8, c8, rfl, rr8⟩ := r8
  clear rr7 rr8 k4 k5 k6 k7
  generalize (Nm.dg D9 xq.natAbs).length = lq at *
  generalize (Nm.dg D9 xr.natAbs).length = lr at *
  obtain ⟨u15, hu15⟩ : ∃ u : World, u = (y15.alloc (.cells #[.bool bxq, .slice q7 lq c7] 31)).alloc (.cells #[.bool bxr, .slice q8 lr c8] 31) := ⟨_, rfl⟩
  have E : Hid (Below ys.heap.size ys u15) := by rw [hu15]; exact (b9.alloc b9.size _).alloc (Nat.le_trans b9.size (by simp)) _
  have D := Lib.hid (chain D.out E.out)
  have T5 := Lib.hid (T5.out.next E.out)
  have T7 := Lib.hid (T7.out.next E.out)
  have T8 := Lib.hid (T8.out.next E.out)
  have T10 := Lib.hid (T10.out.next E.out)
  have T12 := Lib.hid (T12.out.next E.out)
  have T15 : Hid (ZC (.bool bxq) (.slice q7 lq c7) u15 y15.heap.size) := by rw [hu15]; exact (ZC.new rfl).alloc _
  have T16 : Hid (ZC (.bool bxr) (.slice q8 lr c8) u15 (y15.heap.size + 1)) := by rw [hu15]; exact ZC.new (by simp)
  have R7 : Hid (Rz u15 (.slice q7 lq c7) xq) := by rw [hu15]; exact Ri.allocd (Ri.allocd R7.out _) _
  have R8 : Hid (Rz u15 (.slice q8 lr c8) xr) := by rw [hu15]; exact Ri.allocd (Ri.allocd R8.out _) _
  have Hu15 := Lib.hid hu15
  clear hu15 b9 E
  obtain ⟨k6, k7, _⟩ := T7.out
  obtain ⟨k8, k9, _⟩ := T8.out
  obtain ⟨k10, k11, _⟩ := T15.out
  obtain ⟨k12, k13, _⟩ := T16.out
  go_upto_region 15 with (fail)
  rw [← Hu15.out]
  clear Hu15
  go_wp2_with fail
  refine (H_is3.out _ _ R7.out).mono ?_
  rintro e y16 ⟨rfl, b9⟩
  have D := Lib.hid (chain D.out b9)
  obtain ⟨k8, k9, _⟩ := T8.out.next b9
  obtain ⟨k12, k13, _⟩ := T16.out.next b9
  have R8 := Lib.hid (Ri.below R8.out b9 (Nat.le_refl _))
  clear b9 k6 k7 k10 k11
  go_wp2_with fail
  refine (H_is4.out _ _ R8.out).mono ?_
  rintro e y17 ⟨rfl, b9⟩
  have D := Lib.hid (chain D.out b9)
  clear b9
  go_wp2_with fail
  refine (H_known.out _).mono ?_
  rintro e x1 ⟨rfl, b1⟩
  have HZ := Lib.hid (chain hb0.out (chain D.out b1))
  clear b1
  go_wp2
  go_ret
  exact ⟨rfl, HZ.out⟩
end Go.Proofs.Ytlmklhffafcmmaa

/- WideInts gives true for every int and every wide integer (P1.2), and leaves its arguments as they were. No condition. -/
namespace Go.Proofs.Ytlmklhffafcmmaa
open Go.ChangeShapes Go.WideShapes Go.ChangeAt Go.RowKit Go.Joins
open Go.ChangeMaps (open_string shut_string)

theorem Try.own : ownKnob Try.prog.godebug = none := by kernel_rfl
theorem Try.cellsWide : Try.prog.cellsOf 23 = 2 := by kernel_rfl

set_option maxRecDepth 100000 in
/-- A wide integer that came in. -/
theorem open_wide {H : Type} {enc : TypeId × Value → H} {w : World} {base : Nat} {b0 : Nat} {spare : Nat → Bool} {held : Bool} {r : Reach} {v : Value} {d : DataW H} {p : List MemPlace}
    (hv : Value.okWide Try.prog w r b0 23 v) (h : DataW.Trod enc Try.prog w base spare held 23 v d p) :
    ∃ (a : Bool) (s : ByteArray), v = .agg #[.bool a, .string s] ∧ d = .agg [.lit (.bool a), .lit (.string s.data.toList)] ∧ p = [] ∧ s.size ≤ maxLen := by
  obtain ⟨c0, c1, y0, y1, m, rfl, rfl, rfl, hy0, hy1⟩ := open_agg2 Try.underlying23 (by kernel_rfl) Try.cellsWide hv h
  obtain ⟨a, e0, rfl⟩ := DataW.trod_bool Try.underlying4 hy0
  obtain ⟨s, e1, rfl, hs⟩ := DataW.trod_string Try.underlying9 hy1
  simp at e0 e1
  subst e0 e1
  exact ⟨a, s, rfl, rfl, rfl, hs⟩
theorem shut_wide {H : Type} {enc : TypeId × Value → H} {w : World} {base : Nat} {spare : Nat → Bool} {held : Bool} {a : Bool} {s : ByteArray} (hs : s.size ≤ maxLen) :
    DataW.Trod enc Try.prog w base spare held 23 (.agg #[.bool a, .string s]) (.agg [.lit (.bool a), .lit (.string s.data.toList)]) [] :=
  shut_agg2 (y0 := (.lit (.bool a), [])) (y1 := (.lit (.string s.data.toList), [])) Try.underlying23 (by kernel_rfl) Try.cellsWide ⟨1, by simp [DataW.trod, Try.underlying4]⟩ ⟨1, by simp [DataW.trod, Try.underlying9, hs]⟩

theorem ints_any (n : Int) (a : Bool) (s : ByteArray) (w : World) (h1 : -9223372036854775808 ≤ n) (h2 : n ≤ 9223372036854775807) :
    Calls Try.prog 4 #[.int .i64 n, .agg #[.bool a, .string s]] w (Ret (.bool true) w) := by
  by_cases hs : s.size ≤ 60
  · have hz : s.size ≤ 140737488351232 := by omega
    cases hv : vld a s with
    | false => exact ints_invalid n a s w h1 h2 hz hs hv
    | true =>
      by_cases g1 : sg a (bv s) < -9223372036854775808
      · exact ints_low n a s w h1 h2 hz hs hv g1
      · by_cases g2 : 9223372036854775807 < sg a (bv s)
        · exact ints_high n a s w h1 h2 hz hs hv g2
        · exact ints_in n a s w h1 h2 hz hs hv (by omega) (by omega)
  · exact ints_long n a s w h1 h2 hs

set_option maxRecDepth 100000 in
theorem ints_lifted (os : Os) (started : os.Started) (H : Type) (enc : TypeId × Value → H) :
    ReturnsInHanded {} Try.checked os 4 .any (Rows.wideIntsSpec.pre6 enc Try.prog Try.f4 Rows.wideIntsRow.domain false) (Rows.wideIntsSpec.post enc Try.prog Try.f4 false true false false) := by
  refine returnsInHanded_of_change (C := Try.checked) Try.own started (by kernel_rfl) Try.func4
    (ChangeSpec.witness6 (enc := enc) (C := Try.checked) false ⟨#[], #[.int .i64 0, .agg #[.bool false, .string ⟨#[]⟩]], []⟩ 8 (by kernel_rfl) (by kernel_rfl) (by kernel_rfl) (by kernel_rfl)) ?_
  intro W base args ds gs before hval0 hW hcnd _
  have hval : ∀ (j : Nat) t v, Try.f4.params[j]? = some t → args[j]? = some v → Value.okWide Try.prog W .any base t v := hval0
  have hW' := hW
  obtain ⟨p, q, hA0, hV, rfl, hfz, hnd⟩ := hW
  have hA : DataW.TrodAll enc Try.prog W 0 (fun _ => true) true Try.f4.params.toList args.toList ds p := hA0
  rw [Try.params4] at hA hval
  obtain ⟨v0, v1, d0, d1, p0, p1, rfl, rfl, rfl, h0, h1⟩ := trodAll_two hA
  obtain ⟨rfl, rfl⟩ := trodVars_none hV
  obtain ⟨n, rfl, rfl, rfl, wn⟩ := open_int Try.underlying3 (hval 0 3 v0 rfl rfl) h0
  obtain ⟨a, s, rfl, rfl, rfl, hs⟩ := open_wide (hval 1 23 v1 rfl rfl) h1
  clear hA0 hval0
  have bn := bounds_i64 wn
  refine (ints_any n a s W (by omega) (by omega)).mono fun e W' ⟨he, bel⟩ => ?_
  subst he
  exact ⟨_, rfl, _, _, _, [], _, [], hW', trodAll_mk1 (shut_bool Try.underlying4 _), trodAll_mk2 (shut_int Try.underlying3 wn) (shut_wide hs), rfl, bel.frame _, fun h => by cases h⟩

/-- The statement. -/
theorem ints_holds : Rows.WideIntsSaid :=
  OpenClaim.holds_of_wide 4 Try.f4 rfl rfl rfl rfl rfl rfl rfl ⟨rfl, rfl, rfl, rfl, rfl⟩ rfl rfl rfl rfl rfl (by kernel_rfl) Try.func4 (by kernel_rfl)
    (of_decide_eq_true (by kernel_rfl)) (by unfold Func.isWrapper; first | (rw [if_pos (by decide +kernel)]; kernel_rfl) | (rw [if_neg (by decide +kernel)]; exact ⟨rfl, rfl⟩))
    (fun os started H enc _ => ints_lifted os started H enc)
#print axioms ints_holds
end Go.Proofs.Ytlmklhffafcmmaa

/- WideProducts gives true for all pairs of wide integers (P1.4), and leaves its arguments as they were. No condition. -/
namespace Go.Proofs.Ytlmklhffafcmmaa
open Go.ChangeShapes Go.WideShapes Go.ChangeAt Go.RowKit Go.Joins
open Go.ChangeMaps (open_string shut_string)

theorem prods_any (a b : Bool) (s t : ByteArray) (w : World) : Calls Try.prog 6 #[.agg #[.bool a, .string s], .agg #[.bool b, .string t]] w (Ret (.bool true) w) := by
  by_cases hs : s.size ≤ 60 ∧ t.size ≤ 60
  · cases hv : vld a s with
    | false => exact prods_bad a b s t w hs.1 hs.2 (by rw [hv]; rfl)
    | true =>
      cases hv2 : vld b t with
      | false => exact prods_bad a b s t w hs.1 hs.2 (by rw [hv, hv2]; rfl)
      | true =>
        by_cases h0 : sg b (bv t) = 0
        · exact prods_zero a b s t w hs.1 hs.2 hv hv2 h0
        · exact prods_good a b s t w hs.1 hs.2 hv hv2 h0
  · exact prods_long a b s t w hs

set_option maxRecDepth 100000 in
theorem prods_lifted (os : Os) (started : os.Started) (H : Type) (enc : TypeId × Value → H) :
    ReturnsInHanded {} Try.checked os 6 .any (Rows.wideProductsSpec.pre6 enc Try.prog Try.f6 Rows.wideProductsRow.domain false) (Rows.wideProductsSpec.post enc Try.prog Try.f6 false true false false) := by
  refine returnsInHanded_of_change (C := Try.checked) Try.own started (by kernel_rfl) Try.func6
    (ChangeSpec.witness6 (enc := enc) (C := Try.checked) false ⟨#[], #[.agg #[.bool false, .string ⟨#[]⟩], .agg #[.bool false, .string ⟨#[]⟩]], []⟩ 8 (by kernel_rfl) (by kernel_rfl) (by kernel_rfl) (by kernel_rfl)) ?_
  intro W base args ds gs before hval0 hW hcnd _
  have hval : ∀ (j : Nat) t v, Try.f6.params[j]? = some t → args[j]? = some v → Value.okWide Try.prog W .any base t v := hval0
  have hW' := hW
  obtain ⟨p, q, hA0, hV, rfl, hfz, hnd⟩ := hW
  have hA : DataW.TrodAll enc Try.prog W 0 (fun _ => true) true Try.f6.params.toList args.toList ds p := hA0
  rw [Try.params6] at hA hval
  obtain ⟨v0, v1, d0, d1, p0, p1, rfl, rfl, rfl, h0, h1⟩ := trodAll_two hA
  obtain ⟨rfl, rfl⟩ := trodVars_none hV
  obtain ⟨a, s, rfl, rfl, rfl, hs⟩ := open_wide (hval 0 23 v0 rfl rfl) h0
  obtain ⟨b, t, rfl, rfl, rfl, ht⟩ := open_wide (hval 1 23 v1 rfl rfl) h1
  clear hA0 hval0
  refine (prods_any a b s t W).mono fun e W' ⟨he, bel⟩ => ?_
  subst he
  exact ⟨_, rfl, _, _, _, [], _, [], hW', trodAll_mk1 (shut_bool Try.underlying4 _), trodAll_mk2 (shut_wide hs) (shut_wide ht), rfl, bel.frame _, fun h => by cases h⟩

/-- The statement. -/
theorem prods_holds : Rows.WideProductsSaid :=
  OpenClaim.holds_of_wide 6 Try.f6 rfl rfl rfl rfl rfl rfl rfl ⟨rfl, rfl, rfl, rfl, rfl⟩ rfl rfl rfl rfl rfl (by kernel_rfl) Try.func6 (by kernel_rfl)
    (of_decide_eq_true (by kernel_rfl)) (by unfold Func.isWrapper; first | (rw [if_pos (by decide +kernel)]; kernel_rfl) | (rw [if_neg (by decide +kernel)]; exact ⟨rfl, rfl⟩))
    (fun os started H enc _ => prods_lifted os started H enc)
#print axioms prods_holds
end Go.Proofs.Ytlmklhffafcmmaa
