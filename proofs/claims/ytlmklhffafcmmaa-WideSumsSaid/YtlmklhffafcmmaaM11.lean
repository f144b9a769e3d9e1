/- WideSums gives true for all pairs of wide integers (P1.3), and leaves its arguments as they were. No condition. -/
import Derived.Test.YtlmklhffafcmmaaM10
import Derived.Test.YtlmklhffafcmmaaRows
import Derived.Test.YtlmklhffafcmmaaM9
import Derived.ProofKit
import Derived.OpenShut
import Derived.ShutString
import Derived.ChangeOld
import Derived.Below
import Derived.Lib.SmallJoins

/- The law WideSums gives true: both are valid. -/
namespace Go.Proofs.Ytlmklhffafcmmaa
open Go.RowKit

set_option maxRecDepth 100000 in
set_option maxHeartbeats 8000000 in
theorem sums_good (a b : Bool) (s t : ByteArray) (w : World) (z1 : s.size ≤ 60) (z2 : t.size ≤ 60) (hv : vld a s = true) (hv2 : vld b t = true) :
    Calls Try.prog 5 #[.agg #[.bool a, .string s], .agg #[.bool b, .string t]] w (Ret (.bool true) w) := by
  have H_known := Lib.hid known_true
  obtain ⟨w0, hw0⟩ : ∃ w0 : World, w0 = ((w.alloc (.cells #[.bool a, .string s] 23)).alloc (.cells #[.bool b, .string t] 23)).alloc (.cells #[.bool a, .string s, .bool b, .string t] 23) := ⟨_, rfl⟩
  have hb0 : Hid (Below w.heap.size w w0) := by rw [hw0]; exact (((Below.refl _ _).alloc (Nat.le_refl _) _).alloc (by simp) _).alloc (by simp; omega) _
  have I1 : Hid (ZC (.bool a) (.string s) w0 w.heap.size) := by rw [hw0]; exact ((ZC.new rfl).alloc _).alloc _
  have I2 : Hid (ZC (.bool b) (.string t) w0 (w.heap.size + 1)) := by rw [hw0]; exact (ZC.new (by simp)).alloc _
  have Hsz : Hid (w.heap.size + 3 ≤ w0.heap.size) := by rw [hw0]; show _ ≤ _; simp
  have HSH := short_any [(a, s), (b, t)] 2 (w.heap.size + 1 + 1) w0 rfl (by decide) (by rw [hw0]; have := WL.two ((w.alloc (.cells #[.bool a, .string s] 23)).alloc (.cells #[.bool b, .string t] 23)) a b s t 23; simpa using this)
  rw [short2_true z1 z2] at HSH
  have H_val2 := Lib.hid (fun g w h => valid_any [(a, s), (b, t)] 2 g w rfl (by decide) h (by intro x hx; simp at hx; rcases hx with rfl | rfl <;> (show _ ≤ _; simp; omega)))
  have H_val := Lib.hid (fun g w h => valid_any [(a, s)] 1 g w rfl (by decide) h (by intro x hx; simp at hx; subst hx; show _ ≤ _; simp; omega))
  have v2 : validL [(a, s), (b, t)] = true := by simp [validL, hv, hv2]
  rw [v2] at H_val2
  have v1 : validL [(a, s)] = true := by simp [validL, hv]
  rw [v1] at H_val
  have H_neg := Lib.hid (fun w => neg_z hv z1 w)
  have H_from := Lib.hid (fun w => rfrom_any a s w (by omega))
  have H_isn := Lib.hid (fun v w h => is_z (a := a) (b := b) z1 z2 (-(sg a (bv s))) (by rw [Int.natAbs_neg, sg_abs]; omega) v w h)
  have H_rneg := Lib.hid (fun v w h => rneg_int (sg a (bv s)) v w h)
  have H_add := Lib.hid (fun w => add_z hv hv2 z1 z2 w)
  have H_sub := Lib.hid (fun w => sub_z hv hv2 z1 z2 w)
  have H_from2 := Lib.hid (fun w => rfrom_any b t w (by omega))
  have H_is1 := Lib.hid (fun v w h => is_z (a := a) (b := b) z1 z2 (sg a (bv s) + sg b (bv t)) (by have := sg_abs a (bv s); have := sg_abs b (bv t); omega) v w h)
  have H_is2 := Lib.hid (fun v w h => is_z (a := a) (b := b) z1 z2 (sg a (bv s) - sg b (bv t)) (by have := sg_abs a (bv s); have := sg_abs b (bv t); omega) v w h)
  have H_radd := Lib.hid (fun v1 v2 w g1 g2 => radd_int (sg a (bv s)) (sg b (bv t)) v1 v2 w g1 g2 (lz60 z1) (lz60 z2))
  have H_rsub := Lib.hid (fun v1 v2 w g1 g2 => rsub_int (sg a (bv s)) (sg b (bv t)) v1 v2 w g1 g2 (lz60 z1) (lz60 z2))
  unfold BPost at H_is1 H_is2
  unfold IntPost at H_from2 H_radd H_rsub
  unfold iV at H_from2 H_radd H_rsub H_is1 H_is2
  unfold BPost at H_val H_val2 H_isn
  unfold IntPost at H_from H_rneg
  unfold iV at H_from H_rneg H_isn
  clear v1
  clear hv hv2 v2
  generalize sg a (bv s) = x at *
  generalize -x = nx at *
  generalize zb nx = nb at *
  generalize zs nx = ns at *
  generalize decide (x < 0) = bx at *
  generalize decide (nx < 0) = bnx at *
  generalize sg b (bv t) = y' at *
  generalize x + y' = xa at *
  generalize x - y' = xs at *
  generalize zb xa = ab at *
  generalize zs xa = as' at *
  generalize zb xs = sb at *
  generalize zs xs = ss at *
  generalize decide (y' < 0) = by' at *
  generalize decide (xa < 0) = bxy at *
  generalize decide (xs < 0) = bxz at *
  have HSh := Lib.hid HSH
  have Hw0 := Lib.hid hw0
  clear HSH hw0
  unfold Ret at *
  unfold BPost at HSh
  go_enter Try.func5, Try.ntmps5
  go_wp2_with fail
  rw [← Hw0.out]
  refine HSh.out.mono ?_
  rintro e x0 ⟨rfl, b0⟩
  have D := Lib.hid b0
  clear b0
  obtain ⟨k0, k1, _⟩ := I1.out.next D.out
  obtain ⟨k2, k3, _⟩ := I2.out.next D.out
  go_wp2_with fail
  skip
  refine (H_neg.out _).mono ?_
  rintro e y5 ⟨rfl, b9⟩
  obtain ⟨n0, n1, _⟩ := I1.out.next (chain D.out b9)
  obtain ⟨n2, n3, _⟩ := I2.out.next (chain D.out b9)
  have j1 : w.heap.size < y5.heap.size := World.block_lt_of_cell? _ _ n0
  have j2 : w.heap.size + 1 < y5.heap.size := World.block_lt_of_cell? _ _ n2
  have j3 : ¬ w.heap.size = y5.heap.size := Nat.ne_of_lt j1
  have j4 : ¬ w.heap.size + 1 = y5.heap.size := Nat.ne_of_lt j2
  obtain ⟨u5, hu5⟩ : ∃ u : World, u = y5.alloc (.cells #[.bool nb, .string ns] 23) := ⟨_, rfl⟩
  have E : Hid (Below x0.heap.size x0 u5) := by rw [hu5]; exact b9.alloc b9.size _
  have D := Lib.hid (chain D.out E.out)
  have T5 : Hid (ZC (.bool nb) (.string ns) u5 y5.heap.size) := by rw [hu5]; exact ZC.new rfl
  have Hu5 := Lib.hid hu5
  clear hu5 b9 E
  obtain ⟨k0, k1, _⟩ := I1.out.next D.out
  obtain ⟨k2, k3, _⟩ := I2.out.next D.out
  go_wp2_with fail
  rw [← Hu5.out]
  clear Hu5
  refine (H_add.out _).mono ?_
  rintro e y7 ⟨rfl, b9⟩
  obtain ⟨n0, n1, _⟩ := I1.out.next (chain D.out b9)
  obtain ⟨n2, n3, _⟩ := I2.out.next (chain D.out b9)
  have j1 : w.heap.size < y7.heap.size := World.block_lt_of_cell? _ _ n0
  have j2 : w.heap.size + 1 < y7.heap.size := World.block_lt_of_cell? _ _ n2
  have j3 : ¬ w.heap.size = y7.heap.size := Nat.ne_of_lt j1
  have j4 : ¬ w.heap.size + 1 = y7.heap.size := Nat.ne_of_lt j2
  obtain ⟨u7, hu7⟩ : ∃ u : World, u = y7.alloc (.cells #[.bool ab, .string as'] 23) := ⟨_, rfl⟩
  have E : Hid (Below u5.heap.size u5 u7) := by rw [hu7]; exact b9.alloc b9.size _
  have D := Lib.hid (chain D.out E.out)
  have T5 := Lib.hid (T5.out.next E.out)
  have T7 : Hid (ZC (.bool ab) (.string as') u7 y7.heap.size) := by rw [hu7]; exact ZC.new rfl
  have Hu7 := Lib.hid hu7
  clear hu7 b9 E
  obtain ⟨k0, k1, _⟩ := I1.out.next D.out
  obtain ⟨k2, k3, _⟩ := I2.out.next D.out
  go_wp2_with fail
  rw [← Hu7.out]
  clear Hu7
  refine (H_sub.out _).mono ?_
  rintro e y9 ⟨rfl, b9⟩
  obtain ⟨n0, n1, _⟩ := I1.out.next (chain D.out b9)
  obtain ⟨n2, n3, _⟩ := I2.out.next (chain D.out b9)
  have j1 : w.heap.size < y9.heap.size := World.block_lt_of_cell? _ _ n0
  have j2 : w.heap.size + 1 < y9.heap.size := World.block_lt_of_cell? _ _ n2
  have j3 : ¬ w.heap.size = y9.heap.size := Nat.ne_of_lt j1
  have j4 : ¬ w.heap.size + 1 = y9.heap.size := Nat.ne_of_lt j2
  obtain ⟨u9, hu9⟩ : ∃ u : World, u = y9.alloc (.cells #[.bool sb, .string ss] 23) := ⟨_, rfl⟩
  have E : Hid (Below u7.heap.size u7 u9) := by rw [hu9]; exact b9.alloc b9.size _
  have D := Lib.hid (chain D.out E.out)
  have T5 := Lib.hid (T5.out.next E.out)
  have T7 := Lib.hid (T7.out.next E.out)
  have T9 : Hid (ZC (.bool sb) (.string ss) u9 y9.heap.size) := by rw [hu9]; exact ZC.new rfl
  have Hu9 := Lib.hid hu9
  clear hu9 b9 E
  obtain ⟨k0, k1, _⟩ := I1.out.next D.out
  obtain ⟨k2, k3, _⟩ := I2.out.next D.out
  obtain ⟨k4, k5, _⟩ := T5.out
  have l1 : Hid (w.heap.size < u9.heap.size) := World.block_lt_of_cell? u9 _ k0
  have l2 : Hid (y5.heap.size < u9.heap.size) := World.block_lt_of_cell? u9 _ k4
  have l1b := l1.out
  have l2b := l2.out
  have g1 : ¬ w.heap.size = u9.heap.size := Nat.ne_of_lt l1b
  have g2 : ¬ u9.heap.size = w.heap.size := Nat.ne_of_gt l1b
  have g3 : ¬ y5.heap.size = u9.heap.size := Nat.ne_of_lt l2b
  have g4 : ¬ u9.heap.size = y5.heap.size := Nat.ne_of_gt l2b
  go_upto_region 6 with (fail)
  rw [← Hu9.out]
  clear Hu9
  go_cut [62] (fun sv wx => sv = .bool false ∧ Hid (Below u9.heap.size u9 wx))
  case first =>
    rename_i J0 K0 hRJ hMK
    have hud : undef = Value.tuple #[] := rfl
    first
    | (go_region_with
        (first
          | (go_at_call 29; (with_reducible refine (H_val.out _ _ (by first | exact WL.one _ _ _ _ | exact WL.drew (WL.one _ _ _ _))).mono ?_); rintro e y ⟨rfl, b9⟩; have E := Lib.hid (show Below u9.heap.size u9 y by first | exact chain (E.out.alloc E.out.size _) b9 | exact chain E.out b9 | exact chain ((below_one u9 _).drew) b9 | exact chain (((Below.refl u9.heap.size u9).drew).alloc (Nat.le_refl _) _) b9 | exact chain ((Below.refl u9.heap.size u9).drew) b9); have p0 := keep1 E.out k0; have p1 := keep1 E.out k1; have p4 := keep1 E.out k4; have p5 := keep1 E.out k5; have f1 : w.heap.size < y.heap.size := Nat.lt_of_lt_of_le l1.out E.out.size; have f2 : ¬ w.heap.size = y.heap.size := Nat.ne_of_lt f1; have f3 : ¬ y.heap.size = w.heap.size := Nat.ne_of_gt f1; have f4 : y5.heap.size < y.heap.size := Nat.lt_of_lt_of_le l2.out E.out.size; have f5 : ¬ y5.heap.size = y.heap.size := Nat.ne_of_lt f4; have f6 : ¬ y.heap.size = y5.heap.size := Nat.ne_of_gt f4;  clear b9)
          | (go_at_call 18; (with_reducible refine (H_from.out _).mono ?_); rintro e y ⟨v1, rfl, r1, b9⟩; have E := Lib.hid (show Below u9.heap.size u9 y by first | exact chain (E.out.alloc E.out.size _) b9 | exact chain E.out b9 | exact chain ((below_one u9 _).drew) b9 | exact chain (((Below.refl u9.heap.size u9).drew).alloc (Nat.le_refl _) _) b9 | exact chain ((Below.refl u9.heap.size u9).drew) b9); have p0 := keep1 E.out k0; have p1 := keep1 E.out k1; have p4 := keep1 E.out k4; have p5 := keep1 E.out k5; have f1 : w.heap.size < y.heap.size := Nat.lt_of_lt_of_le l1.out E.out.size; have f2 : ¬ w.heap.size = y.heap.size := Nat.ne_of_lt f1; have f3 : ¬ y.heap.size = w.heap.size := Nat.ne_of_gt f1; have f4 : y5.heap.size < y.heap.size := Nat.lt_of_lt_of_le l2.out E.out.size; have f5 : ¬ y5.heap.size = y.heap.size := Nat.ne_of_lt f4; have f6 : ¬ y.heap.size = y5.heap.size := Nat.ne_of_gt f4; have R1 := Lib.hid r1; obtain ⟨q1, bb1, o1, c1, rfl, rr1⟩ := r1; clear rr1; clear b9)
          | (go_at_call 31; (with_reducible refine (H_rneg.out _ _ R1.out).mono ?_); rintro e y ⟨v2, rfl, r2, b9⟩; have E := Lib.hid (show Below u9.heap.size u9 y by first | exact chain (E.out.alloc E.out.size _) b9 | exact chain E.out b9 | exact chain ((below_one u9 _).drew) b9 | exact chain (((Below.refl u9.heap.size u9).drew).alloc (Nat.le_refl _) _) b9 | exact chain ((Below.refl u9.heap.size u9).drew) b9); have p0 := keep1 E.out k0; have p1 := keep1 E.out k1; have p4 := keep1 E.out k4; have p5 := keep1 E.out k5; have f1 : w.heap.size < y.heap.size := Nat.lt_of_lt_of_le l1.out E.out.size; have f2 : ¬ w.heap.size = y.heap.size := Nat.ne_of_lt f1; have f3 : ¬ y.heap.size = w.heap.size := Nat.ne_of_gt f1; have f4 : y5.heap.size < y.heap.size := Nat.lt_of_lt_of_le l2.out E.out.size; have f5 : ¬ y5.heap.size = y.heap.size := Nat.ne_of_lt f4; have f6 : ¬ y.heap.size = y5.heap.size := Nat.ne_of_gt f4; have R2 := Lib.hid r2; obtain ⟨q2, bb2, o2, c2, rfl, rr2⟩ := r2; clear rr2; clear b9)
          | (go_at_call 30; (with_reducible refine (H_isn.out _ _ R2.out).mono ?_); rintro e y ⟨rfl, b9⟩; have E := Lib.hid (show Below u9.heap.size u9 y by first | exact chain (E.out.alloc E.out.size _) b9 | exact chain E.out b9 | exact chain ((below_one u9 _).drew) b9 | exact chain (((Below.refl u9.heap.size u9).drew).alloc (Nat.le_refl _) _) b9 | exact chain ((Below.refl u9.heap.size u9).drew) b9); have p0 := keep1 E.out k0; have p1 := keep1 E.out k1; have p4 := keep1 E.out k4; have p5 := keep1 E.out k5; have f1 : w.heap.size < y.heap.size := Nat.lt_of_lt_of_le l1.out E.out.size; have f2 : ¬ w.heap.size = y.heap.size := Nat.ne_of_lt f1; have f3 : ¬ y.heap.size = w.heap.size := Nat.ne_of_gt f1; have f4 : y5.heap.size < y.heap.size := Nat.lt_of_lt_of_le l2.out E.out.size; have f5 : ¬ y5.heap.size = y.heap.size := Nat.ne_of_lt f4; have f6 : ¬ y.heap.size = y5.heap.size := Nat.ne_of_gt f4;  clear b9)
          | fail))
    | fail
    all_goals
      refine hMK _ _ (Met.intro (hRJ _ _ ?_))
      (repeat apply Exists.intro)
      refine ⟨?_, rfl⟩
      exact ⟨rfl, E⟩
  obtain ⟨rfl, E⟩ := hcut
  obtain ⟨y, hy⟩ : ∃ y : World, y = wc := ⟨_, rfl⟩
  subst hy
  clear k0 k1 k4 k5 l1 l2 l1b l2b g1 g2 g3 g4
  have D := Lib.hid (chain D.out E.out)
  have T7 := Lib.hid (T7.out.next E.out)
  have T9 := Lib.hid (T9.out.next E.out)
  clear T5 E
  obtain ⟨k0, k1, _⟩ := I1.out.next D.out
  obtain ⟨k2, k3, _⟩ := I2.out.next D.out
  go_wp2_with fail
  refine (H_val2.out _ _ (WL.two _ _ _ _ _ _)).mono ?_
  rintro e yv ⟨rfl, b9⟩
  have E := Lib.hid (chain (below_one y _) b9)
  have D := Lib.hid (chain D.out E.out)
  have T7 := Lib.hid (T7.out.next E.out)
  have T9 := Lib.hid (T9.out.next E.out)
  clear b9 E
  obtain ⟨k0, k1, _⟩ := I1.out.next D.out
  obtain ⟨k2, k3, _⟩ := I2.out.next D.out
  obtain ⟨k4, k5, _⟩ := T7.out
  obtain ⟨k6, k7, _⟩ := T9.out
  have HSB : Hid (w.heap.size + 3 ≤ yv.heap.size) := Nat.le_trans Hsz.out D.out.size
  clear k4 k5 k6 k7
  go_upto_region 10 with (fail)
  obtain ⟨jba, jbb, jbc, jbd, jbe, jbf, jbg, jbh⟩ := far7 HSB.out
  go_cut [11, 12] (fun s7 s8 wx => ∃ (g7 g8 : Nat) (y1 y2 : Option Addr) (n1 c1 n2 c2 : Nat), s7 = .pointer (some ⟨g7, 0, none⟩) ∧ s8 = .pointer (some ⟨g8, 0, none⟩) ∧ Hid (CutI (.bool bx) (.bool by') (.slice y1 n1 c1) (.slice y2 n2 c2) (Nm.dg D9 x.natAbs) (Nm.dg D9 y'.natAbs) yv.heap.size yv wx g7 g8))
  case first =>
    rename_i J0 K0 hRJ hMK
    go_region_held3 (fun W' => W'.cell? ⟨w.heap.size, 0, none⟩ = some (.bool a) ∧ W'.cell? ⟨w.heap.size, 1, none⟩ = some (.string s) ∧ W'.cell? ⟨w.heap.size + 1, 0, none⟩ = some (.bool b) ∧ W'.cell? ⟨w.heap.size + 1, 1, none⟩ = some (.string t)) (go_keep)
      (first
        | (go_at_call 18; (with_reducible refine (H_from.out _).mono ?_); rintro e w1 ⟨v1, rfl, r1, b1⟩; (try (have b1 := undrew b1)); have d1 : Below yv.heap.size yv w1 := chain (by first | exact Below.refl _ _ | exact (Below.refl _ _).drew | exact below_one _ _ | exact below_two _ _ _ | exact ((Below.refl _ _).drew).alloc (Nat.le_refl _) _ | exact (((Below.refl _ _).drew).alloc (Nat.le_refl _) _).alloc (by simp) _) b1; have c1 : Below yv.heap.size yv w1 := d1; have p0 := keep1 c1 k0; have p1 := keep1 c1 k1; have p2 := keep1 c1 k2; have p3 := keep1 c1 k3; obtain ⟨j1a, j1b, j1c, j1d, j1e, j1f, j1g, j1h⟩ := far7 (show w.heap.size + 3 ≤ w1.heap.size from Nat.le_trans HSB.out c1.size); (try (have A0 := Lib.hid (ZC.made (g := yv.heap.size) rfl b1); obtain ⟨A0a, A0b, A0c, A0d⟩ := A0.out)); (try (have A0 := Lib.hid (ZC.made1 (g := yv.heap.size) rfl b1); have B0 := Lib.hid (ZC.made (g := yv.heap.size + 1) (by simp) b1); obtain ⟨A0a, A0b, A0c, A0d⟩ := A0.out; obtain ⟨B0a, B0b, B0c, B0d⟩ := B0.out)); (try (have L01 := Lib.hid (apart_b (g := yv.heap.size) rfl b1); obtain ⟨l01x, l01y, l01z⟩ := L01.out)); (try (have MM := Lib.hid (apart_b2 (g := yv.heap.size) rfl b1); have L01 := Lib.hid MM.out.1; have M01 := Lib.hid MM.out.2; clear MM; obtain ⟨l01x, l01y, l01z⟩ := L01.out; obtain ⟨m01x, m01y, m01z⟩ := M01.out)); have G1 := Lib.hid r1; obtain ⟨pp1, bb1, oo1, cc1, rfl, rr1⟩ := r1; clear rr1)
        | (go_at_call 18; (with_reducible refine (H_from2.out _).mono ?_); rintro e w2 ⟨v2, rfl, r2, b2⟩; (try (have b2 := undrew b2)); have d2 : Below w1.heap.size w1 w2 := chain (by first | exact Below.refl _ _ | exact (Below.refl _ _).drew | exact below_one _ _ | exact below_two _ _ _ | exact ((Below.refl _ _).drew).alloc (Nat.le_refl _) _ | exact (((Below.refl _ _).drew).alloc (Nat.le_refl _) _).alloc (by simp) _) b2; have c2 : Below yv.heap.size yv w2 := chain c1 d2; have p0 := keep1 c2 k0; have p1 := keep1 c2 k1; have p2 := keep1 c2 k2; have p3 := keep1 c2 k3; obtain ⟨j2a, j2b, j2c, j2d, j2e, j2f, j2g, j2h⟩ := far7 (show w.heap.size + 3 ≤ w2.heap.size from Nat.le_trans HSB.out c2.size); (try (have A1 := Lib.hid (ZC.made (g := w1.heap.size) rfl b2); obtain ⟨A1a, A1b, A1c, A1d⟩ := A1.out)); (try (have A1 := Lib.hid (ZC.made1 (g := w1.heap.size) rfl b2); have B1 := Lib.hid (ZC.made (g := w1.heap.size + 1) (by simp) b2); obtain ⟨A1a, A1b, A1c, A1d⟩ := A1.out; obtain ⟨B1a, B1b, B1c, B1d⟩ := B1.out)); (try (have A0 := Lib.hid (A0.out.next d2); obtain ⟨A0a, A0b, A0c, A0d⟩ := A0.out)); (try (have B0 := Lib.hid (B0.out.next d2); obtain ⟨B0a, B0b, B0c, B0d⟩ := B0.out)); (try (have L02 := Lib.hid (apart_t L01.out d2.size); obtain ⟨l02x, l02y, l02z⟩ := L02.out)); (try (have M02 := Lib.hid (apart_t M01.out d2.size); obtain ⟨m02x, m02y, m02z⟩ := M02.out)); (try (have L12 := Lib.hid (apart_b (g := w1.heap.size) rfl b2); obtain ⟨l12x, l12y, l12z⟩ := L12.out)); (try (have MM := Lib.hid (apart_b2 (g := w1.heap.size) rfl b2); have L12 := Lib.hid MM.out.1; have M12 := Lib.hid MM.out.2; clear MM; obtain ⟨l12x, l12y, l12z⟩ := L12.out; obtain ⟨m12x, m12y, m12z⟩ := M12.out)); have G2 := Lib.hid (And.intro (Ri.below G1.out d2 (Nat.le_refl _)) r2); obtain ⟨pp2, bb2, oo2, cc2, rfl, rr2⟩ := r2; clear rr2)
        | fail)
    all_goals
      obtain ⟨r1, r2⟩ := G2.out
      refine hMK _ _ (Met.intro (hRJ _ _ ?_))
      (repeat apply Exists.intro)
      refine ⟨?_, rfl⟩
      refine ⟨_, _, pp1, pp2, (Nm.dg D9 x.natAbs).length, cc1, (Nm.dg D9 y'.natAbs).length, cc2, rfl, rfl, ?_⟩
      show CutI (.bool bx) (.bool by') (.slice pp1 _ cc1) (.slice pp2 _ cc2) (Nm.dg D9 x.natAbs) (Nm.dg D9 y'.natAbs) yv.heap.size yv _ _ _
      have sA0 : yv.heap.size ≤ yv.heap.size := Nat.le_refl _
      have sB0 : yv.heap.size ≤ yv.heap.size + 1 := Nat.le_succ _
      have sA1 : yv.heap.size ≤ w1.heap.size := c1.size
      have sB1 : yv.heap.size ≤ w1.heap.size + 1 := Nat.le_succ_of_le sA1
      have sA2 : yv.heap.size ≤ w2.heap.size := c2.size
      have n0 : ¬ yv.heap.size = yv.heap.size + 1 := Nat.ne_of_lt (Nat.lt_succ_self _)
      have n1 : ¬ w1.heap.size = w1.heap.size + 1 := Nat.ne_of_lt (Nat.lt_succ_self _)
      have m0 : ¬ yv.heap.size + 1 = yv.heap.size := fun e => n0 e.symm
      have m1 : ¬ w1.heap.size + 1 = w1.heap.size := fun e => n1 e.symm
      first
        | with_reducible exact CutI.s1 r1 r2 c2 sA2
        | with_reducible exact CutI.s2 r1 r2 c2 sA2
        | with_reducible exact CutI.s3 A0.out sA0 r1 r2 c2 sA2
        | with_reducible exact CutI.s4 A0.out sA0 r1 r2 c2 sA2
        | with_reducible exact CutI.s3 A1.out sA1 r1 r2 c2 sA2
        | with_reducible exact CutI.s4 A1.out sA1 r1 r2 c2 sA2
        | with_reducible exact CutI.s3 B0.out sB0 r1 r2 c2 sA2
        | with_reducible exact CutI.s4 B0.out sB0 r1 r2 c2 sA2
        | with_reducible exact CutI.s3 B1.out sB1 r1 r2 c2 sA2
        | with_reducible exact CutI.s4 B1.out sB1 r1 r2 c2 sA2
        | with_reducible exact CutI.s5 A0.out sA0 B0.out sB0 n0 r1 r2 c2
        | with_reducible exact CutI.s5 B0.out sB0 A0.out sA0 m0 r1 r2 c2
        | with_reducible exact CutI.s5 A1.out sA1 B1.out sB1 n1 r1 r2 c2
        | with_reducible exact CutI.s5 B1.out sB1 A1.out sA1 m1 r1 r2 c2
        | with_reducible exact CutI.s5 A0.out sA0 A1.out sA1 l01x r1 r2 c2
        | with_reducible exact CutI.s5 A1.out sA1 A0.out sA0 l01y r1 r2 c2
        | fail
  obtain ⟨g7, g8, y1', y2', n1, c1, n2, c2, rfl, rfl, hcut⟩ := hcut
  obtain ⟨_, T11, T12, R1, R2, bxx⟩ := hcut.out
  have D := Lib.hid (chain D.out bxx)
  have T7 := Lib.hid (T7.out.next bxx)
  have T9 := Lib.hid (T9.out.next bxx)
  have R1 := Lib.hid R1
  have R2 := Lib.hid R2
  obtain ⟨k0, k1, _⟩ := T7.out
  obtain ⟨k2, k3, _⟩ := T9.out
  obtain ⟨k4, k5, _⟩ := T11
  obtain ⟨k6, k7, _⟩ := T12
  clear bxx hcut HSB jba jbb jbc jbd jbe jbf jbg jbh
  go_wp2_with fail
  go_region_held3 (fun W' => W'.cell? ⟨y7.heap.size, 0, none⟩ = some (.bool ab) ∧ W'.cell? ⟨y7.heap.size, 1, none⟩ = some (.string as') ∧ W'.cell? ⟨y9.heap.size, 0, none⟩ = some (.bool sb) ∧ W'.cell? ⟨y9.heap.size, 1, none⟩ = some (.string ss) ∧ W'.cell? ⟨g7, 0, none⟩ = some (.bool bx) ∧ W'.cell? ⟨g7, 1, none⟩ = some (.slice y1' n1 c1) ∧ W'.cell? ⟨g8, 0, none⟩ = some (.bool by') ∧ W'.cell? ⟨g8, 1, none⟩ = some (.slice y2' n2 c2)) (go_keep)
    (first
      | (go_at_call 32; (with_reducible refine (H_radd.out _ _ _ (by first | exact Ri.below R1.out E.out (Nat.le_refl _) | exact Ri.drew R1.out) (by first | exact Ri.below R2.out E.out (Nat.le_refl _) | exact Ri.drew R2.out)).mono ?_); rintro e y ⟨v5, rfl, r5, b9⟩; have E := Lib.hid (show Below wc.heap.size wc y by first | exact chain E.out b9 | exact chain ((Below.refl _ _).drew) b9); have p0 := keep1 E.out k0; have p1 := keep1 E.out k1; have p2 := keep1 E.out k2; have p3 := keep1 E.out k3; have p4 := keep1 E.out k4; have p5 := keep1 E.out k5; have p6 := keep1 E.out k6; have p7 := keep1 E.out k7; have R5 := Lib.hid r5; obtain ⟨q5, bb5, o5, c5, rfl, rr5⟩ := r5; clear rr5; clear b9)
      | (go_at_call 30; (with_reducible refine (H_is1.out _ _ R5.out).mono ?_); rintro e y ⟨rfl, b9⟩; have E := Lib.hid (show Below wc.heap.size wc y by first | exact chain E.out b9 | exact chain ((Below.refl _ _).drew) b9); have p0 := keep1 E.out k0; have p1 := keep1 E.out k1; have p2 := keep1 E.out k2; have p3 := keep1 E.out k3; have p4 := keep1 E.out k4; have p5 := keep1 E.out k5; have p6 := keep1 E.out k6; have p7 := keep1 E.out k7;  clear b9)
      | (go_at_call 33; (with_reducible refine (H_rsub.out _ _ _ (by first | exact Ri.below R1.out E.out (Nat.le_refl _) | exact Ri.drew R1.out) (by first | exact Ri.below R2.out E.out (Nat.le_refl _) | exact Ri.drew R2.out)).mono ?_); rintro e y ⟨v6, rfl, r6, b9⟩; have E := Lib.hid (show Below wc.heap.size wc y by first | exact chain E.out b9 | exact chain ((Below.refl _ _).drew) b9); have p0 := keep1 E.out k0; have p1 := keep1 E.out k1; have p2 := keep1 E.out k2; have p3 := keep1 E.out k3; have p4 := keep1 E.out k4; have p5 := keep1 E.out k5; have p6 := keep1 E.out k6; have p7 := keep1 E.out k7; have R6 := Lib.hid r6; obtain ⟨q6, bb6, o6, c6, rfl, rr6⟩ := r6; clear rr6; clear b9)
      | (go_at_call 30; (with_reducible refine (H_is2.out _ _ R6.out).mono ?_); rintro e y ⟨rfl, b9⟩; have E := Lib.hid (show Below wc.heap.size wc y by first | exact chain E.out b9 | exact chain ((Below.refl _ _).drew) b9); have p0 := keep1 E.out k0; have p1 := keep1 E.out k1; have p2 := keep1 E.out k2; have p3 := keep1 E.out k3; have p4 := keep1 E.out k4; have p5 := keep1 E.out k5; have p6 := keep1 E.out k6; have p7 := keep1 E.out k7;  clear b9)
      | (go_at_call 12; (with_reducible refine (H_known.out _).mono ?_); rintro e y ⟨rfl, b9⟩; have E := Lib.hid (show Below wc.heap.size wc y by first | exact chain E.out b9 | exact chain ((Below.refl _ _).drew) b9); have p0 := keep1 E.out k0; have p1 := keep1 E.out k1; have p2 := keep1 E.out k2; have p3 := keep1 E.out k3; have p4 := keep1 E.out k4; have p5 := keep1 E.out k5; have p6 := keep1 E.out k6; have p7 := keep1 E.out k7;  clear b9)
      | fail)
  have D := Lib.hid (chain D.out E.out)
  have HZ := Lib.hid (chain hb0.out D.out)
  go_wp2
  go_ret
  exact ⟨rfl, HZ.out⟩
end Go.Proofs.Ytlmklhffafcmmaa

/- WideInts gives true for every int and every wide integer (P1.2), and leaves its arguments as they were. No condition. -/
namespace Go.Proofs.Ytlmklhffafcmmaa
open Go.ChangeShapes Go.WideShapes Go.ChangeAt Go.RowKit Go.Joins
open Go.ChangeMaps (open_string shut_string)

theorem Try.own : ownKnob Try.prog.godebug = none := by kernel_rfl
theorem Try.cellsWide : Try.prog.cellsOf 23 = 2 := by kernel_rfl

set_option maxRecDepth 100000 in
/-- A wide integer that came in. -/
theorem open_wide {H : Type} {enc : TypeId × Value → H} {w : World} {base : Nat} {b0 : Nat} {spare : Nat → Bool} {held : Bool} {r : Reach} {v : Value} {d : DataW H} {p : List MemPlace}
    (hv : Value.okWide Try.prog w r b0 23 v) (h : DataW.Trod enc Try.prog w base spare held 23 v d p) :
    ∃ (a : Bool) (s : ByteArray), v = .agg #[.bool a, .string s] ∧ d = .agg [.lit (.bool a), .lit (.string s.data.toList)] ∧ p = [] ∧ s.size ≤ maxLen := by
  obtain ⟨c0, c1, y0, y1, m, rfl, rfl, rfl, hy0, hy1⟩ := open_agg2 Try.underlying23 (by kernel_rfl) Try.cellsWide hv h
  obtain ⟨a, e0, rfl⟩ := DataW.trod_bool Try.underlying4 hy0
  obtain ⟨s, e1, rfl, hs⟩ := DataW.trod_string Try.underlying9 hy1
  simp at e0 e1
  subst e0 e1
  exact ⟨a, s, rfl, rfl, rfl, hs⟩
theorem shut_wide {H : Type} {enc : TypeId × Value → H} {w : World} {base : Nat} {spare : Nat → Bool} {held : Bool} {a : Bool} {s : ByteArray} (hs : s.size ≤ maxLen) :
    DataW.Trod enc Try.prog w base spare held 23 (.agg #[.bool a, .string s]) (.agg [.lit (.bool a), .lit (.string s.data.toList)]) [] :=
  shut_agg2 (y0 := (.lit (.bool a), [])) (y1 := (.lit (.string s.data.toList), [])) Try.underlying23 (by kernel_rfl) Try.cellsWide ⟨1, by simp [DataW.trod, Try.underlying4]⟩ ⟨1, by simp [DataW.trod, Try.underlying9, hs]⟩

theorem ints_any (n : Int) (a : Bool) (s : ByteArray) (w : World) (h1 : -9223372036854775808 ≤ n) (h2 : n ≤ 9223372036854775807) :
    Calls Try.prog 4 #[.int .i64 n, .agg #[.bool a, .string s]] w (Ret (.bool true) w) := by
  by_cases hs : s.size ≤ 60
  · have hz : s.size ≤ 140737488351232 := by omega
    cases hv : vld a s with
    | false => exact ints_invalid n a s w h1 h2 hz hs hv
    | true =>
      by_cases g1 : sg a (bv s) < -9223372036854775808
      · exact ints_low n a s w h1 h2 hz hs hv g1
      · by_cases g2 : 9223372036854775807 < sg a (bv s)
        · exact ints_high n a s w h1 h2 hz hs hv g2
        · exact ints_in n a s w h1 h2 hz hs hv (by omega) (by omega)
  · exact ints_long n a s w h1 h2 hs

set_option maxRecDepth 100000 in
theorem ints_lifted (os : Os) (started : os.Started) (H : Type) (enc : TypeId × Value → H) :
    ReturnsInHanded {} Try.checked os 4 .any (Rows.wideIntsSpec.pre6 enc Try.prog Try.f4 Rows.wideIntsRow.domain false) (Rows.wideIntsSpec.post enc Try.prog Try.f4 false true false false) := by
  refine returnsInHanded_of_change (C := Try.checked) Try.own started (by kernel_rfl) Try.func4
    (ChangeSpec.witness6 (enc := enc) (C := Try.checked) false ⟨#[], #[.int .i64 0, .agg #[.bool false, .string ⟨#[]⟩]], []⟩ 8 (by kernel_rfl) (by kernel_rfl) (by kernel_rfl) (by kernel_rfl)) ?_
  intro W base args ds gs before hval0 hW hcnd _
  have hval : ∀ (j : Nat) t v, Try.f4.params[j]? = some t → args[j]? = some v → Value.okWide Try.prog W .any base t v := hval0
  have hW' := hW
  obtain ⟨p, q, hA0, hV, rfl, hfz, hnd⟩ := hW
  have hA : DataW.TrodAll enc Try.prog W 0 (fun _ => true) true Try.f4.params.toList args.toList ds p := hA0
  rw [Try.params4] at hA hval
  obtain ⟨v0, v1, d0, d1, p0, p1, rfl, rfl, rfl, h0, h1⟩ := trodAll_two hA
  obtain ⟨rfl, rfl⟩ := trodVars_none hV
  obtain ⟨n, rfl, rfl, rfl, wn⟩ := open_int Try.underlying3 (hval 0 3 v0 rfl rfl) h0
  obtain ⟨a, s, rfl, rfl, rfl, hs⟩ := open_wide (hval 1 23 v1 rfl rfl) h1
  clear hA0 hval0
  have bn := bounds_i64 wn
  refine (ints_any n a s W (by omega) (by omega)).mono fun e W' ⟨he, bel⟩ => ?_
  subst he
  exact ⟨_, rfl, _, _, _, [], _, [], hW', trodAll_mk1 (shut_bool Try.underlying4 _), trodAll_mk2 (shut_int Try.underlying3 wn) (shut_wide hs), rfl, bel.frame _, fun h => by cases h⟩

/-- The statement. -/
theorem ints_holds : Rows.WideIntsSaid :=
  OpenClaim.holds_of_wide 4 Try.f4 rfl rfl rfl rfl rfl rfl rfl ⟨rfl, rfl, rfl, rfl, rfl⟩ rfl rfl rfl rfl rfl (by kernel_rfl) Try.func4 (by kernel_rfl)
    (of_decide_eq_true (by kernel_rfl)) (by unfold Func.isWrapper; first | (rw [if_pos (by decide +kernel)]; kernel_rfl) | (rw [if_neg (by decide +kernel)]; exact ⟨rfl, rfl⟩))
    (fun os started H enc _ => ints_lifted os started H enc)
#print axioms ints_holds
end Go.Proofs.Ytlmklhffafcmmaa

/- WideSums gives true for all pairs of wide integers (P1.3), and leaves its arguments as they were. No condition. -/
namespace Go.Proofs.Ytlmklhffafcmmaa
open Go.ChangeShapes Go.WideShapes Go.ChangeAt Go.RowKit Go.Joins
open Go.ChangeMaps (open_string shut_string)

theorem sums_any (a b : Bool) (s t : ByteArray) (w : World) : Calls Try.prog 5 #[.agg #[.bool a, .string s], .agg #[.bool b, .string t]] w (Ret (.bool true) w) := by
  by_cases hs : s.size ≤ 60 ∧ t.size ≤ 60
  · cases hv : vld a s with
    | false => exact sums_bad1 a b s t w hs.1 hs.2 hv
    | true =>
      cases hv2 : vld b t with
      | false => exact sums_bad2 a b s t w hs.1 hs.2 hv hv2
      | true => exact sums_good a b s t w hs.1 hs.2 hv hv2
  · exact sums_long a b s t w hs

set_option maxRecDepth 100000 in
theorem sums_lifted (os : Os) (started : os.Started) (H : Type) (enc : TypeId × Value → H) :
    ReturnsInHanded {} Try.checked os 5 .any (Rows.wideSumsSpec.pre6 enc Try.prog Try.f5 Rows.wideSumsRow.domain false) (Rows.wideSumsSpec.post enc Try.prog Try.f5 false true false false) := by
  refine returnsInHanded_of_change (C := Try.checked) Try.own started (by kernel_rfl) Try.func5
    (ChangeSpec.witness6 (enc := enc) (C := Try.checked) false ⟨#[], #[.agg #[.bool false, .string ⟨#[]⟩], .agg #[.bool false, .string ⟨#[]⟩]], []⟩ 8 (by kernel_rfl) (by kernel_rfl) (by kernel_rfl) (by kernel_rfl)) ?_
  intro W base args ds gs before hval0 hW hcnd _
  have hval : ∀ (j : Nat) t v, Try.f5.params[j]? = some t → args[j]? = some v → Value.okWide Try.prog W .any base t v := hval0
  have hW' := hW
  obtain ⟨p, q, hA0, hV, rfl, hfz, hnd⟩ := hW
  have hA : DataW.TrodAll enc Try.prog W 0 (fun _ => true) true Try.f5.params.toList args.toList ds p := hA0
  rw [Try.params5] at hA hval
  obtain ⟨v0, v1, d0, d1, p0, p1, rfl, rfl, rfl, h0, h1⟩ := trodAll_two hA
  obtain ⟨rfl, rfl⟩ := trodVars_none hV
  obtain ⟨a, s, rfl, rfl, rfl, hs⟩ := open_wide (hval 0 23 v0 rfl rfl) h0
  obtain ⟨b, t, rfl, rfl, rfl, ht⟩ := open_wide (hval 1 23 v1 rfl rfl) h1
  clear hA0 hval0
  refine (sums_any a b s t W).mono fun e W' ⟨he, bel⟩ => ?_
  subst he
  exact ⟨_, rfl, _, _, _, [], _, [], hW', trodAll_mk1 (shut_bool Try.underlying4 _), trodAll_mk2 (shut_wide hs) (shut_wide ht), rfl, bel.frame _, fun h => by cases h⟩

/-- The statement. -/
theorem sums_holds : Rows.WideSumsSaid :=
  OpenClaim.holds_of_wide 5 Try.f5 rfl rfl rfl rfl rfl rfl rfl ⟨rfl, rfl, rfl, rfl, rfl⟩ rfl rfl rfl rfl rfl (by kernel_rfl) Try.func5 (by kernel_rfl)
    (of_decide_eq_true (by kernel_rfl)) (by unfold Func.isWrapper; first | (rw [if_pos (by decide +kernel)]; kernel_rfl) | (rw [if_neg (by decide +kernel)]; exact ⟨rfl, rfl⟩))
    (fun os started H enc _ => sums_lifted os started H enc)
#print axioms sums_holds
end Go.Proofs.Ytlmklhffafcmmaa
