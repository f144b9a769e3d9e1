/- What the theorem leans on, part V1. -/
import Derived.Test.YtepddegphdlbeaaGreatG6
import Derived.Test.YtepddegphdlbeaaGreatV0
import Derived.Test.YtepddegphdlbeaaGreatG5
import Derived.Test.YtepddegphdlbeaaGreatG4
import Derived.Test.YtepddegphdlbeaaGreatG2
import Derived.Test.YtepddegphdlbeaaGreatG1
import Derived.Test.YtepddegphdlbeaaGreatG0
import Derived.Test.YtepddegphdlbeaaGreatProg
import Derived.WalkKit
import Derived.WalkSpells
import Derived.WalkLawsBesides
import Derived.Lib.Hide
import Derived.Deep.QuietTactic
import Derived.BigQuiet
import Derived.Shelf.Small.Bits
import Derived.Shelf.Small.Wraps
import Derived.Shelf.Strconv.Itoa0
import Derived.Shelf.Bits.Mul64
import Derived.Ground.Names2Prog
import Derived.Shelf.Slices.SearchI
import Derived.Shelf.Spec.BitsCarry
import Derived.Deep.LoopGhost
import Derived.Deep.RegionHeld3
import Derived.Laws.AppendOwnNone
import Derived.Test.YtepddegphdlbeaaGreatG3
import Derived.Deep.DeepCutAuto
import Derived.Test.YtepddegphdlbeaaGreatG8
import Derived.Test.YtepddegphdlbeaaGreatG7
import Derived.Below
import Derived.Test.YtepddegphdlbeaaGreatG9
import Derived.Test.YtepddegphdlbeaaGreatG12
import Derived.Test.YtepddegphdlbeaaGreatG11
import Derived.Test.YtepddegphdlbeaaGreatG10
import Derived.RangeFuncNested
import Derived.RangeFuncBound
import Derived.RangeFuncCalls
import Derived.RangeFuncLeaves
import Derived.Shelf.Abstract
import Derived.Shelf.RegionOpen
import Derived.OwnWalkIn
import Derived.TacticsInMore
import Derived.LoopNIn
import Derived.LoopIn
import Derived.OrdersIn
import Derived.Deep.RegionHeld
import Derived.Maps.AppendAt
import Derived.Lib.SliceRun
import Derived.IntWalk
import Derived.Test.YtepddegphdlbeaaGreatG13
import Derived.Test.YtepddegphdlbeaaGreatG16
import Derived.Test.YtepddegphdlbeaaGreatG15
import Derived.Laws.StructEq
import Derived.Test.YtepddegphdlbeaaGreatG14
import Derived.ProofKit
import Derived.OpenShut
import Derived.ShutString
import Derived.ChangeOld
import Derived.Lib.SmallJoins
set_option maxRecDepth 100000
set_option maxHeartbeats 16000000
set_option linter.all false
namespace Go.Proofs.YtepddegphdlbeaaGreat
open Go.RowKit
theorem k'ac (x y : Int) (v1 v2 : Value) (w : World) (k : Nat) (hk : k ≤ 90000) (hx : x.natAbs < D9 ^ k) (hy : y.natAbs < D9 ^ k) (h1 : Rz w v1 x) (h2 : Rz w v2 y) (hs : y < 0) (hr : x - q0 x y * y < 0) :
 Calls Tryz.prog 98 #[iV x v1, iV y v2] w (QIPost (q0 x y + 1) (x - (q0 x y + 1) * y) w) := by
 have lx := lenD hx
 have ly := lenD hy
 have H_over := i' (fun v1 v2 w g1 g2 => k'71 v1 v2 x.natAbs y.natAbs w (by omega) g1 g2 (by omega) (by omega))
 have H_made := i' (fun v w g => (k'6q (decide (x < 0) != decide (y < 0)) v (x.natAbs / y.natAbs) w g).mono (k'78 (z := q0 x y) rfl))
 have lq := Nat.le_trans (lenD (Nat.lt_of_le_of_lt (q0_le x y) hx)) (by omega : k ≤ 1000000)
 have lqy := Nat.le_trans (lenD (Nat.lt_of_le_of_lt (k'a9 x y) hx)) (by omega : k ≤ 1000000)
 have H_mul := i' (fun v1 v2 w g1 g2 => k'7b (q0 x y) y v1 v2 w g1 g2 lq (by omega))
 have H_sub := i' (fun v1 v2 w g1 g2 => k'7d x (q0 x y * y) v1 v2 w g1 g2 (by omega) lqy)
 have H_sgn := i' (fun v w g => k'7a (x - q0 x y * y) v w g)
 have H_sgy := i' (fun v w g => k'7a y v w g)
 rw [Int.sign_eq_neg_one_of_neg hs] at H_sgy
 rw [Int.sign_eq_neg_one_of_neg hr] at H_sgn
 obtain ⟨zi, hzi⟩ : ∃ z : Int, z = 1 := ⟨_, rfl⟩
 have H_n1 : Hid (∀ w, Calls Tryz.prog 74 #[.int .i64 1] w (IntPost zi w)) := by rw [hzi]; exact fun w => k'8f 1 w (by decide) (by decide)
 have H_adj0 : ∀ z : Int, z = 1 → ∀ v1 v2 w, Rz w v1 (q0 x y) → Rz w v2 z → Calls Tryz.prog 82 #[iV (q0 x y) v1, iV z v2] w (IntPost (q0 x y + 1) w) := by
  intro z hz v1 v2 w g1 g2
  subst hz
  exact k'7c (q0 x y) 1 v1 v2 w g1 g2 lq (Nat.le_trans (lenD (k := 3) (by decide)) (by decide))
 have H_adj := i' (H_adj0 zi hzi)
 clear H_adj0
 have lq1 : (Nm.dg D9 (q0 x y + 1).natAbs).length ≤ 1000000 := by
  have a1 := q0_le x y
  refine Nat.le_trans (lenD (k := k + 1) (twice ?_)) (by omega)
  have : 0 < D9 ^ k := Nat.pow_pos D90
  omega
 have lqy1 : (Nm.dg D9 ((q0 x y + 1) * y).natAbs).length ≤ 1000000 := by
  have a1 := k'a9 x y
  rw [Int.add_mul, Int.one_mul]
  refine Nat.le_trans (lenD (k := k + 1) (twice ?_)) (by omega)
  omega
 have H_mul2 := i' (fun v1 v2 w g1 g2 => k'7b (q0 x y + 1) y v1 v2 w g1 g2 lq1 (by omega))
 have H_sub2 := i' (fun v1 v2 w g1 g2 => k'7d x ((q0 x y + 1) * y) v1 v2 w g1 g2 (by omega) lqy1)
 clear hzi lq1 lqy1
 obtain ⟨sb, hsb⟩ : ∃ sb, (decide (x < 0) != decide (y < 0)) = sb := ⟨_, rfl⟩
 rw [hsb] at H_made
 have HX := i' h1
 have HY := i' h2
 clear lq lqy lx ly hx hy hk hr
 clear hs
 unfold IntPost iV at H_made H_mul H_sub H_adj H_mul2 H_sub2
 unfold IntPost at H_n1
 unfold iV at H_n1
 unfold iV at H_sgn
 unfold iV at H_sgy
 unfold SignPost at H_sgn H_sgy
 unfold OverPost at H_over
 unfold QIPost iV
 generalize x.natAbs / y.natAbs = dd at *
 generalize x.natAbs % y.natAbs = de at *
 obtain ⟨bx, hbx⟩ : ∃ b, decide (x < 0) = b := ⟨_, rfl⟩
 obtain ⟨by', hby⟩ : ∃ b, decide (y < 0) = b := ⟨_, rfl⟩
 rw [hbx, hby] at hsb
 have hsb2 : (!(bx == by')) = sb := hsb
 rw [hby] at H_mul H_mul2 H_sgy
 rw [hbx] at H_sub H_sub2 ⊢
 rw [hby]
 clear hbx hby hsb
 generalize hr1 : x - (q0 x y + 1) * y = r1 at *
 generalize (q0 x y + 1) * y = q1y at *
 generalize hq1 : q0 x y + 1 = q1 at *
 clear hr1 hq1
 generalize x - q0 x y * y = r at *
 generalize q0 x y * y = qy at *
 generalize q0 x y = q at *
 generalize decide (qy < 0) = bqy at *
 generalize decide (q1y < 0) = bq1y at *
 generalize decide (zi < 0) = bzi at *
 obtain ⟨bq1, hbq1⟩ : ∃ b, decide (q1 < 0) = b := ⟨_, rfl⟩
 obtain ⟨br1, hbr1⟩ : ∃ b, decide (r1 < 0) = b := ⟨_, rfl⟩
 rw [hbq1] at H_adj H_mul2
 rw [hbr1] at H_sub2
 have HQQ := i' hbq1
 have HRR := i' hbr1
 clear hbq1 hbr1
 obtain ⟨bq, hbq⟩ : ∃ b, decide (q < 0) = b := ⟨_, rfl⟩
 rw [hbq] at H_made H_mul H_adj
 obtain ⟨pa, ba, oa, ca, rfl, hra⟩ := h1
 obtain ⟨pb, bb, ob, cb, rfl, hrb⟩ := h2
 clear hra hrb
 generalize (Nm.dg D9 x.natAbs).length = la at *
 generalize (Nm.dg D9 y.natAbs).length = lb at *
 obtain ⟨w0, hw0⟩ : ∃ w0 : World, w0 = (((w.alloc (.cells #[.bool bx, .slice pa la ca] 52)).alloc (.cells #[.bool by', .slice pb lb cb] 52)).alloc (.cells #[.bool false, .slice none 0 0] 52)).alloc (.cells #[.bool false, .slice none 0 0] 52) := ⟨_, rfl⟩
 have hb0 : Hid (Below w.heap.size w w0) := by rw [hw0]; exact ((((Below.refl _ _).alloc (Nat.le_refl _) _).alloc (by simp) _).alloc (by simp; omega) _).alloc (by simp; omega) _
 have I1 : Hid (ZC (.bool bx) (.slice pa la ca) w0 w.heap.size) := by rw [hw0]; exact (((ZC.new rfl).alloc _).alloc _).alloc _
 have I2 : Hid (ZC (.bool by') (.slice pb lb cb) w0 (w.heap.size + 1)) := by rw [hw0]; exact ((ZC.new (by simp)).alloc _).alloc _
 have I3 : Hid (ZC (.bool false) (.slice none 0 0) w0 (w.heap.size + 1 + 1)) := by rw [hw0]; exact (ZC.new (by simp)).alloc _
 have I4 : Hid (ZC (.bool false) (.slice none 0 0) w0 (w.heap.size + 1 + 1 + 1)) := by rw [hw0]; exact ZC.new (by simp)
 have Hsz : Hid (w.heap.size + 4 ≤ w0.heap.size) := by rw [hw0]; show _ ≤ _; simp
 have RX := i' (Ri.below HX.out hb0.out (Nat.le_refl _))
 have RY := i' (Ri.below HY.out hb0.out (Nat.le_refl _))
 have Hw0 := i' hw0
 clear hw0 HX HY
 go_enter Tryz.func98, Tryz.ntmps98
 go_wp2_with fail
 rw [← Hw0.out]
 clear Hw0
 refine (H_over.out _ _ _ RX.out RY.out).mono ?_
 rintro e y1 ⟨vq, vr, rfl, rq, rr, b1⟩
 have D := i' b1
 obtain ⟨k0, k1, _⟩ := I1.out.next D.out
 obtain ⟨k2, k3, _⟩ := I2.out.next D.out
 have RQ := i' rq
 obtain ⟨pq, bq', oq, cq, rfl, hrq⟩ := rq
 clear b1 rr hrq
 go_wp2_with fail
 refine (H_made.out _ _ RQ.out).mono ?_
 rintro e y2 ⟨v8, rfl, r8, b2⟩
 have D := i' (chain D.out b2)
 obtain ⟨u2, hu2⟩ : ∃ u : World, u = y2.alloc (.cells #[.bool bq, v8] 52) := ⟨_, rfl⟩
 have R8 : Hid (Rz u2 v8 q) := by rw [hu2]; exact Ri.allocd r8 _
 have T8 : Hid (ZC (.bool bq) v8 u2 y2.heap.size) := by rw [hu2]; exact ZC.new rfl
 have hw8 : Hid (w0.heap.size ≤ y2.heap.size) := D.out.size
 have hy2 : Hid (w.heap.size + 4 ≤ y2.heap.size) := Nat.le_trans Hsz.out D.out.size
 have D : Hid (Below w0.heap.size w0 u2) := by rw [hu2]; exact D.out.alloc D.out.size _
 obtain ⟨p8, bb8, o8, c8, rfl, rr8⟩ := r8
 clear rr8
 generalize (Nm.dg D9 q.natAbs).length = l8 at *
 obtain ⟨k0, k1, _⟩ := I1.out.next D.out
 obtain ⟨k2, k3, _⟩ := I2.out.next D.out
 obtain ⟨k4, k5, _⟩ := T8.out
 have HSB : Hid (w.heap.size + 4 ≤ u2.heap.size) := Nat.le_trans Hsz.out D.out.size
 have hu2g : Hid (y2.heap.size < u2.heap.size) := T8.out.lt
 have Hu2 := i' hu2
 clear b2 hu2 RQ
 have RXu := i' (Ri.below RX.out D.out (Nat.le_refl _))
 have RYu := i' (Ri.below RY.out D.out (Nat.le_refl _))
 go_upto_region 3 with (fail)
 rw [← Hu2.out]
 clear Hu2
 obtain ⟨ja, jb, jc, jd, je, jf, jg, jh, ji, jj, jk, jl⟩ := far8q HSB.out
 have jm := hu2g.out
 have jn : ¬ y2.heap.size = u2.heap.size := Nat.ne_of_lt jm
 have jo : ¬ u2.heap.size = y2.heap.size := Nat.ne_of_gt jm
 go_cut [9] (fun s9 wx => ∃ (g9 : Nat) (p9 : Option Addr) (n9 c9 : Nat), s9 = .pointer (some ⟨g9, 0, none⟩) ∧ Hid (CutO (decide (r < 0)) (.slice p9 n9 c9) (Nm.dg D9 r.natAbs) u2.heap.size u2 wx g9))
 case first =>
  rename_i J0 K0 hRJ hMK
  go_region_held3 (fun W' => W'.cell? ⟨w.heap.size, 0, none⟩ = some (.bool bx) ∧ W'.cell? ⟨w.heap.size, 1, none⟩ = some (.slice pa la ca) ∧ W'.cell? ⟨w.heap.size + 1, 0, none⟩ = some (.bool by') ∧ W'.cell? ⟨w.heap.size + 1, 1, none⟩ = some (.slice pb lb cb) ∧ W'.cell? ⟨y2.heap.size, 0, none⟩ = some (.bool bq) ∧ W'.cell? ⟨y2.heap.size, 1, none⟩ = some (.slice p8 l8 c8)) (go_keep)
   (first
    | (go_at_call 83; (with_reducible refine (H_mul.out _ _ _ (by first | exact Ri.drew R8.out | exact Ri.allocd (Ri.drew R8.out) _ | exact Ri.drew (Ri.allocd R8.out _)) (by first | exact Ri.drew RYu.out | exact Ri.allocd (Ri.drew RYu.out) _ | exact Ri.drew (Ri.allocd RYu.out _))).mono ?_); rintro e w1 ⟨vm, rfl, rz1, bz1⟩; (try (have bz1 := k'5b bz1)); have d1 : Below u2.heap.size u2 w1 := chain (by first | exact Below.refl _ _ | exact (Below.refl _ _).drew | exact k'56 _ _ | exact ((Below.refl _ _).drew).alloc (Nat.le_refl _) _) bz1; have e1 : Below u2.heap.size u2 w1 := d1; have p0 := keep1 e1 k0; have p1 := keep1 e1 k1; have p2 := keep1 e1 k2; have p3 := keep1 e1 k3; have p4 := keep1 e1 k4; have p5 := keep1 e1 k5; obtain ⟨j1a, j1b, j1c, j1d, j1e, j1f, j1g, j1h, j1i, j1j, j1k, j1l⟩ := far8q (Nat.le_trans HSB.out e1.size); have j1m := Nat.lt_of_lt_of_le hu2g.out e1.size; have j1n : ¬ y2.heap.size = w1.heap.size := Nat.ne_of_lt j1m; have j1o : ¬ w1.heap.size = y2.heap.size := Nat.ne_of_gt j1m; (try (have A0 := i' (ZC.made (g := u2.heap.size) rfl bz1); obtain ⟨A0a, A0b, A0c, A0d⟩ := A0.out)); (try (have L01 := i' (k'58 (g := u2.heap.size) rfl bz1); obtain ⟨l01x, l01y, l01z⟩ := L01.out)); have G1 := i' rz1; obtain ⟨pr1, br1, or1, cr1, rfl, rr1⟩ := rz1; clear rr1)
    | (go_at_call 117; (with_reducible refine (H_sub.out _ _ _ (by first | exact Ri.below RXu.out e1 (Nat.le_refl _) | exact Ri.allocd (Ri.below RXu.out e1 (Nat.le_refl _)) _) (by first | exact G1.out | exact Ri.allocd G1.out _)).mono ?_); rintro e w2 ⟨vs, rfl, rz2, bz2⟩; (try (have bz2 := k'5b bz2)); have d2 : Below w1.heap.size w1 w2 := chain (by first | exact Below.refl _ _ | exact (Below.refl _ _).drew | exact k'56 _ _ | exact ((Below.refl _ _).drew).alloc (Nat.le_refl _) _) bz2; have e2 : Below u2.heap.size u2 w2 := chain e1 d2; have p0 := keep1 e2 k0; have p1 := keep1 e2 k1; have p2 := keep1 e2 k2; have p3 := keep1 e2 k3; have p4 := keep1 e2 k4; have p5 := keep1 e2 k5; obtain ⟨j2a, j2b, j2c, j2d, j2e, j2f, j2g, j2h, j2i, j2j, j2k, j2l⟩ := far8q (Nat.le_trans HSB.out e2.size); have j2m := Nat.lt_of_lt_of_le hu2g.out e2.size; have j2n : ¬ y2.heap.size = w2.heap.size := Nat.ne_of_lt j2m; have j2o : ¬ w2.heap.size = y2.heap.size := Nat.ne_of_gt j2m; (try (have A1 := i' (ZC.made (g := w1.heap.size) rfl bz2); obtain ⟨A1a, A1b, A1c, A1d⟩ := A1.out)); (try (have A0 := i' (A0.out.next d2); obtain ⟨A0a, A0b, A0c, A0d⟩ := A0.out)); (try (have L02 := i' (k'5a L01.out d2.size); obtain ⟨l02x, l02y, l02z⟩ := L02.out)); (try (have L12 := i' (k'58 (g := w1.heap.size) rfl bz2); obtain ⟨l12x, l12y, l12z⟩ := L12.out)); have G2 := i' rz2; obtain ⟨pr2, br2, or2, cr2, rfl, rr2⟩ := rz2; clear rr2)
    | fail)
  all_goals
   refine hMK _ _ (Met.intro (hRJ _ _ ?_))
   (repeat apply Exists.intro)
   refine ⟨?_, rfl⟩
   refine ⟨_, pr2, (Nm.dg D9 r.natAbs).length, cr2, rfl, ?_⟩
   show CutO _ (.slice pr2 _ cr2) _ u2.heap.size u2 _ _
   have sA0 : u2.heap.size ≤ u2.heap.size := Nat.le_refl _
   have sA1 : u2.heap.size ≤ w1.heap.size := e1.size
   have sA2 : u2.heap.size ≤ w2.heap.size := e2.size
   first
    | with_reducible exact CutO.k1 G2.out e2 sA2
    | with_reducible exact CutO.k2 A0.out sA0 G2.out e2
    | with_reducible exact CutO.k2 A1.out sA1 G2.out e2
    | fail
 obtain ⟨g9, p9, n9, c9, rfl, hcut⟩ := hcut
 obtain ⟨hg9, t9, r9, b9⟩ := hcut.out
 have D := i' (chain D.out b9)
 have T8 := i' (T8.out.next b9)
 have R8 := i' (Ri.below R8.out b9 (Nat.le_refl _))
 have T9 := i' t9
 have R9 := i' r9
 have hg9' : Hid (w.heap.size + 4 ≤ g9) := Nat.le_trans HSB.out hg9
 have hg9w : Hid (w0.heap.size ≤ g9) := Nat.le_trans hw8.out (Nat.le_of_lt (Nat.lt_of_lt_of_le hu2g.out hg9))
 have hg89 : Hid (y2.heap.size < g9) := Nat.lt_of_lt_of_le hu2g.out hg9
 obtain ⟨k0, k1, _⟩ := T9.out
 clear hcut hg9 t9 r9 b9 ja jb jc jd je jf jg jh ji jj jk jl jm jn jo k2 k3 k4 k5
 obtain ⟨br, hbr⟩ : ∃ b, decide (r < 0) = b := ⟨_, rfl⟩
 rw [hbr] at T9 k0 H_sgn
 go_wp2_with fail
 refine (H_sgn.out _ _ R9.out).mono ?_
 rintro e y3 ⟨rfl, b3⟩
 have D := i' (chain D.out b3)
 have T8 := i' (T8.out.next b3)
 have R8 := i' (Ri.below R8.out b3 (Nat.le_refl _))
 have T9 := i' (T9.out.next b3)
 have R9 := i' (Ri.below R9.out b3 (Nat.le_refl _))
 clear b3 k0 k1
 obtain ⟨k2, k3, _⟩ := I2.out.next D.out
 have HRRn := i' hbr
 clear hbr hbq
 go_wp2_with fail
 refine (H_sgy.out _ _ (Ri.below RY.out D.out (Nat.le_refl _))).mono ?_
 rintro e y4 ⟨rfl, b4⟩
 have D := i' (chain D.out b4)
 have T8 := i' (T8.out.next b4)
 have R8 := i' (Ri.below R8.out b4 (Nat.le_refl _))
 have T9 := i' (T9.out.next b4)
 clear b4 k2 k3 R9
 obtain ⟨k4, k5, k6, k7⟩ := T8.out
 have R8d := i' (Ri.drew R8.out)
 go_upto_region 7 with (fail)
 go_cut [41] (fun _ wx => ∃ (p : Option Addr) (n c : Nat), Hid (ZC (.bool bq1) (.slice p n c) wx y2.heap.size) ∧ Hid (Rz wx (.slice p n c) q1) ∧ Hid (ZC (.bool br) (.slice p9 n9 c9) wx g9) ∧ Hid (Below w0.heap.size w0 wx))
 case first =>
  rename_i J0 K0 hRJ hMK
  go_region_with
   (first
    | (go_at_call 74; (with_reducible refine (H_n1.out _).mono ?_); rintro e z1 ⟨v1, rfl, r1, b1⟩; have d1 := chain ((Below.refl y4.heap.size y4).drew) b1; have p4 := keep1 d1 k4; have p5 := keep1 d1 k5; have G1 := i' (And.intro (Ri.below R8d.out b1 (Nat.le_refl _)) r1); have D1 := i' d1; obtain ⟨pq1, bb1, oo1, cc1, rfl, rr1⟩ := r1; clear rr1 b1)
    | (go_at_call 82; (with_reducible refine (H_adj.out _ _ _ G1.out.1 G1.out.2).mono ?_); rintro e z2 ⟨v2, rfl, r2, b2⟩; have d2 := chain D1.out b2; have p4 := keep1 d2 k4; have p5 := keep1 d2 k5; have p6 := keepf d2 k4 k6; have p7 := keepf d2 k5 k7; have G2 := i' r2; have D2 := i' d2; obtain ⟨pq2, bb2, oo2, cq2, rfl, rr2⟩ := r2; clear rr2 b2)
    | fail)
  all_goals
   have ZZ := i' (T8.out.next D2.out)
   refine hMK _ _ (Met.intro (hRJ _ _ ?_))
   (repeat apply Exists.intro)
   refine ⟨?_, rfl⟩
   exact ⟨pq2, _, cq2, ZZ.out.set, G2.out.setq ZZ.out _ _, (T9.out.next D2.out).other (Nat.ne_of_gt hg89.out), k'5c (chain D.out D2.out) (by have := hy2.out; have := Hsz.out; have := hw8.out; omega) _ _⟩
 obtain ⟨p8', n8', c8', T8, R8, T9, D⟩ := hcut
 clear k4 k5 k6 k7 R8d
 have R8d := i' (Ri.drew R8.out)
 have RXu := i' (Ri.below RX.out D.out (Nat.le_refl _))
 have RYd := i' (Ri.drew (Ri.below RY.out D.out (Nat.le_refl _)))
 obtain ⟨k0, k1, _⟩ := I1.out.next D.out
 obtain ⟨k2, k3, _⟩ := I2.out.next D.out
 obtain ⟨k4, k5, _⟩ := T8.out
 obtain ⟨k6, k7, k8, k9⟩ := T9.out
 obtain ⟨y5, hy5⟩ : ∃ y5 : World, y5 = wc := ⟨_, rfl⟩
 subst hy5
 go_upto_region 8 with (fail)
 go_cut [46] (fun _ wx => ∃ (p : Option Addr) (n c : Nat), Hid (ZC (.bool br1) (.slice p n c) wx g9) ∧ Hid (Rz wx (.slice p n c) r1) ∧ Hid (ZC (.bool bq1) (.slice p8' n8' c8') wx y2.heap.size) ∧ Hid (Rz wx (.slice p8' n8' c8') q1) ∧ Hid (Below w0.heap.size w0 wx))
 case first =>
  rename_i J0 K0 hRJ hMK
  go_region_with
   (first
    | (go_at_call 83; (with_reducible refine (H_mul2.out _ _ _ R8d.out RYd.out).mono ?_); rintro e z1 ⟨v1, rfl, rz1, b1⟩; have d1 := chain ((Below.refl y5.heap.size y5).drew) b1; have q0 := keep1 d1 k0; have q1 := keep1 d1 k1; have q2 := keep1 d1 k2; have q3 := keep1 d1 k3; have q4 := keep1 d1 k4; have q5 := keep1 d1 k5; have q6 := keep1 d1 k6; have q7 := keep1 d1 k7; have G1 := i' (And.intro (Ri.below RXu.out d1 (Nat.le_refl _)) rz1); have D1 := i' d1; obtain ⟨pq1, bb1, oo1, cc1, rfl, rr1⟩ := rz1; clear rr1 b1)
    | (go_at_call 117; (with_reducible refine (H_sub2.out _ _ _ G1.out.1 G1.out.2).mono ?_); rintro e z2 ⟨v2, rfl, rz2, b2⟩; have d2 := chain D1.out b2; have q0 := keep1 d2 k0; have q1 := keep1 d2 k1; have q2 := keep1 d2 k2; have q3 := keep1 d2 k3; have q4 := keep1 d2 k4; have q5 := keep1 d2 k5; have q6 := keep1 d2 k6; have q7 := keep1 d2 k7; have p8 := keepf d2 k6 k8; have p9' := keepf d2 k7 k9; have G2 := i' rz2; have D2 := i' d2; obtain ⟨pq2, bb2, oo2, cq2, rfl, rr2⟩ := rz2; clear rr2 b2)
    | fail)
  all_goals
   have ZZ := i' (T9.out.next D2.out)
   refine hMK _ _ (Met.intro (hRJ _ _ ?_))
   (repeat apply Exists.intro)
   refine ⟨?_, rfl⟩
   exact ⟨pq2, _, cq2, ZZ.out.set, G2.out.setq ZZ.out _ _, (T8.out.next D2.out).other (Nat.ne_of_lt hg89.out), (Ri.below R8.out D2.out (Nat.le_refl _)).setq ZZ.out _ _, k'5c (chain D.out D2.out) (by have := hg9w.out; omega) _ _⟩
 obtain ⟨p9', n9', c9', T9, R9, T8, R8, D⟩ := hcut
 clear k0 k1 k2 k3 k4 k5 k6 k7 k8 k9 R8d RXu RYd
 obtain ⟨f0, f1, f2, f3⟩ := T8.out
 obtain ⟨f4, f5, f6, f7⟩ := T9.out
 obtain ⟨m0, m1, m2, m3⟩ := I3.out.next D.out
 obtain ⟨n0, n1, n2, n3⟩ := I4.out.next D.out
 obtain ⟨ja, jb, jc, jd, je, jf, jg, jh, _⟩ := far8q hy2.out
 obtain ⟨qa, qb, qc, qd, qe, qf, qg, qh, _⟩ := far8q hg9'.out
 have i5 := (I4.out.next D.out).other (g2 := w.heap.size + 1 + 1) (u := .bool bq1) (v := (.slice p8' n8' c8')) (by omega)
 have HZ := i' ((k'5c (k'5c (chain hb0.out D.out) (g := w.heap.size + 1 + 1) (by omega) (.bool bq1) (.slice p8' n8' c8')) (g := w.heap.size + 1 + 1 + 1) (by omega) (.bool br1) (.slice p9' n9' c9')).drew)
 have RQf := i' (Ri.drew ((R8.out.setq (I3.out.next D.out) (.bool bq1) (.slice p8' n8' c8')).setq i5 (.bool br1) (.slice p9' n9' c9')))
 have RRf := i' (Ri.drew ((R9.out.setq (I3.out.next D.out) (.bool bq1) (.slice p8' n8' c8')).setq i5 (.bool br1) (.slice p9' n9' c9')))
 clear i5
 go_wp2_with fail
 go_region
 go_wp2
 exact bodyPost_ret (v := .tuple #[.agg #[.bool bq1, (.slice p8' n8' c8')], .agg #[.bool br1, (.slice p9' n9' c9')]]) (by simp [results, Tryz.results98, go_sem, m0, m1, n0, n1]) rfl ⟨_, _, by rw [HQQ.out, HRR.out], RQf.out, RRf.out, HZ.out⟩
theorem k'ad (x y : Int) (v1 v2 : Value) (w : World) (k : Nat) (hk : k ≤ 90000) (hx : x.natAbs < D9 ^ k) (hy : y.natAbs < D9 ^ k) (h1 : Rz w v1 x) (h2 : Rz w v2 y) (hy0 : y ≠ 0) :
 Calls Tryz.prog 98 #[iV x v1, iV y v2] w (QIPost (x / y) (x % y) w) := by
 rcases Int.lt_or_le (x - q0 x y * y) 0 with hr | hr
 ·rcases Int.lt_or_gt_of_ne hy0 with hs | hs
  ·have h := k'ac x y v1 v2 w k hk hx hy h1 h2 hs hr
   obtain ⟨e1, e2⟩ := k'a8 hs hr
   rwa [e2, e1] at h
  ·have h := k'ab x y v1 v2 w k hk hx hy h1 h2 hs hr
   obtain ⟨e1, e2⟩ := k'a7 hs hr
   rwa [e2, e1] at h
 ·have h := k'aa x y v1 v2 w k hk hx hy h1 h2 hy0 hr
  obtain ⟨e1, e2⟩ := k'a6 hy0 hr
  rwa [e2, e1] at h
theorem k'dd {p : List Int} {us : List Value} (h : us.length = p.length) : (rv p us).length = p.length * 2 := by
 induction p generalizing us with
 | nil => cases us with
  | nil => rfl
  | cons u us => simp at h
 | cons z p ih =>
  cases us with
  | nil => simp at h
  | cons u us => simp only [rv, List.length_cons] at h ⊢; rw [ih (by omega)]; omega
theorem k'dn (w : World) {v : Value} {L : List (Bool × ByteArray)} (h : Rw w v L) : Rl (w.alloc (.cells #[v] 23)) (.slice (some ⟨w.heap.size, 0, none⟩) 1 1) [L] :=
 ⟨w.heap.size, 0, 1, rfl, fun k hk => by
  obtain rfl : k = 0 := by simp at hk; omega
  exact ⟨v, by simp [go_sem], h.below ((Below.refl _ _).alloc (Nat.le_refl _) _)⟩⟩
theorem k'dw {p : List Int} (h : shP (zl p) = true) (hp : p.length ≤ 25) : p.length ≤ 14 := by
 unfold shP lenOK at h
 rw [Bool.and_eq_true, decide_eq_true_eq, k'cc] at h
 omega
end Go.Proofs.YtepddegphdlbeaaGreat
namespace Go.Proofs.YtepddegphdlbeaaGreat
namespace Pl
theorem k'h3 (a : Int) (L : List Int) (x : Int) (n : Nat) : evs (a :: L) x (n + 1) = a + x * evs L x n := by
 induction n with
 | zero => simp [evs, cf_cons_zero]
 | succ n ih =>
  rw [evs, ih, evs, cf_cons_succ, Int.pow_succ]; grind
theorem evs_all (L : List Int) (x : Int) : evs L x L.length = ev L x := by
 induction L with
 | nil => rfl
 | cons a L ih => rw [List.length_cons, k'h3, ih, ev]
end Pl
end Go.Proofs.YtepddegphdlbeaaGreat
namespace Go.Proofs.YtepddegphdlbeaaGreat
open Go.RowKit
theorem k'h6 (w : World) : Rz w (.slice none 0 0) 0 := by
 have h := Ri.nil w
 exact h
theorem k'h8 (n d : Int) (v1 v2 : Value) (w : World) (k : Nat) (hk : k ≤ 90000) (hn : n.natAbs < D9 ^ k) (hd : d.natAbs < D9 ^ k) (h0 : d < 0) (h1 : Rz w v1 n) (h2 : Rz w v2 d) :
 Calls Tryz.prog 106 #[iV n v1, iV d v2] w (RQPost (n / lg n d) (d / lg n d) w) := by
 obtain ⟨G, hG⟩ : ∃ G : Int, ((Nat.gcd n.natAbs d.natAbs : Nat) : Int) = G := ⟨_, rfl⟩
 obtain ⟨G2, hG2⟩ : ∃ G2 : Int, lg n d = G2 := ⟨_, rfl⟩
 have hGG : G2 = -G := by rw [← hG2, ← hG]; unfold lg; rw [if_pos h0]
 have hgp : 0 < Nat.gcd n.natAbs d.natAbs := Nat.gcd_pos_of_pos_right _ (by omega)
 have hgl : Nat.gcd n.natAbs d.natAbs ≤ d.natAbs := Nat.gcd_le_right _ (by omega)
 have hG0 : G2 ≠ 0 := by omega
 have hGk : G2.natAbs < D9 ^ k := by omega
 have H_gcd : Hid (∀ v1 v2 w, Rz w v1 n → Rz w v2 d → Calls Tryz.prog 97 #[iV n v1, iV d v2] w (IntPost G w)) := fun v1 v2 w h1 h2 => by
  have h := k'7j n d v1 v2 w h1 h2 (Nat.le_trans (len9 hn) (by omega)) (Nat.le_trans (len9 hd) (by omega))
  rwa [hG] at h
 have H_sign : Hid (∀ v w, Rz w v d → Calls Tryz.prog 50 #[iV d v] w (SignPost (-1) w)) := fun v w h => by
  have h5 := k'7a d v w h
  rwa [show d.sign = -1 from Int.sign_eq_neg_one_of_neg h0] at h5
 have H_neg : Hid (∀ v w, Rz w v G → Calls Tryz.prog 136 #[iV G v] w (IntPost G2 w)) := fun v w h => by
  have h5 := k'79 G v w h
  rwa [← hGG] at h5
 have H_q1 := i' (fun v1 v2 w g1 g2 => k'ad n G2 v1 v2 w k hk hn hGk g1 g2 hG0)
 have H_q2 := i' (fun v1 v2 w g1 g2 => k'ad d G2 v1 v2 w k hk hd hGk g1 g2 hG0)
 have R1 : Hid (Rz w v1 n) := h1
 have R2 : Hid (Rz w v2 d) := h2
 rw [hG2]
 clear hG hG2 hGG hgp hgl hG0 hGk hn hd h0 hk
 obtain ⟨p1, b1, o1, c1, rfl, hr1⟩ := h1
 obtain ⟨p2, b2, o2, c2, rfl, hr2⟩ := h2
 clear hr1 hr2
 obtain ⟨z1, hz1⟩ : ∃ z, n / G2 = z := ⟨_, rfl⟩
 obtain ⟨z2, hz2⟩ : ∃ z, d / G2 = z := ⟨_, rfl⟩
 rw [hz1] at H_q1 ⊢
 rw [hz2] at H_q2 ⊢
 unfold QIPost at H_q1 H_q2
 unfold IntPost at H_gcd  H_neg
 unfold SignPost at H_sign
 unfold RQPost
 unfold iV at *
 generalize n % G2 = m1 at *
 generalize d % G2 = m2 at *
 clear hz1 hz2
 obtain ⟨bn, hbn⟩ : ∃ b, decide (n < 0) = b := ⟨_, rfl⟩
 obtain ⟨bd, hbd⟩ : ∃ b, decide (d < 0) = b := ⟨_, rfl⟩
 obtain ⟨bz1, hbz1⟩ : ∃ b, decide (z1 < 0) = b := ⟨_, rfl⟩
 obtain ⟨bz2, hbz2⟩ : ∃ b, decide (z2 < 0) = b := ⟨_, rfl⟩
 unfold qV
 rw [hbz1, hbz2]
 rw [hbn] at H_gcd H_q1 ⊢
 rw [hbd] at H_gcd H_sign H_q2 ⊢
 rw [hbz1] at H_q1
 rw [hbz2] at H_q2
 clear hbn hbd hbz1 hbz2
 generalize (Nm.dg D9 n.natAbs).length = l1 at *
 generalize (Nm.dg D9 d.natAbs).length = l2 at *
 generalize decide (G < 0) = bg at *
 generalize decide (G2 < 0) = bg2 at *
 generalize decide (m1 < 0) = bm1 at *
 generalize decide (m2 < 0) = bm2 at *
 obtain ⟨w0, hw0⟩ : ∃ w0 : World, w0 = ((w.alloc (.cells #[.bool bn, .slice p1 l1 c1] 52)).alloc (.cells #[.bool bd, .slice p2 l2 c2] 52)).alloc (.cells #[.bool false, .slice none 0 0, .bool false, .slice none 0 0] 66) := ⟨_, rfl⟩
 have hb0 : Hid (Below w.heap.size w w0) := by rw [hw0]; exact (((Below.refl _ _).alloc (Nat.le_refl _) _).alloc (by simp) _).alloc (by simp; omega) _
 have I1 : Hid (ZC (.bool bn) (.slice p1 l1 c1) w0 w.heap.size) := by rw [hw0]; exact ((ZC.new rfl).alloc _).alloc _
 have I2 : Hid (ZC (.bool bd) (.slice p2 l2 c2) w0 (w.heap.size + 1)) := by rw [hw0]; exact (ZC.new (by simp)).alloc _
 have I3 : Hid (ZC4 (.bool false) (.slice none 0 0) (.bool false) (.slice none 0 0) w0 (w.heap.size + 1 + 1)) := by
  rw [hw0]; have := ZC4.made0 (x := .bool false) (y := .slice none 0 0) (z := .bool false) (u := .slice none 0 0) (t := 66) ((w.alloc (.cells #[.bool bn, .slice p1 l1 c1] 52)).alloc (.cells #[.bool bd, .slice p2 l2 c2] 52)); show ZC4 _ _ _ _ _ _; simpa using this
 have R1 : Hid (Rz w0 (.slice p1 l1 c1) n) := Ri.below R1.out hb0.out (Nat.le_refl _)
 have R2 : Hid (Rz w0 (.slice p2 l2 c2) d) := Ri.below R2.out hb0.out (Nat.le_refl _)
 have Hw0 := i' hw0
 clear hw0
 go_enter Tryz.func106, Tryz.ntmps106
 go_wp2_with fail
 rw [← Hw0.out]
 refine (H_gcd.out _ _ _ R1.out R2.out).mono ?_
 rintro e y5 ⟨v5, rfl, r5, b9⟩
 obtain ⟨p5, q5, o5, c5, rfl, hr5⟩ := r5
 have R5 : Hid (Rz y5 (.slice p5 (Nm.dg D9 G.natAbs).length c5) G) := ⟨p5, q5, o5, c5, rfl, hr5⟩
 clear hr5
 generalize (Nm.dg D9 G.natAbs).length = l5 at *
 obtain ⟨u5, hu5⟩ : ∃ u : World, u = y5.alloc (.cells #[.bool bg, .slice p5 l5 c5] 52) := ⟨_, rfl⟩
 have D : Hid (Below w0.heap.size w0 u5) := by rw [hu5]; exact b9.alloc b9.size _
 have T5 : Hid (ZC (.bool bg) (.slice p5 l5 c5) u5 y5.heap.size) := by rw [hu5]; exact ZC.new rfl
 have R5 : Hid (Rz u5 (.slice p5 l5 c5) G) := by rw [hu5]; exact R5.out.allocd _
 have hy5 : Hid (w0.heap.size ≤ y5.heap.size) := b9.size
 have Hu5 := i' hu5
 clear hu5 b9
 go_upto_region 2 with (fail)
 rw [← Hu5.out]
 clear Hu5
 obtain ⟨k2, k3, _⟩ := I2.out.next D.out
 go_wp2_with fail
 refine (H_sign.out _ _ (Ri.below R2.out D.out (Nat.le_refl _))).mono ?_
 rintro e ys ⟨rfl, b9⟩
 have T5 := i' (T5.out.next b9)
 have R5 : Hid (Rz ys (.slice p5 l5 c5) G) := Ri.below R5.out b9 (Nat.le_refl _)
 have D := i' (chain D.out b9)
 clear b9 k2 k3
 obtain ⟨k4, k5, k4f, k5f⟩ := T5.out
 go_wp2_with fail
 refine (H_neg.out _ _ R5.out).mono ?_
 rintro e y7 ⟨v7, rfl, r7, b9⟩
 obtain ⟨p7, q7, o7, c7, rfl, hr7⟩ := r7
 have R7 : Hid (Rz y7 (.slice p7 (Nm.dg D9 G2.natAbs).length c7) G2) := ⟨p7, q7, o7, c7, rfl, hr7⟩
 clear hr7
 generalize (Nm.dg D9 G2.natAbs).length = l7 at *
 have T5 := i' (T5.out.next b9)
 have D7 := chain D.out b9
 obtain ⟨m4, m5, m4f, m5f⟩ := T5.out
 obtain ⟨u7, hu7⟩ : ∃ u : World, u = (y7.setCell ⟨y5.heap.size, 0, none⟩ (.bool bg2)).setCell ⟨y5.heap.size, 1, none⟩ (.slice p7 l7 c7) := ⟨_, rfl⟩
 have D : Hid (Below w0.heap.size w0 u7) := by rw [hu7]; exact k'5c D7 hy5.out _ _
 have T5 : Hid (ZC (.bool bg2) (.slice p7 l7 c7) u7 y5.heap.size) := by rw [hu7]; exact T5.out.set
 have R5 : Hid (Rz u7 (.slice p7 l7 c7) G2) := by rw [hu7]; exact R7.out.set2 m4 m5 (fun _ => by simp)
 have Hu7 := i' hu7
 clear hu7 b9 D7 R7 k4 k5 k4f k5f
 go_upto_region 4 with (fail)
 rw [← Hu7.out]
 clear Hu7 m4 m5 m4f m5f
 obtain ⟨k0, k1, _⟩ := I1.out.next D.out
 obtain ⟨k4, k5, _⟩ := T5.out
 go_wp2_with fail
 refine (H_q1.out _ _ _ (Ri.below R1.out D.out (Nat.le_refl _)) R5.out).mono ?_
 rintro e y6 ⟨v6, x6, rfl, r6, s6, b9⟩
 obtain ⟨p6, q6, o6, c6, rfl, hr6⟩ := r6
 obtain ⟨p6x, q6x, o6x, c6x, rfl, hs6⟩ := s6
 have RR6 : Hid (Rz y6 (.slice p6 (Nm.dg D9 z1.natAbs).length c6) z1) := ⟨p6, q6, o6, c6, rfl, hr6⟩
 clear hr6 hs6
 generalize (Nm.dg D9 z1.natAbs).length = l6 at *
 generalize (Nm.dg D9 m1.natAbs).length = l6x at *
 obtain ⟨u6, hu6⟩ : ∃ u : World, u = (y6.alloc (.cells #[.bool bz1, .slice p6 l6 c6] 52)).alloc (.cells #[.bool bm1, .slice p6x l6x c6x] 52) := ⟨_, rfl⟩
 have E : Hid (Below u7.heap.size u7 u6) := by rw [hu6]; exact (b9.alloc b9.size _).alloc (by simp; exact Nat.le_succ_of_le b9.size) _
 have D := i' (chain D.out E.out)
 have T5 := i' (T5.out.next E.out)
 have R5 := i' (Ri.below R5.out E.out (Nat.le_refl _))
 have T6 : Hid (ZC (.bool bz1) (.slice p6 l6 c6) u6 y6.heap.size) := by rw [hu6]; exact (ZC.new rfl).alloc _
 have RR6 : Hid (Rz u6 (.slice p6 l6 c6) z1) := by rw [hu6]; exact (RR6.out.allocd _).allocd _
 have Hu6 := i' hu6
 clear hu6 b9 E k0 k1 k4 k5
 go_upto_region 5 with (fail)
 rw [← Hu6.out]
 clear Hu6
 obtain ⟨k0, k1, _⟩ := I2.out.next D.out
 obtain ⟨k4, k5, _⟩ := T5.out
 go_wp2_with fail
 refine (H_q2.out _ _ _ (Ri.below R2.out D.out (Nat.le_refl _)) R5.out).mono ?_
 rintro e y8 ⟨v8, x8, rfl, r8, s8, b9⟩
 obtain ⟨p8, q8, o8, c8, rfl, hr8⟩ := r8
 obtain ⟨p8x, q8x, o8x, c8x, rfl, hs8⟩ := s8
 have RR8 : Hid (Rz y8 (.slice p8 (Nm.dg D9 z2.natAbs).length c8) z2) := ⟨p8, q8, o8, c8, rfl, hr8⟩
 clear hr8 hs8
 generalize (Nm.dg D9 z2.natAbs).length = l8 at *
 generalize (Nm.dg D9 m2.natAbs).length = l8x at *
 obtain ⟨u8, hu8⟩ : ∃ u : World, u = (y8.alloc (.cells #[.bool bz2, .slice p8 l8 c8] 52)).alloc (.cells #[.bool bm2, .slice p8x l8x c8x] 52) := ⟨_, rfl⟩
 have E : Hid (Below u6.heap.size u6 u8) := by rw [hu8]; exact (b9.alloc b9.size _).alloc (by simp; exact Nat.le_succ_of_le b9.size) _
 have D := i' (chain D.out E.out)
 have T5 := i' (T5.out.next E.out)
 have R5 := i' (Ri.below R5.out E.out (Nat.le_refl _))
 have T6 := i' (T6.out.next E.out)
 have RR6 := i' (Ri.below RR6.out E.out (Nat.le_refl _))
 have T8 : Hid (ZC (.bool bz2) (.slice p8 l8 c8) u8 y8.heap.size) := by rw [hu8]; exact (ZC.new rfl).alloc _
 have RR8 : Hid (Rz u8 (.slice p8 l8 c8) z2) := by rw [hu8]; exact (RR8.out.allocd _).allocd _
 have Hu8 := i' hu8
 clear hu8 b9 E k0 k1 k4 k5
 go_upto_region 6 with (fail)
 rw [← Hu8.out]
 clear Hu8
 obtain ⟨k0, k1, _⟩ := T6.out
 obtain ⟨k2, k3, _⟩ := T8.out
 have Q3 := I3.out.next D.out
 have Q3h := i' Q3
 obtain ⟨⟨n0, n1, n2, n3⟩, n4, n5, n6, n7⟩ := Q3
 have HZ := i' (k'5g (chain hb0.out D.out) (g := w.heap.size + 1 + 1) (by omega) (.bool bz1) (.slice p6 l6 c6) (.bool bz2) (.slice p8 l8 c8))
 have HR1 := i' (Ri.set4 RR6.out Q3h.out (.bool bz1) (.slice p6 l6 c6) (.bool bz2) (.slice p8 l8 c8))
 have HR2 := i' (Ri.set4 RR8.out Q3h.out (.bool bz1) (.slice p6 l6 c6) (.bool bz2) (.slice p8 l8 c8))
 go_wp2
 exact bodyPost_ret (v := .agg #[.bool bz1, .slice p6 l6 c6, .bool bz2, .slice p8 l8 c8]) (by simp [results, Tryz.results106, go_sem, n0, n1, n2, n3]) rfl ⟨_, _, rfl, HR1.out, HR2.out, HZ.out⟩
theorem k'h9 (n d : Int) (v1 v2 : Value) (w : World) (k : Nat) (hk : k ≤ 90000) (hn : n.natAbs < D9 ^ k) (hd : d.natAbs < D9 ^ k) (h0 : 0 < d) (h1 : Rz w v1 n) (h2 : Rz w v2 d) :
 Calls Tryz.prog 106 #[iV n v1, iV d v2] w (RQPost (n / lg n d) (d / lg n d) w) := by
 obtain ⟨G, hG⟩ : ∃ G : Int, ((Nat.gcd n.natAbs d.natAbs : Nat) : Int) = G := ⟨_, rfl⟩
 obtain ⟨G2, hG2⟩ : ∃ G2 : Int, lg n d = G2 := ⟨_, rfl⟩
 have hGG : G2 = G := by rw [← hG2, ← hG]; unfold lg; rw [if_neg (by omega)]
 have hgp : 0 < Nat.gcd n.natAbs d.natAbs := Nat.gcd_pos_of_pos_right _ (by omega)
 have hgl : Nat.gcd n.natAbs d.natAbs ≤ d.natAbs := Nat.gcd_le_right _ (by omega)
 have hG0 : G2 ≠ 0 := by omega
 have hGk : G2.natAbs < D9 ^ k := by omega
 have H_gcd : Hid (∀ v1 v2 w, Rz w v1 n → Rz w v2 d → Calls Tryz.prog 97 #[iV n v1, iV d v2] w (IntPost G w)) := fun v1 v2 w h1 h2 => by
  have h := k'7j n d v1 v2 w h1 h2 (Nat.le_trans (len9 hn) (by omega)) (Nat.le_trans (len9 hd) (by omega))
  rwa [hG] at h
 have H_sign : Hid (∀ v w, Rz w v d → Calls Tryz.prog 50 #[iV d v] w (SignPost 1 w)) := fun v w h => by
  have h5 := k'7a d v w h
  rwa [show d.sign = 1 from Int.sign_eq_one_of_pos h0] at h5
 have H_q1 := i' (fun v1 v2 w g1 g2 => k'ad n G2 v1 v2 w k hk hn hGk g1 g2 hG0)
 have H_q2 := i' (fun v1 v2 w g1 g2 => k'ad d G2 v1 v2 w k hk hd hGk g1 g2 hG0)
 have R1 : Hid (Rz w v1 n) := h1
 have R2 : Hid (Rz w v2 d) := h2
 rw [hG2]
 rw [hGG] at H_q1 H_q2 ⊢
 clear hG hG2 hGG hgp hgl hG0 hGk hn hd h0 hk
 obtain ⟨p1, b1, o1, c1, rfl, hr1⟩ := h1
 obtain ⟨p2, b2, o2, c2, rfl, hr2⟩ := h2
 clear hr1 hr2
 obtain ⟨z1, hz1⟩ : ∃ z, n / G = z := ⟨_, rfl⟩
 obtain ⟨z2, hz2⟩ : ∃ z, d / G = z := ⟨_, rfl⟩
 rw [hz1] at H_q1 ⊢
 rw [hz2] at H_q2 ⊢
 unfold QIPost at H_q1 H_q2
 unfold IntPost at H_gcd
 unfold SignPost at H_sign
 unfold RQPost
 unfold iV at *
 generalize n % G = m1 at *
 generalize d % G = m2 at *
 clear hz1 hz2
 obtain ⟨bn, hbn⟩ : ∃ b, decide (n < 0) = b := ⟨_, rfl⟩
 obtain ⟨bd, hbd⟩ : ∃ b, decide (d < 0) = b := ⟨_, rfl⟩
 obtain ⟨bz1, hbz1⟩ : ∃ b, decide (z1 < 0) = b := ⟨_, rfl⟩
 obtain ⟨bz2, hbz2⟩ : ∃ b, decide (z2 < 0) = b := ⟨_, rfl⟩
 unfold qV
 rw [hbz1, hbz2]
 rw [hbn] at H_gcd H_q1 ⊢
 rw [hbd] at H_gcd H_sign H_q2 ⊢
 rw [hbz1] at H_q1
 rw [hbz2] at H_q2
 clear hbn hbd hbz1 hbz2
 generalize (Nm.dg D9 n.natAbs).length = l1 at *
 generalize (Nm.dg D9 d.natAbs).length = l2 at *
 generalize decide (G < 0) = bg at *
 generalize decide (m1 < 0) = bm1 at *
 generalize decide (m2 < 0) = bm2 at *
 obtain ⟨w0, hw0⟩ : ∃ w0 : World, w0 = ((w.alloc (.cells #[.bool bn, .slice p1 l1 c1] 52)).alloc (.cells #[.bool bd, .slice p2 l2 c2] 52)).alloc (.cells #[.bool false, .slice none 0 0, .bool false, .slice none 0 0] 66) := ⟨_, rfl⟩
 have hb0 : Hid (Below w.heap.size w w0) := by rw [hw0]; exact (((Below.refl _ _).alloc (Nat.le_refl _) _).alloc (by simp) _).alloc (by simp; omega) _
 have I1 : Hid (ZC (.bool bn) (.slice p1 l1 c1) w0 w.heap.size) := by rw [hw0]; exact ((ZC.new rfl).alloc _).alloc _
 have I2 : Hid (ZC (.bool bd) (.slice p2 l2 c2) w0 (w.heap.size + 1)) := by rw [hw0]; exact (ZC.new (by simp)).alloc _
 have I3 : Hid (ZC4 (.bool false) (.slice none 0 0) (.bool false) (.slice none 0 0) w0 (w.heap.size + 1 + 1)) := by
  rw [hw0]; have := ZC4.made0 (x := .bool false) (y := .slice none 0 0) (z := .bool false) (u := .slice none 0 0) (t := 66) ((w.alloc (.cells #[.bool bn, .slice p1 l1 c1] 52)).alloc (.cells #[.bool bd, .slice p2 l2 c2] 52)); show ZC4 _ _ _ _ _ _; simpa using this
 have R1 : Hid (Rz w0 (.slice p1 l1 c1) n) := Ri.below R1.out hb0.out (Nat.le_refl _)
 have R2 : Hid (Rz w0 (.slice p2 l2 c2) d) := Ri.below R2.out hb0.out (Nat.le_refl _)
 have Hw0 := i' hw0
 clear hw0
 go_enter Tryz.func106, Tryz.ntmps106
 go_wp2_with fail
 rw [← Hw0.out]
 refine (H_gcd.out _ _ _ R1.out R2.out).mono ?_
 rintro e y5 ⟨v5, rfl, r5, b9⟩
 obtain ⟨p5, q5, o5, c5, rfl, hr5⟩ := r5
 have R5 : Hid (Rz y5 (.slice p5 (Nm.dg D9 G.natAbs).length c5) G) := ⟨p5, q5, o5, c5, rfl, hr5⟩
 clear hr5
 generalize (Nm.dg D9 G.natAbs).length = l5 at *
 obtain ⟨u5, hu5⟩ : ∃ u : World, u = y5.alloc (.cells #[.bool bg, .slice p5 l5 c5] 52) := ⟨_, rfl⟩
 have D : Hid (Below w0.heap.size w0 u5) := by rw [hu5]; exact b9.alloc b9.size _
 have T5 : Hid (ZC (.bool bg) (.slice p5 l5 c5) u5 y5.heap.size) := by rw [hu5]; exact ZC.new rfl
 have R5 : Hid (Rz u5 (.slice p5 l5 c5) G) := by rw [hu5]; exact R5.out.allocd _
 have hy5 : Hid (w0.heap.size ≤ y5.heap.size) := b9.size
 have Hu5 := i' hu5
 clear hu5 b9
 go_upto_region 2 with (fail)
 rw [← Hu5.out]
 clear Hu5
 obtain ⟨k2, k3, _⟩ := I2.out.next D.out
 go_wp2_with fail
 refine (H_sign.out _ _ (Ri.below R2.out D.out (Nat.le_refl _))).mono ?_
 rintro e ys ⟨rfl, b9⟩
 have T5 := i' (T5.out.next b9)
 have R5 : Hid (Rz ys (.slice p5 l5 c5) G) := Ri.below R5.out b9 (Nat.le_refl _)
 have D := i' (chain D.out b9)
 clear b9 k2 k3
 obtain ⟨k0, k1, _⟩ := I1.out.next D.out
 obtain ⟨k4, k5, _⟩ := T5.out
 go_wp2_with fail
 refine (H_q1.out _ _ _ (Ri.below R1.out D.out (Nat.le_refl _)) R5.out).mono ?_
 rintro e y6 ⟨v6, x6, rfl, r6, s6, b9⟩
 obtain ⟨p6, q6, o6, c6, rfl, hr6⟩ := r6
 obtain ⟨p6x, q6x, o6x, c6x, rfl, hs6⟩ := s6
 have RR6 : Hid (Rz y6 (.slice p6 (Nm.dg D9 z1.natAbs).length c6) z1) := ⟨p6, q6, o6, c6, rfl, hr6⟩
 clear hr6 hs6
 generalize (Nm.dg D9 z1.natAbs).length = l6 at *
 generalize (Nm.dg D9 m1.natAbs).length = l6x at *
 obtain ⟨u6, hu6⟩ : ∃ u : World, u = (y6.alloc (.cells #[.bool bz1, .slice p6 l6 c6] 52)).alloc (.cells #[.bool bm1, .slice p6x l6x c6x] 52) := ⟨_, rfl⟩
 have E : Hid (Below ys.heap.size ys u6) := by rw [hu6]; exact (b9.alloc b9.size _).alloc (by simp; exact Nat.le_succ_of_le b9.size) _
 have D := i' (chain D.out E.out)
 have T5 := i' (T5.out.next E.out)
 have R5 := i' (Ri.below R5.out E.out (Nat.le_refl _))
 have T6 : Hid (ZC (.bool bz1) (.slice p6 l6 c6) u6 y6.heap.size) := by rw [hu6]; exact (ZC.new rfl).alloc _
 have RR6 : Hid (Rz u6 (.slice p6 l6 c6) z1) := by rw [hu6]; exact (RR6.out.allocd _).allocd _
 have Hu6 := i' hu6
 clear hu6 b9 E k0 k1 k4 k5
 go_upto_region 5 with (fail)
 rw [← Hu6.out]
 clear Hu6
 obtain ⟨k0, k1, _⟩ := I2.out.next D.out
 obtain ⟨k4, k5, _⟩ := T5.out
 go_wp2_with fail
 refine (H_q2.out _ _ _ (Ri.below R2.out D.out (Nat.le_refl _)) R5.out).mono ?_
 rintro e y8 ⟨v8, x8, rfl, r8, s8, b9⟩
 obtain ⟨p8, q8, o8, c8, rfl, hr8⟩ := r8
 obtain ⟨p8x, q8x, o8x, c8x, rfl, hs8⟩ := s8
 have RR8 : Hid (Rz y8 (.slice p8 (Nm.dg D9 z2.natAbs).length c8) z2) := ⟨p8, q8, o8, c8, rfl, hr8⟩
 clear hr8 hs8
 generalize (Nm.dg D9 z2.natAbs).length = l8 at *
 generalize (Nm.dg D9 m2.natAbs).length = l8x at *
 obtain ⟨u8, hu8⟩ : ∃ u : World, u = (y8.alloc (.cells #[.bool bz2, .slice p8 l8 c8] 52)).alloc (.cells #[.bool bm2, .slice p8x l8x c8x] 52) := ⟨_, rfl⟩
 have E : Hid (Below u6.heap.size u6 u8) := by rw [hu8]; exact (b9.alloc b9.size _).alloc (by simp; exact Nat.le_succ_of_le b9.size) _
 have D := i' (chain D.out E.out)
 have T5 := i' (T5.out.next E.out)
 have R5 := i' (Ri.below R5.out E.out (Nat.le_refl _))
 have T6 := i' (T6.out.next E.out)
 have RR6 := i' (Ri.below RR6.out E.out (Nat.le_refl _))
 have T8 : Hid (ZC (.bool bz2) (.slice p8 l8 c8) u8 y8.heap.size) := by rw [hu8]; exact (ZC.new rfl).alloc _
 have RR8 : Hid (Rz u8 (.slice p8 l8 c8) z2) := by rw [hu8]; exact (RR8.out.allocd _).allocd _
 have Hu8 := i' hu8
 clear hu8 b9 E k0 k1 k4 k5
 go_upto_region 6 with (fail)
 rw [← Hu8.out]
 clear Hu8
 obtain ⟨k0, k1, _⟩ := T6.out
 obtain ⟨k2, k3, _⟩ := T8.out
 have Q3 := I3.out.next D.out
 have Q3h := i' Q3
 obtain ⟨⟨n0, n1, n2, n3⟩, n4, n5, n6, n7⟩ := Q3
 have HZ := i' (k'5g (chain hb0.out D.out) (g := w.heap.size + 1 + 1) (by omega) (.bool bz1) (.slice p6 l6 c6) (.bool bz2) (.slice p8 l8 c8))
 have HR1 := i' (Ri.set4 RR6.out Q3h.out (.bool bz1) (.slice p6 l6 c6) (.bool bz2) (.slice p8 l8 c8))
 have HR2 := i' (Ri.set4 RR8.out Q3h.out (.bool bz1) (.slice p6 l6 c6) (.bool bz2) (.slice p8 l8 c8))
 go_wp2
 exact bodyPost_ret (v := .agg #[.bool bz1, .slice p6 l6 c6, .bool bz2, .slice p8 l8 c8]) (by simp [results, Tryz.results106, go_sem, n0, n1, n2, n3]) rfl ⟨_, _, rfl, HR1.out, HR2.out, HZ.out⟩
theorem k'ha (n d : Int) (v1 v2 : Value) (w : World) (k : Nat) (hk : k ≤ 90000) (hn : n.natAbs < D9 ^ k) (hd : d.natAbs < D9 ^ k) (h0 : d ≠ 0) (h1 : Rz w v1 n) (h2 : Rz w v2 d) :
 Calls Tryz.prog 106 #[iV n v1, iV d v2] w (RQPost (n / lg n d) (d / lg n d) w) := by
 rcases Int.lt_or_gt_of_ne h0 with h | h
 ·exact k'h8 n d v1 v2 w k hk hn hd h h1 h2
 ·exact k'h9 n d v1 v2 w k hk hn hd h h1 h2
theorem k'hb {a b : Bool} {s t : ByteArray} : vldR a s b t = (vld a s && vld b t && !b && decide (0 < t.size)) := by
 unfold vldR sgV
 cases vld b t <;> cases b <;> by_cases h : 0 < t.size <;> simp [h]
theorem k'hc (a b : Bool) (s t : ByteArray) (w : World) (hs : s.size ≤ 100000) (ht : t.size ≤ 100000) :
 Calls Tryz.prog 46 #[rat a s b t] w (RQPost (sg a (bv s)) (sg b (bv t)) w) := by
 have H_f1 := i' (fun w => k'94 a s w hs)
 have H_f2 := i' (fun w => k'94 b t w ht)
 obtain ⟨x, hx⟩ : ∃ x, sg a (bv s) = x := ⟨_, rfl⟩
 obtain ⟨y, hy⟩ : ∃ y, sg b (bv t) = y := ⟨_, rfl⟩
 rw [hx] at H_f1 ⊢
 rw [hy] at H_f2 ⊢
 unfold IntPost iV at H_f1 H_f2
 unfold RQPost qV rat
 clear hx hy hs ht
 generalize decide (x < 0) = bx at *
 generalize decide (y < 0) = b_y at *
 obtain ⟨w0, hw0⟩ : ∃ w0 : World, w0 = (w.alloc (.cells #[.bool a, .string s, .bool b, .string t] 59)).alloc (.cells #[.bool false, .slice none 0 0, .bool false, .slice none 0 0] 66) := ⟨_, rfl⟩
 have hb0 : Hid (Below w.heap.size w w0) := by rw [hw0]; exact ((Below.refl _ _).alloc (Nat.le_refl _) _).alloc (by simp) _
 have I1 : Hid (ZC4 (.bool a) (.string s) (.bool b) (.string t) w0 w.heap.size) := by
  rw [hw0]; exact (ZC4.made0 w).next (k'56 _ _)
 have I3 : Hid (ZC4 (.bool false) (.slice none 0 0) (.bool false) (.slice none 0 0) w0 (w.heap.size + 1)) := by
  rw [hw0]; have := ZC4.made0 (x := .bool false) (y := .slice none 0 0) (z := .bool false) (u := .slice none 0 0) (t := 66) (w.alloc (.cells #[.bool a, .string s, .bool b, .string t] 59)); show ZC4 _ _ _ _ _ _; simpa using this
 have Hw0 := i' hw0
 clear hw0
 go_enter Tryz.func46, Tryz.ntmps46
 go_upto_region 1 with (fail)
 rw [← Hw0.out]
 obtain ⟨⟨k0, k1, k2, k3⟩, _⟩ := I1.out
 go_region_held3 (fun W' => W'.cell? ⟨w.heap.size, 0, none⟩ = some (.bool a) ∧ W'.cell? ⟨w.heap.size, 1, none⟩ = some (.string s) ∧ W'.cell? ⟨w.heap.size, 2, none⟩ = some (.bool b) ∧ W'.cell? ⟨w.heap.size, 3, none⟩ = some (.string t)) (go_keep)
  (first
   | (go_at_call 37; (with_reducible refine (H_f1.out  _ ).mono ?_); rintro e w1 ⟨v1, rfl, r1, b1⟩; (try (have b1 := k'5b b1)); have E : Hid (Below w0.heap.size w0 w1) := (by first | exact b1 | exact chain ((Below.refl _ _).drew) b1); have pk0 := keep1 E.out k0; have pk1 := keep1 E.out k1; have pk2 := keep1 E.out k2; have pk3 := keep1 E.out k3; have G1 := i' r1; obtain ⟨pp1, bb1, oo1, cc1, rfl, hr1⟩ := r1; clear hr1; have Q3 := I3.out.next E.out; have Q3h := i' Q3; obtain ⟨⟨n0, n1, n2, n3⟩, n4, n5, n6, n7⟩ := Q3; clear b1)
   | (go_at_call 37; (with_reducible refine (H_f2.out  _ ).mono ?_); rintro e w2 ⟨v2, rfl, r2, b2⟩; (try (have b2 := k'5b b2)); have E := i' (chain E.out b2); have pk0 := keep1 E.out k0; have pk1 := keep1 E.out k1; have pk2 := keep1 E.out k2; have pk3 := keep1 E.out k3; have G1 := i' (Ri.below G1.out b2 (Nat.le_refl _)); have G2 := i' r2; obtain ⟨pp2, bb2, oo2, cc2, rfl, hr2⟩ := r2; clear hr2; have Q3 := I3.out.next E.out; have Q3h := i' Q3; obtain ⟨⟨n0, n1, n2, n3⟩, n4, n5, n6, n7⟩ := Q3; clear b2)
   | fail)
 have HZ := i' (k'5g (chain hb0.out E.out) (g := w.heap.size + 1) (by omega) (.bool bx) (.slice pp1 (Nm.dg D9 x.natAbs).length cc1) (.bool b_y) (.slice pp2 (Nm.dg D9 y.natAbs).length cc2))
 have HR1 := i' (Ri.set4 G1.out Q3h.out (.bool bx) (.slice pp1 (Nm.dg D9 x.natAbs).length cc1) (.bool b_y) (.slice pp2 (Nm.dg D9 y.natAbs).length cc2))
 have HR2 := i' (Ri.set4 G2.out Q3h.out (.bool bx) (.slice pp1 (Nm.dg D9 x.natAbs).length cc1) (.bool b_y) (.slice pp2 (Nm.dg D9 y.natAbs).length cc2))
 go_wp2
 exact bodyPost_ret (v := .agg #[.bool bx, .slice pp1 (Nm.dg D9 x.natAbs).length cc1, .bool b_y, .slice pp2 (Nm.dg D9 y.natAbs).length cc2]) (by simp [results, Tryz.results46, go_sem, n0, n1, n2, n3]) rfl ⟨_, _, rfl, HR1.out, HR2.out, HZ.out⟩
theorem k'hg (a b : Bool) (s t : ByteArray) (w : World) (hs : s.size ≤ 140737488351232) (ht : t.size ≤ 140737488351232) :
 Calls Tryz.prog 45 #[rat a s b t] w (BPost (vldR a s b t) w) := by
 rw [k'hb]
 have HA := i' (fun w => k'5v a s w hs)
 have HB := i' (fun w => k'5v b t w ht)
 unfold BPost at *
 unfold rat
 obtain ⟨w0, hw0⟩ : ∃ w0 : World, w0 = w.alloc (.cells #[.bool a, .string s, .bool b, .string t] 59) := ⟨_, rfl⟩
 have hb0 : Hid (Below w.heap.size w w0) := by rw [hw0]; exact k'56 _ _
 have I1 : Hid (ZC4 (.bool a) (.string s) (.bool b) (.string t) w0 w.heap.size) := by rw [hw0]; exact ZC4.made0 w
 have Hw0 := i' hw0
 clear hw0
 generalize vld a s = va at *
 generalize vld b t = vb at *
 go_enter Tryz.func45, Tryz.ntmps45
 go_wp2_with fail
 rw [← Hw0.out]
 refine (HA.out _).mono ?_
 rintro e wa ⟨rfl, ba⟩
 obtain ⟨⟨k0, k1, k2, k3⟩, _⟩ := I1.out.next ba
 have BA := i' ba
 have HZ := i' (chain hb0.out ba)
 clear ba
 cases va with
 | false =>
  go_wp2
  go_ret
  exact ⟨rfl, HZ.out⟩
 | true =>
  go_wp2_with fail
  refine (HB.out _).mono ?_
  rintro e wb ⟨rfl, bb⟩
  have c := chain BA.out bb
  obtain ⟨⟨k0, k1, k2, k3⟩, _⟩ := I1.out.next c
  have HZ := i' (chain hb0.out c)
  clear bb c
  cases vb with
  | false =>
   go_wp2
   go_ret
   exact ⟨rfl, HZ.out⟩
  | true =>
   cases b with
   | true =>
    go_wp2
    go_ret
    exact ⟨rfl, HZ.out⟩
   | false =>
    by_cases h0 : 0 < t.size
    ·have e0 : decide (0 < t.size) = true := decide_eq_true h0
     have E0 := i' e0
     clear e0
     go_wp2
     go_ret
     exact ⟨by rw [E0.out]; rfl, HZ.out⟩
    ·have e0 : decide (0 < t.size) = false := decide_eq_false h0
     have E0 := i' e0
     clear e0
     go_wp2
     go_ret
     exact ⟨by rw [E0.out]; rfl, HZ.out⟩
theorem k'hh (x y : Int) (v1 v2 : Value) (w : World) (h1 : Rz w v1 x) (h2 : Rz w v2 y) (l1 : (Nm.dg D9 x.natAbs).length ≤ 1000000) (l2 : (Nm.dg D9 y.natAbs).length ≤ 1000000) (z1 : (zs x).size ≤ 8192) (z2 : (zs y).size ≤ 8192) :
 Calls Tryz.prog 48 #[qV x y v1 v2] w fun e w' => e = .returned (.tuple #[.agg #[.bool (zb x), .string (zs x), .bool (zb y), .string (zs y)], .int .i64 0]) ∧ Below w.heap.size w w' := by
 have H_b1 := i' (fun v w h => k'9b x v w h l1 z1)
 have H_b2 := i' (fun v w h => k'9b y v w h l2 z2)
 have H_t1 : Hid (∀ v w, Rz w v x → Calls Tryz.prog 39 #[iV x v] w fun e w' => e = .returned (.agg #[.bool (zb x), .string (zs x)]) ∧ Below w.heap.size w w') := fun v w h => by
  have := k'7y x v w h l1
  unfold ToPost at this
  rwa [wz_eq] at this
 have H_t2 : Hid (∀ v w, Rz w v y → Calls Tryz.prog 39 #[iV y v] w fun e w' => e = .returned (.agg #[.bool (zb y), .string (zs y)]) ∧ Below w.heap.size w w') := fun v w h => by
  have := k'7y y v w h l2
  unfold ToPost at this
  rwa [wz_eq] at this
 have R1 : Hid (Rz w v1 x) := h1
 have R2 : Hid (Rz w v2 y) := h2
 obtain ⟨p1, b1, o1, c1, rfl, hr1⟩ := h1
 obtain ⟨p2, b2, o2, c2, rfl, hr2⟩ := h2
 clear hr1 hr2 l1 l2 z1 z2
 unfold iV at *
 unfold qV
 unfold BPost at *
 generalize decide (x < 0) = bx at *
 generalize decide (y < 0) = by' at *
 generalize zb x = xb at *
 generalize zs x = xs at *
 generalize zb y = yb at *
 generalize zs y = ys at *
 generalize (Nm.dg D9 x.natAbs).length = l1 at *
 generalize (Nm.dg D9 y.natAbs).length = l2 at *
 obtain ⟨w0, hw0⟩ : ∃ w0 : World, w0 = (w.alloc (.cells #[.bool bx, .slice p1 l1 c1, .bool by', .slice p2 l2 c2] 66)).alloc (.cells #[.bool false, .string ⟨#[]⟩, .bool false, .string ⟨#[]⟩] 59) := ⟨_, rfl⟩
 have hb0 : Hid (Below w.heap.size w w0) := by rw [hw0]; exact ((Below.refl _ _).alloc (Nat.le_refl _) _).alloc (by simp) _
 have I1 : Hid (ZC4 (.bool bx) (.slice p1 l1 c1) (.bool by') (.slice p2 l2 c2) w0 w.heap.size) := by rw [hw0]; exact (ZC4.made0 w).next (k'56 _ _)
 have I3 : Hid (ZC4 (.bool false) (.string ⟨#[]⟩) (.bool false) (.string ⟨#[]⟩) w0 (w.heap.size + 1)) := by
  rw [hw0]
  have := ZC4.made0 (x := .bool false) (y := .string ⟨#[]⟩) (z := .bool false) (u := .string ⟨#[]⟩) (t := 59) (w.alloc (.cells #[.bool bx, .slice p1 l1 c1, .bool by', .slice p2 l2 c2] 66))
  show ZC4 _ _ _ _ _ _
  simpa using this
 have R1 : Hid (Rz w0 (.slice p1 l1 c1) x) := Ri.below R1.out hb0.out (Nat.le_refl _)
 have R2 : Hid (Rz w0 (.slice p2 l2 c2) y) := Ri.below R2.out hb0.out (Nat.le_refl _)
 have Hw0 := i' hw0
 clear hw0
 go_enter Tryz.func48, Tryz.ntmps48
 go_wp2_with fail
 rw [← Hw0.out]
 refine (H_b1.out _ _ R1.out).mono ?_
 rintro e wa ⟨rfl, ba⟩
 obtain ⟨⟨k0, k1, k2, k3⟩, _⟩ := I1.out.next ba
 have D := i' ba
 clear ba
 go_wp2_with fail
 refine (H_b2.out _ _ (Ri.below R2.out D.out (Nat.le_refl _))).mono ?_
 rintro e wb ⟨rfl, bb⟩
 have D := i' (chain D.out bb)
 have I1 := i' (I1.out.next D.out)
 have I3 := i' (I3.out.next D.out)
 have R1 := i' (Ri.below R1.out D.out (Nat.le_refl _))
 have R2 := i' (Ri.below R2.out D.out (Nat.le_refl _))
 have hb0 := i' (chain hb0.out D.out)
 clear bb k0 k1 k2 k3 D Hw0
 go_upto_region 3 with (fail)
 obtain ⟨⟨k0, k1, k2, k3⟩, _⟩ := I1.out
 go_region_held3 (fun W' => W'.cell? ⟨w.heap.size, 0, none⟩ = some (.bool bx) ∧ W'.cell? ⟨w.heap.size, 1, none⟩ = some (.slice p1 l1 c1) ∧ W'.cell? ⟨w.heap.size, 2, none⟩ = some (.bool by') ∧ W'.cell? ⟨w.heap.size, 3, none⟩ = some (.slice p2 l2 c2)) (go_keep)
  (first
   | (go_at_call 39; (with_reducible refine (H_t1.out _ _ (by first | exact R1.out | exact Ri.drew R1.out | exact Ri.below R1.out E.out (Nat.le_refl _))).mono ?_); rintro e w1 ⟨rfl, b1⟩; (try (have b1 := k'5b b1)); have E : Hid (Below wb.heap.size wb w1) := (by first | exact b1 | exact chain ((Below.refl _ _).drew) b1); have pk0 := keep1 E.out k0; have pk1 := keep1 E.out k1; have pk2 := keep1 E.out k2; have pk3 := keep1 E.out k3; have Q3 := I3.out.next E.out; have Q3h := i' Q3; obtain ⟨⟨n0, n1, n2, n3⟩, n4, n5, n6, n7⟩ := Q3; clear b1)
   | (go_at_call 39; (with_reducible refine (H_t2.out _ _ (by first | exact R2.out | exact Ri.drew R2.out | exact Ri.below R2.out E.out (Nat.le_refl _))).mono ?_); rintro e w2 ⟨rfl, b2⟩; (try (have b2 := k'5b b2)); have E := i' (chain E.out b2); have pk0 := keep1 E.out k0; have pk1 := keep1 E.out k1; have pk2 := keep1 E.out k2; have pk3 := keep1 E.out k3; have Q3 := I3.out.next E.out; have Q3h := i' Q3; obtain ⟨⟨n0, n1, n2, n3⟩, n4, n5, n6, n7⟩ := Q3; clear b2)
   | fail)
 have HZ := i' (k'5g (chain hb0.out E.out) (g := w.heap.size + 1) (by omega) (.bool xb) (.string xs) (.bool yb) (.string ys))
 go_wp2
 exact bodyPost_ret (v := .tuple #[.agg #[.bool xb, .string xs, .bool yb, .string ys], .int .i64 0]) (by simp [results, Tryz.results48, go_sem, n0, n1, n2, n3]) rfl ⟨rfl, HZ.out⟩
theorem k'ib {z : Int} (h : (zs z).size ≤ 16) (ht : z.natAbs < Top) : lenV (zb z) (zs z) ≤ 200 := by
 rw [k'9f (k'5s ht)]
 unfold lenB
 split
 ·have : Lib.bitLen (zs z)[0].toNat ≤ 8 := Lib.bitLen_le8 ⟨(zs z)[0].toNat, UInt8.toNat_lt _⟩
  omega
 ·omega
theorem k'ic (L : List (Bool × ByteArray)) (B : Int) (hB : 0 ≤ B) (h : ∀ x ∈ L, lenV x.1 x.2 ≤ B) : glb L ≤ B := by
 have key : ∀ (L : List (Bool × ByteArray)) (m : Int), m ≤ B → (∀ x ∈ L, lenV x.1 x.2 ≤ B) → L.foldl (fun m x => max m (lenV x.1 x.2)) m ≤ B := by
  intro L
  induction L with
  | nil => intro m hm _; exact hm
  | cons x L ih =>
   intro m hm hx
   refine ih _ ?_ (fun y hy => hx y (List.mem_cons_of_mem _ hy))
   have := hx x List.mem_cons_self
   show max m (lenV x.1 x.2) ≤ B
   omega
 exact key L 0 hB h
theorem k'id {p : List Int} (h : shP (zl p) = true) (hp : VP p) : glb (zl p) ≤ 200 := by
 refine k'ic _ 200 (by decide) ?_
 intro x hx
 have h1 := k'du h x hx
 obtain ⟨z, hz, rfl⟩ := List.mem_map.1 hx
 exact k'ib h1 (hp.top z hz)
theorem k'j0 (L : List (Bool × ByteArray)) (v : Value) (a b : Bool) (s t : ByteArray) (e : Int) (w : World) (h : Rw w v L) (z : Small L) (z1 : s.size ≤ 140737488351232) (z2 : t.size ≤ 140737488351232) (he : ckv L a s b t = e) (h0 : e ≠ 0) :
 Calls Tryz.prog 42 #[v, rat a s b t] w (Ret (.tuple #[Z 0, .int .i64 e]) w) := by
 obtain ⟨w0, hw0⟩ : ∃ w0 : World, w0 = (w.alloc (.cells #[.bool a, .string s, .bool b, .string t] 59)).alloc (.cells #[.bool false, .string ⟨#[]⟩] 44) := ⟨_, rfl⟩
 have HA0 : Hid (Aw w0 (w.heap.size + 1) [0]) := by
  show Aw _ _ _
  rw [hw0]
  have h5 := Aw.made (w.alloc (.cells #[.bool a, .string s, .bool b, .string t] 59)) [0]
  rw [World.size_alloc] at h5
  exact h5
 have c0 : w0.cell? ⟨w.heap.size, 0, none⟩ = some (.bool a) := by rw [hw0]; simp [go_sem]
 have c1 : w0.cell? ⟨w.heap.size, 1, none⟩ = some (.string s) := by rw [hw0]; simp [go_sem]
 have c2 : w0.cell? ⟨w.heap.size, 2, none⟩ = some (.bool b) := by rw [hw0]; simp [go_sem]
 have c3 : w0.cell? ⟨w.heap.size, 3, none⟩ = some (.string t) := by rw [hw0]; simp [go_sem]
 have B0 : Hid (Below w.heap.size w w0) := by show Below _ _ _; rw [hw0]; exact ((Below.refl _ _).alloc (Nat.le_refl _) _).alloc (by simp) _
 have HD := i' (k'ir L v a b s t w0 (h.below B0.out) z z1 z2)
 rw [he] at HD
 have n0 : (e == 0) = false := by simpa using h0
 have n1 : (e != 0) = true := by simpa using h0
 unfold rat at HD ⊢
 clear h z z1 z2 he h0
 go_enter Tryz.func42, Tryz.ntmps42
 go_wp2_with fail
 rw [← hw0]
 clear hw0
 refine HD.out.mono ?_
 rintro en w1 ⟨rfl, b1⟩
 have B1 := i' (chain B0.out b1)
 have HA1 := i' (HA0.out.below b1)
 obtain ⟨e0, e1⟩ := HA1.out.cell 0 (by simp)
 simp only [Nat.zero_mul, Nat.zero_add, List.getElem_cons_zero] at e0 e1
 have f0 := HA1.out.free 0
 have f1 := HA1.out.free 1
 have HB8 := i' ((B1.out.setCell (p := ⟨w.heap.size + 1, 0, none⟩) (by simp) (.bool false)).setCell (p := ⟨w.heap.size + 1, 1, none⟩) (by simp) (.string ⟨#[]⟩))
 clear b1 c0 c1 c2 c3
 go_wp2
 exact bodyPost_ret (v := .tuple #[Z 0, .int .i64 e]) (by simp [results, Tryz.results42, go_sem, e0, e1]; exact ⟨rfl, rfl⟩) rfl ⟨rfl, HB8.out⟩
theorem k'j1 (L : List (Bool × ByteArray)) (v : Value) (a b : Bool) (s t : ByteArray) (e : Int) (w : World) (h : Rw w v L) (z : Small L) (z1 : s.size ≤ 140737488351232) (z2 : t.size ≤ 140737488351232) (he : ckv L a s b t = e) (h0 : e ≠ 0) :
 Calls Tryz.prog 44 #[v, rat a s b t] w (Ret (.tuple #[.int .i64 0, .int .i64 e]) w) := by
 obtain ⟨w0, hw0⟩ : ∃ w0 : World, w0 = w.alloc (.cells #[.bool a, .string s, .bool b, .string t] 59) := ⟨_, rfl⟩
 have c0 : w0.cell? ⟨w.heap.size, 0, none⟩ = some (.bool a) := by rw [hw0]; simp [go_sem]
 have c1 : w0.cell? ⟨w.heap.size, 1, none⟩ = some (.string s) := by rw [hw0]; simp [go_sem]
 have c2 : w0.cell? ⟨w.heap.size, 2, none⟩ = some (.bool b) := by rw [hw0]; simp [go_sem]
 have c3 : w0.cell? ⟨w.heap.size, 3, none⟩ = some (.string t) := by rw [hw0]; simp [go_sem]
 have B0 : Hid (Below w.heap.size w w0) := by show Below _ _ _; rw [hw0]; exact (Below.refl _ _).alloc (Nat.le_refl _) _
 have HD := i' (k'ir L v a b s t w0 (h.below B0.out) z z1 z2)
 rw [he] at HD
 have n0 : (e == 0) = false := by simpa using h0
 have n1 : (e != 0) = true := by simpa using h0
 unfold rat at HD ⊢
 clear h z z1 z2 he h0
 go_enter Tryz.func44, Tryz.ntmps44
 go_wp2_with fail
 rw [← hw0]
 clear hw0
 refine HD.out.mono ?_
 rintro en w1 ⟨rfl, b1⟩
 have B1 := i' (chain B0.out b1)
 clear b1 c0 c1 c2 c3
 go_wp2
 go_ret2
 exact ⟨rfl, B1.out⟩
theorem k'lf {L : List (Bool × ByteArray)} {v : Value} {w : World} (h : Rw w v L) (z : Lim L) (r : Bool) (hr : shP L = r) :
 Calls Tryz.prog 11 #[.slice (some ⟨w.heap.size, 0, none⟩) 1 1] (w.alloc (.cells #[v] 23)) (BPost r w) := by
 have h := k'ds [L] _ _ (k'dn w h) (by intro L' hL; simp at hL; subst hL; exact z) (by simp)
 have e : [L].all shP = r := by rw [← hr]; simp
 rw [e] at h
 exact h.mono fun e w' ⟨h1, h2⟩ => ⟨h1, chain (k'56 _ _) h2⟩
theorem k'lg {L : List (Bool × ByteArray)} {v : Value} {w : World} (h : Rw w v L) (z : Small L) (r : Bool) (hr : vldP L = r) :
 Calls Tryz.prog 19 #[.slice (some ⟨w.heap.size, 0, none⟩) 1 1] (w.alloc (.cells #[v] 23)) (BPost r w) := by
 have h := k'dr [L] _ _ (k'dn w h) (by intro L' hL; simp at hL; subst hL; exact z) (by simp)
 have e : [L].all vldP = r := by rw [← hr]; simp
 rw [e] at h
 exact h.mono fun e w' ⟨h1, h2⟩ => ⟨h1, chain (k'56 _ _) h2⟩
theorem k'm0 {z : Int} {n : Nat} (h : z.natAbs < D9 ^ n) (hn : n ≤ 2000) : z.natAbs < Top := (k'i3 h rfl).top (by omega)
end Go.Proofs.YtepddegphdlbeaaGreat
namespace Go.Proofs.YtepddegphdlbeaaGreat
open Go.ChangeShapes Go.WideShapes Go.ChangeAt Go.RowKit Go.Joins
open Go.ChangeMaps (open_string shut_string)
theorem k'm7 {H : Type} {enc : TypeId × Value → H} {w : World} {base : Nat} {spare : Nat → Bool} {held : Bool} {a : Bool} {s : ByteArray} (hs : s.size ≤ maxLen) :
 DataW.Trod enc Tryz.prog w base spare held 44 (.agg #[.bool a, .string s]) (.agg [.lit (.bool a), .lit (.string s.data.toList)]) [] :=
 shut_agg2 (y0 := (.lit (.bool a), [])) (y1 := (.lit (.string s.data.toList), [])) Tryz.underlying44 (by kernel_rfl) Tryz.cellsWide ⟨1, by simp [DataW.trod, Tryz.underlying4]⟩ ⟨1, by simp [DataW.trod, Tryz.underlying9, hs]⟩
theorem Tryz.cellsRatio : Tryz.prog.cellsOf 59 = 4 := by kernel_rfl
end Go.Proofs.YtepddegphdlbeaaGreat
namespace Go.Proofs.YtepddegphdlbeaaGreat
open Go.RowKit
theorem Sz.prim {n : Nat} {p : List Int} (s : Sz n p) : Sz n (Pl.prim p) := fun k => by
 rw [Pl.cf_prim]
 exact Nat.lt_of_le_of_lt (Int.natAbs_ediv_le_natAbs _ _) (s k)
def Ap (w : World) (g : Nat) (p : List Int) : Prop := ∃ us : List Value, us.length = p.length ∧ w.heap[g]? = some (.cells (rv p us).toArray 52 (0, 0)) ∧ ∀ k (h : k < us.length) (h2 : k < p.length), Rz w us[k] p[k]
theorem Ap.lt {w : World} {g : Nat} {p : List Int} (h : Ap w g p) : g < w.heap.size := by obtain ⟨us, _, h, _⟩ := h; exact lt_of_block h
theorem Ap.cell {w : World} {g : Nat} {p : List Int} (h : Ap w g p) (k : Nat) (hk : k < p.length) : ∃ u, w.cell? ⟨g, k * 2, none⟩ = some (.bool (decide (p[k] < 0))) ∧ w.cell? ⟨g, k * 2 + 1, none⟩ = some u ∧ Rz w u p[k] := by
 obtain ⟨us, hl, h, hz⟩ := h
 obtain ⟨h1, h2⟩ := k'df hl k hk
 exact ⟨us[k], by rw [cell_of_row w g _ _ _ _ h, List.getElem?_toArray]; exact h1, by rw [cell_of_row w g _ _ _ _ h, List.getElem?_toArray]; exact h2, hz k (by omega) hk⟩
theorem Ap.free {w : World} {g : Nat} {p : List Int} (h : Ap w g p) (k : Nat) : w.frozen? ⟨g, k, none⟩ = false := by obtain ⟨us, _, h, _⟩ := h; exact frozen_of_row w g k _ _ h
theorem Ap.below {w w' : World} {g : Nat} {p : List Int} (h : Ap w g p) (hb : Below w.heap.size w w') : Ap w' g p := by
 obtain ⟨us, hl, h, hz⟩ := h
 exact ⟨us, hl, (hb.block g (lt_of_block h)).trans h, fun k h1 h2 => (hz k h1 h2).below hb⟩
theorem Ap.row {w : World} {g B n : Nat} {p : List Int} (h : Ap w g p) (hB : B ≤ g) (hn : p.length = n) (hm : n ≤ maxLen) : RowP w B (.slice (some ⟨g, 0, none⟩) n n) p := by
 obtain ⟨us, hl, h, hz⟩ := h
 subst hn
 refine ⟨us, hl, ⟨k'dd hl, Or.inr ⟨g, p.length, _, rfl, hB, h, Nat.le_refl _, hm, ?_, ?_⟩⟩, hz⟩
 ·simp [k'dd hl]
 ·simp only [List.toList_toArray]
  rw [List.take_of_length_le (by rw [k'dd hl]; exact Nat.le_refl _)]
theorem k'ml {p : List Int} {us : List Value} (h : us.length = p.length) (k : Nat) (z : Int) (u : Value) : ((rv p us).set (k * 2) (.bool (decide (z < 0)))).set (k * 2 + 1) u = rv (p.set k z) (us.set k u) := by
 induction p generalizing us k with
 | nil => cases us with
  | nil => rfl
  | cons u us => simp at h
 | cons y p ih =>
  cases us with
  | nil => simp at h
  | cons x us =>
   cases k with
   | zero => rfl
   | succ k =>
    have h2 : us.length = p.length := by simpa using h
    rw [show (k + 1) * 2 = k * 2 + 1 + 1 by omega]
    simp only [rv, List.set_cons_succ]
    rw [ih h2]
theorem Rz.set {w : World} {v old u : Value} {z : Int} {p : Addr} (h : Rz w v z) (hp : w.cell? p = some old) (hno : ∀ n, old ≠ .int .i64 n) : Rz (w.setCell p u) v z := by
 obtain ⟨q, b, off, cap, h1, h2, h3, h4, h5, h6⟩ := h
 refine ⟨q, b, off, cap, h1, h2, h3, h4, h5.imp id (fun g => ⟨g.1, g.2.set _ _⟩), fun k hk => ?_⟩
 rw [World.cell?_setCell_other]
 ·exact h6 k hk
 ·intro e
  subst e
  rw [h6 k hk] at hp
  exact hno _ (Option.some.inj hp).symm
theorem Ap.set {w : World} {g : Nat} {p : List Int} {z : Int} {u : Value} (h : Ap w g p) (k : Nat) (hk : k < p.length) (hu : Rz w u z) : Ap ((w.setCell ⟨g, k * 2, none⟩ (.bool (decide (z < 0)))).setCell ⟨g, k * 2 + 1, none⟩ u) g (p.set k z) := by
 obtain ⟨u0, g0, g1, g2⟩ := h.cell k hk
 obtain ⟨us, hl, h, hz⟩ := h
 have h1 := heap_setCell_same w g (k * 2) _ _ (.bool (decide (z < 0))) h
 have h2 := heap_setCell_same _ g (k * 2 + 1) _ _ u h1
 have hs : ∀ {v' : Value} {z' : Int}, Rz w v' z' → Rz ((w.setCell ⟨g, k * 2, none⟩ (.bool (decide (z < 0)))).setCell ⟨g, k * 2 + 1, none⟩ u) v' z' := fun h' =>
  (h'.set (u := .bool (decide (z < 0))) g0 (fun _ => by simp)).set (old := u0) ((World.cell?_setCell_other w ⟨g, k * 2, none⟩ ⟨g, k * 2 + 1, none⟩ (.bool (decide (z < 0))) (by simp)).trans g1) g2.noint
 refine ⟨us.set k u, by simp [hl], h2.trans ?_, fun j h3 h4 => ?_⟩
 ·rw [← k'ml hl]
  simp
 ·by_cases e : j = k
  ·subst e
   have e1 : (us.set j u)[j]'h3 = u := by simp
   have e2 : (p.set j z)[j]'h4 = z := by simp
   rw [e1, e2]
   exact hs hu
  ·have e1 : (us.set k u)[j]'h3 = us[j]'(by simpa using h3) := by rw [List.getElem_set_ne (Ne.symm e)]
   have e2 : (p.set k z)[j]'h4 = p[j]'(by simpa using h4) := by rw [List.getElem_set_ne (Ne.symm e)]
   rw [e1, e2]
   exact hs (hz j _ _)
theorem Ap.stored {w : World} {g : Nat} {p : List Int} (h : Ap w g p) (k : Nat) (hk : k < p.length) {v : Value} {z : Int} (hv : Rz w v z) (x : Value) (u : Value) : Rz ((w.setCell ⟨g, k * 2, none⟩ x).setCell ⟨g, k * 2 + 1, none⟩ u) v z := by
 obtain ⟨u0, g0, g1, g2⟩ := h.cell k hk
 exact (hv.set (u := x) g0 (fun _ => by simp)).set (old := u0) ((World.cell?_setCell_other w ⟨g, k * 2, none⟩ ⟨g, k * 2 + 1, none⟩ x (by simp)).trans g1) g2.noint
theorem Ap.made (w : World) (n : Nat) : Ap (w.alloc (.cells (rv (List.replicate n 0) (List.replicate n (.slice none 0 0))).toArray 52)) w.heap.size (List.replicate n 0) :=
 ⟨List.replicate n (.slice none 0 0), by simp, heap_alloc_new w _, fun k h1 h2 => by
  have e1 : (List.replicate n (Value.slice none 0 0))[k]'h1 = .slice none 0 0 := by simp
  have e2 : (List.replicate n (0 : Int))[k]'h2 = 0 := by simp
  rw [e1, e2]
  exact k'h6 _⟩
theorem pow9 {m k : Nat} {x : Int} (h : x.natAbs < D9 ^ m) : (x ^ k).natAbs < D9 ^ (m * k + 1) := by
 rw [Int.natAbs_pow]
 have h1 : x.natAbs ^ k ≤ (D9 ^ m) ^ k := Nat.pow_le_pow_left (Nat.le_of_lt h) k
 rw [← Nat.pow_mul] at h1
 exact Nat.lt_of_le_of_lt h1 (Nat.pow_lt_pow_right (by decide) (Nat.lt_succ_self _))
theorem k'mn (n m : Nat) (hn : n ≤ 1000) (hm : m * n ≤ 90000) (hm0 : m ≤ 90000) (x : Int) (sx : x.natAbs < D9 ^ m) (u : Value) (w : World) (hu : Rz w u x) :
 Calls Tryz.prog 104 #[iV x u, .int .i64 (n : Int)] w (IntPost (x ^ n) w) := by
 obtain ⟨w0, hw0⟩ : ∃ w0 : World, w0 = (w.alloc (.cells #[.bool (decide (x < 0)), u] 52)).alloc (.cells #[.bool false, .slice none 0 0] 52) := ⟨_, rfl⟩
 have hb0 : Hid (Below w.heap.size w w0) := by rw [hw0]; exact (k'56 _ _).alloc (by simp) _
 have HX : Hid (Bz w0 w.heap.size x) := by rw [hw0]; exact (Bz.made hu).alloc _
 have I2 : Hid (Bz w0 (w.heap.size + 1) 0) := by
  show Bz _ _ _
  rw [hw0]
  have := Bz.made (k'h6 (w.alloc (.cells #[.bool (decide (x < 0)), u] 52)))
  simpa using this
 have HZ0 : Hid (w0.heap.size = w.heap.size + 2) := by show _ = _; rw [hw0]; simp
 have HN : Hid (∀ w, Calls Tryz.prog 74 #[.int .i64 1] w (IntPost (x ^ 0) w)) := fun w => by rw [Int.pow_zero]; exact k'8f 1 w (by decide) (by decide)
 have HM := i' (fun k (hk : k < n) u1 u2 w' (g1 : Rz w' u1 (x ^ k)) (g2 : Rz w' u2 x) => k'7b (x ^ k) x u1 u2 w' g1 g2 (Nat.le_trans (len9 (pow9 sx)) (by have := Nat.mul_le_mul_left m (Nat.le_of_lt hk); omega)) (Nat.le_trans (len9 sx) (by omega)))
 have HP : ∀ k, x ^ k * x = x ^ (k + 1) := fun k => (Int.pow_succ x k).symm
 simp only [HP] at HM
 have Hw0 := i' hw0
 obtain ⟨pu, bu, ou, cu, hup, -⟩ := hu
 subst hup
 clear hw0 HP sx hm hm0
 obtain ⟨f, hf⟩ : ∃ f : Nat → Int, f = fun k => x ^ k := ⟨_, rfl⟩
 have HF : ∀ k, x ^ k = f k := fun k => by rw [hf]
 simp only [HF] at HM HN ⊢
 unfold iV at HM ⊢
 unfold IntPost iV at HN
 clear HF hf
 go_enter Tryz.func104, Tryz.ntmps104
 go_wp2_with fail
 rw [← Hw0.out]
 refine (HN.out _).mono ?_
 rintro e y0 ⟨v0, rfl, r0, b0⟩
 obtain ⟨u0, hu0⟩ : ∃ u0 : World, u0 = y0.alloc (.cells #[.bool (decide (f 0 < 0)), v0] 52) := ⟨_, rfl⟩
 have T0 : Hid (Bz u0 y0.heap.size (f 0)) := by rw [hu0]; exact Bz.made r0
 have D0 : Hid (Below w0.heap.size w0 u0) := by rw [hu0]; exact b0.alloc b0.size _
 have G0 : Hid (w0.heap.size ≤ y0.heap.size) := b0.size
 obtain ⟨p0, bb0, o0, c0, rfl, rr0⟩ := r0
 have Hu0 := i' hu0
 clear b0 rr0 hu0 Hw0
 go_wp2
 rw [← Hu0.out]
 clear Hu0
 go_loopw [6] (fun iv wr => ∃ (wz : World) (k : Nat), wz = wr ∧ iv = .int .i64 (k : Int) ∧ k ≤ n ∧ Hid (Bz wz y0.heap.size (f k)) ∧ Hid (Below w0.heap.size w0 wz))
  (fun iv _ => n - (intOf iv).toNat)
 case atStart => exact ⟨u0, 0, rfl, rfl, Nat.zero_le _, T0.out, D0.out⟩
 case round =>
  obtain ⟨wz, k, rfl, rfl, hk, ht, hd⟩ := hrel
  clear T0 D0
  obtain ⟨pz, cz, R, k0, k1, k2, k3⟩ := ht.out.open_
  have HR := i' R
  clear R
  by_cases hlt : k < n
  ·have hkk : (k : Int) < (n : Int) := by omega
   obtain ⟨px, cx, RX, x0, x1, -, -⟩ := (HX.out.below hd.out).open_
   have HMk := i' (HM.out k hlt _ _ wz HR.out RX)
   clear RX
   go_wp2_with fail
   refine HMk.out.mono ?_
   rintro e y2 ⟨v2, rfl, r2, b2⟩
   unfold iV
   have ZZ := i' (ht.out.below b2)
   have C2 := i' (k'5c (chain hd.out b2) (g := y0.heap.size) G0.out (.bool (decide (f (k + 1) < 0))) v2)
   have TT := i' (ZZ.out.store r2)
   obtain ⟨_, _, -, j0, j1, j2, j3⟩ := ZZ.out.open_
   obtain ⟨pq2, bb2, oo2, cc2, rfl, rr2⟩ := r2
   clear b2 rr2 k0 k1 k2 k3
   go_wp2
   go_roundw
   case rel => exact ⟨_, k + 1, rfl, by go_num, by omega, TT.out, C2.out⟩
   case measure => simp [intOf]; omega
  ·obtain rfl : k = n := by omega
   have ZI := i' (I2.out.below hd.out)
   obtain ⟨_, _, -, m0, m1, m2, m3⟩ := ZI.out.open_
   have f1 : ¬ y0.heap.size = w.heap.size + 1 := by have := G0.out; have := HZ0.out; omega
   have f2 : ¬ w.heap.size + 1 = y0.heap.size := by have := G0.out; have := HZ0.out; omega
   have HZ := i' (k'5c (chain hb0.out hd.out) (g := w.heap.size + 1) (by omega) (.bool (decide (f k < 0))) (.slice pz (Nm.dg D9 (f k).natAbs).length cz))
   have HR2 := i' (HR.out.stored ZI.out (.bool (decide (f k < 0))) (.slice pz (Nm.dg D9 (f k).natAbs).length cz))
   go_wp2
   exact bodyPost_ret (v := .agg #[.bool (decide (f k < 0)), .slice pz (Nm.dg D9 (f k).natAbs).length cz]) (by simp [results, Tryz.results104, go_sem, m0, m1]) rfl ⟨_, rfl, HR2.out, HZ.out⟩
theorem to_zz (z : Int) {n : Nat} (h : z.natAbs < D9 ^ n) (hn : n ≤ 2000) (w : World) (u : Value) (hu : Rz w u z) : Calls Tryz.prog 39 #[iV z u] w fun e w' => e = .returned (.agg #[.bool (zb z), .string (zs z)]) ∧ Below w.heap.size w w' := by
 have := k'7y z u w hu ((k'i3 h rfl).len (by omega))
 unfold ToPost at this
 rwa [wz_eq] at this
theorem k'n4 (L : List (Bool × ByteArray)) (v : Value) (a b : Bool) (s t : ByteArray) (e : Int) (w : World) (h : Rw w v L) (z : Small L) (z1 : s.size ≤ 140737488351232) (z2 : t.size ≤ 140737488351232) (he : ckv L a s b t = e) (h0 : e ≠ 0) :
 Calls Tryz.prog 43 #[v, rat a s b t] w (Ret (.tuple #[rat false ⟨#[]⟩ false ⟨#[]⟩, .int .i64 e]) w) := by
 obtain ⟨w0, hw0⟩ : ∃ w0 : World, w0 = (w.alloc (.cells #[.bool a, .string s, .bool b, .string t] 59)).alloc (.cells #[.bool false, .string ⟨#[]⟩, .bool false, .string ⟨#[]⟩] 59) := ⟨_, rfl⟩
 have I4 : Hid (ZC4 (.bool false) (.string ⟨#[]⟩) (.bool false) (.string ⟨#[]⟩) w0 (w.heap.size + 1)) := by
  show ZC4 _ _ _ _ _ _
  rw [hw0]
  have := ZC4.made0 (x := .bool false) (y := .string ⟨#[]⟩) (z := .bool false) (u := .string ⟨#[]⟩) (t := 59) (w.alloc (.cells #[.bool a, .string s, .bool b, .string t] 59))
  simpa using this
 have c0 : w0.cell? ⟨w.heap.size, 0, none⟩ = some (.bool a) := by rw [hw0]; simp [go_sem]
 have c1 : w0.cell? ⟨w.heap.size, 1, none⟩ = some (.string s) := by rw [hw0]; simp [go_sem]
 have c2 : w0.cell? ⟨w.heap.size, 2, none⟩ = some (.bool b) := by rw [hw0]; simp [go_sem]
 have c3 : w0.cell? ⟨w.heap.size, 3, none⟩ = some (.string t) := by rw [hw0]; simp [go_sem]
 have B0 : Hid (Below w.heap.size w w0) := by show Below _ _ _; rw [hw0]; exact ((Below.refl _ _).alloc (Nat.le_refl _) _).alloc (by simp) _
 have HD := i' (k'ir L v a b s t w0 (h.below B0.out) z z1 z2)
 rw [he] at HD
 have n0 : (e == 0) = false := by simpa using h0
 have n1 : (e != 0) = true := by simpa using h0
 unfold rat at HD ⊢
 clear h z z1 z2 he h0
 go_enter Tryz.func43, Tryz.ntmps43
 go_wp2_with fail
 rw [← hw0]
 clear hw0
 refine HD.out.mono ?_
 rintro en w1 ⟨rfl, b1⟩
 have B1 := i' (chain B0.out b1)
 obtain ⟨⟨m0, m1, m2, m3⟩, m4, m5, m6, m7⟩ := I4.out.next b1
 have HB8 := i' (k'5g B1.out (Nat.le_succ w.heap.size) (.bool false) (.string ⟨#[]⟩) (.bool false) (.string ⟨#[]⟩))
 clear b1 c0 c1 c2 c3
 go_wp2
 exact bodyPost_ret (v := .tuple #[.agg #[.bool false, .string ⟨#[]⟩, .bool false, .string ⟨#[]⟩], .int .i64 e]) (by simp [results, Tryz.results43, go_sem, m0, m1, m2, m3]) rfl ⟨rfl, HB8.out⟩
theorem k'n5 (L : List (Bool × ByteArray)) (v : Value) (b1 b2 : Bool) (s1 s2 : ByteArray) (w : World) (h : Rw w v L) (z1 : s1.size ≤ 9223372036854775807) (z2 : s2.size ≤ 9223372036854775807)
 (HS : ∀ w', Below w.heap.size w w' → Calls Tryz.prog 11 #[.slice (some ⟨w'.heap.size, 0, none⟩) 1 1] (w'.alloc (.cells #[v] 23)) (BPost false w')) :
 Calls Tryz.prog 6 #[v, .agg #[.bool b1, .string s1, .bool b2, .string s2]] w (Ret (.bool true) w) := by
 obtain ⟨w0, hw0⟩ : ∃ w0 : World, w0 = w.alloc (.cells #[.bool b1, .string s1, .bool b2, .string s2] 59) := ⟨_, rfl⟩
 have I1 : Hid (ZC4 (.bool b1) (.string s1) (.bool b2) (.string s2) w0 w.heap.size) := by rw [hw0]; exact ZC4.made0 w
 have E : Hid (Below w.heap.size w w0) := by rw [hw0]; exact k'56 _ _
 have HK := i' k'l8
 have HS := i' HS
 obtain ⟨p1, a1, o1, c1, rfl, -, -, -, -⟩ := h
 generalize L.length = n1 at *
 clear z1 z2
 unfold BPost at *
 unfold Ret at *
 go_enter Tryz.func6, Tryz.ntmps6
 go_upto_region 1 with (fail)
 rw [← hw0]
 clear hw0
 go_wp2_with fail
 refine (HS.out _ E.out).mono ?_
 rintro e x1 ⟨rfl, b1⟩
 have I1 := i' (I1.out.next b1)
 have E := i' (chain E.out b1)
 clear b1
 obtain ⟨⟨k0, k1, k2, k3⟩, _⟩ := I1.out
 go_wp2_with fail
 clear k0 k1 k2 k3
 refine (HK.out _).mono ?_
 rintro e x2 ⟨rfl, b2⟩
 have I1 := i' (I1.out.next b2)
 have E := i' (chain E.out b2)
 clear b2
 obtain ⟨⟨k0, k1, k2, k3⟩, _⟩ := I1.out
 go_wp2
 go_ret
 exact ⟨rfl, E.out⟩
theorem k'n6 (L : List (Bool × ByteArray)) (v : Value) (b1 b2 : Bool) (s1 s2 : ByteArray) (w : World) (h : Rw w v L) (z1 : s1.size ≤ 9223372036854775807) (z2 : s2.size ≤ 9223372036854775807)
 (HS : ∀ w', Below w.heap.size w w' → Calls Tryz.prog 11 #[.slice (some ⟨w'.heap.size, 0, none⟩) 1 1] (w'.alloc (.cells #[v] 23)) (BPost true w'))
 (l1 : 10 < s1.size) :
 Calls Tryz.prog 6 #[v, .agg #[.bool b1, .string s1, .bool b2, .string s2]] w (Ret (.bool true) w) := by
 obtain ⟨w0, hw0⟩ : ∃ w0 : World, w0 = w.alloc (.cells #[.bool b1, .string s1, .bool b2, .string s2] 59) := ⟨_, rfl⟩
 have I1 : Hid (ZC4 (.bool b1) (.string s1) (.bool b2) (.string s2) w0 w.heap.size) := by rw [hw0]; exact ZC4.made0 w
 have E : Hid (Below w.heap.size w w0) := by rw [hw0]; exact k'56 _ _
 have HK := i' k'l8
 have HS := i' HS
 have f1 : (10 : Int) < (s1.size : Int) := by omega
 obtain ⟨p1, a1, o1, c1, rfl, -, -, -, -⟩ := h
 generalize L.length = n1 at *
 clear z1 z2 l1
 unfold BPost at *
 unfold Ret at *
 go_enter Tryz.func6, Tryz.ntmps6
 go_upto_region 1 with (fail)
 rw [← hw0]
 clear hw0
 go_wp2_with fail
 refine (HS.out _ E.out).mono ?_
 rintro e x1 ⟨rfl, b1⟩
 have I1 := i' (I1.out.next b1)
 have E := i' (chain E.out b1)
 clear b1
 obtain ⟨⟨k0, k1, k2, k3⟩, _⟩ := I1.out
 go_wp2_with fail
 clear k0 k1 k2 k3
 refine (HK.out _).mono ?_
 rintro e x2 ⟨rfl, b2⟩
 have I1 := i' (I1.out.next b2)
 have E := i' (chain E.out b2)
 clear b2
 obtain ⟨⟨k0, k1, k2, k3⟩, _⟩ := I1.out
 go_wp2
 go_ret
 exact ⟨rfl, E.out⟩
theorem k'n7 (L : List (Bool × ByteArray)) (v : Value) (b1 b2 : Bool) (s1 s2 : ByteArray) (w : World) (h : Rw w v L) (z1 : s1.size ≤ 9223372036854775807) (z2 : s2.size ≤ 9223372036854775807)
 (HS : ∀ w', Below w.heap.size w w' → Calls Tryz.prog 11 #[.slice (some ⟨w'.heap.size, 0, none⟩) 1 1] (w'.alloc (.cells #[v] 23)) (BPost true w'))
 (l1 : s1.size ≤ 10)
 (l2 : 10 < s2.size) :
 Calls Tryz.prog 6 #[v, .agg #[.bool b1, .string s1, .bool b2, .string s2]] w (Ret (.bool true) w) := by
 obtain ⟨w0, hw0⟩ : ∃ w0 : World, w0 = w.alloc (.cells #[.bool b1, .string s1, .bool b2, .string s2] 59) := ⟨_, rfl⟩
 have I1 : Hid (ZC4 (.bool b1) (.string s1) (.bool b2) (.string s2) w0 w.heap.size) := by rw [hw0]; exact ZC4.made0 w
 have E : Hid (Below w.heap.size w w0) := by rw [hw0]; exact k'56 _ _
 have HK := i' k'l8
 have HS := i' HS
 have f1 : ¬ (10 : Int) < (s1.size : Int) := by omega
 have f2 : (10 : Int) < (s2.size : Int) := by omega
 obtain ⟨p1, a1, o1, c1, rfl, -, -, -, -⟩ := h
 generalize L.length = n1 at *
 clear z1 z2 l1 l2
 unfold BPost at *
 unfold Ret at *
 go_enter Tryz.func6, Tryz.ntmps6
 go_upto_region 1 with (fail)
 rw [← hw0]
 clear hw0
 go_wp2_with fail
 refine (HS.out _ E.out).mono ?_
 rintro e x1 ⟨rfl, b1⟩
 have I1 := i' (I1.out.next b1)
 have E := i' (chain E.out b1)
 clear b1
 obtain ⟨⟨k0, k1, k2, k3⟩, _⟩ := I1.out
 go_wp2_with fail
 clear k0 k1 k2 k3
 refine (HK.out _).mono ?_
 rintro e x2 ⟨rfl, b2⟩
 have I1 := i' (I1.out.next b2)
 have E := i' (chain E.out b2)
 clear b2
 obtain ⟨⟨k0, k1, k2, k3⟩, _⟩ := I1.out
 go_wp2
 go_ret
 exact ⟨rfl, E.out⟩
theorem k'n8 (L : List (Bool × ByteArray)) (v : Value) (b1 b2 : Bool) (s1 s2 : ByteArray) (w : World) (h : Rw w v L) (z1 : s1.size ≤ 9223372036854775807) (z2 : s2.size ≤ 9223372036854775807)
 (HS : ∀ w', Below w.heap.size w w' → Calls Tryz.prog 11 #[.slice (some ⟨w'.heap.size, 0, none⟩) 1 1] (w'.alloc (.cells #[v] 23)) (BPost true w'))
 (l1 : s1.size ≤ 10)
 (l2 : s2.size ≤ 10)
 (HA : ∀ w', Below w.heap.size w w' → Calls Tryz.prog 42 #[v, .agg #[.bool b1, .string s1, .bool b2, .string s2]] w' (Ret (.tuple #[.agg #[.bool false, .string ⟨#[]⟩], .int .i64 2]) w'))
 (HB : ∀ w', Below w.heap.size w w' → Calls Tryz.prog 43 #[v, .agg #[.bool b1, .string s1, .bool b2, .string s2]] w' (Ret (.tuple #[.agg #[.bool false, .string ⟨#[]⟩, .bool false, .string ⟨#[]⟩], .int .i64 2]) w'))
 (HC : ∀ w', Below w.heap.size w w' → Calls Tryz.prog 44 #[v, .agg #[.bool b1, .string s1, .bool b2, .string s2]] w' (Ret (.tuple #[.int .i64 0, .int .i64 2]) w'))
 (HV : ∀ w', Below w.heap.size w w' → Calls Tryz.prog 19 #[.slice (some ⟨w'.heap.size, 0, none⟩) 1 1] (w'.alloc (.cells #[v] 23)) (BPost false w')) :
 Calls Tryz.prog 6 #[v, .agg #[.bool b1, .string s1, .bool b2, .string s2]] w (Ret (.bool true) w) := by
 obtain ⟨w0, hw0⟩ : ∃ w0 : World, w0 = w.alloc (.cells #[.bool b1, .string s1, .bool b2, .string s2] 59) := ⟨_, rfl⟩
 have I1 : Hid (ZC4 (.bool b1) (.string s1) (.bool b2) (.string s2) w0 w.heap.size) := by rw [hw0]; exact ZC4.made0 w
 have E : Hid (Below w.heap.size w w0) := by rw [hw0]; exact k'56 _ _
 have HK := i' k'l8
 have HS := i' HS
 have HA := i' HA
 have HB := i' HB
 have HC := i' HC
 have HV := i' HV
 have f1 : ¬ (10 : Int) < (s1.size : Int) := by omega
 have f2 : ¬ (10 : Int) < (s2.size : Int) := by omega
 obtain ⟨p1, a1, o1, c1, rfl, -, -, -, -⟩ := h
 generalize L.length = n1 at *
 clear z1 z2 l1 l2
 unfold BPost at *
 unfold Ret at *
 go_enter Tryz.func6, Tryz.ntmps6
 go_upto_region 1 with (fail)
 rw [← hw0]
 clear hw0
 go_wp2_with fail
 refine (HS.out _ E.out).mono ?_
 rintro e x1 ⟨rfl, b1⟩
 have I1 := i' (I1.out.next b1)
 have E := i' (chain E.out b1)
 clear b1
 obtain ⟨⟨k0, k1, k2, k3⟩, _⟩ := I1.out
 go_wp2_with fail
 clear k0 k1 k2 k3
 refine (HA.out _ E.out).mono ?_
 rintro e x2 ⟨rfl, b2⟩
 have I1 := i' (I1.out.next b2)
 have E := i' (chain E.out b2)
 clear b2
 obtain ⟨⟨k0, k1, k2, k3⟩, _⟩ := I1.out
 clear k0 k1 k2 k3
 obtain ⟨u5, hu⟩ : ∃ u : World, u = x2.alloc (.cells #[.bool false, .string ⟨#[]⟩] 44) := ⟨_, rfl⟩
 have N9 : Hid (ZC (.bool false) (.string ⟨#[]⟩) u5 x2.heap.size) := by rw [hu]; exact ZC.new rfl
 have B9 : Hid (Below x2.heap.size x2 u5) := by rw [hu]; exact k'56 _ _
 have E := i' (chain E.out B9.out)
 have I1 := i' (I1.out.next B9.out)
 have T5 := N9
 go_upto_region 4 with (fail)
 rw [← hu]
 clear hu B9 N9
 obtain ⟨⟨k0, k1, k2, k3⟩, _⟩ := I1.out
 go_wp2_with fail
 clear k0 k1 k2 k3
 refine (HB.out _ E.out).mono ?_
 rintro e x3 ⟨rfl, b3⟩
 have I1 := i' (I1.out.next b3)
 have T5 := i' (T5.out.next b3)
 have E := i' (chain E.out b3)
 clear b3
 obtain ⟨⟨k0, k1, k2, k3⟩, _⟩ := I1.out
 clear k0 k1 k2 k3
 obtain ⟨u7, hu⟩ : ∃ u : World, u = x3.alloc (.cells #[.bool false, .string ⟨#[]⟩, .bool false, .string ⟨#[]⟩] 59) := ⟨_, rfl⟩
 have N9 : Hid (ZC4 (.bool false) (.string ⟨#[]⟩) (.bool false) (.string ⟨#[]⟩) u7 x3.heap.size) := by rw [hu]; exact ZC4.made0 x3
 have B9 : Hid (Below x3.heap.size x3 u7) := by rw [hu]; exact k'56 _ _
 have E := i' (chain E.out B9.out)
 have I1 := i' (I1.out.next B9.out)
 have T5 := i' (T5.out.next B9.out)
 have T7 := N9
 go_upto_region 5 with (fail)
 rw [← hu]
 clear hu B9 N9
 obtain ⟨⟨k0, k1, k2, k3⟩, _⟩ := I1.out
 go_wp2_with fail
 clear k0 k1 k2 k3
 refine (HC.out _ E.out).mono ?_
 rintro e x4 ⟨rfl, b4⟩
 have I1 := i' (I1.out.next b4)
 have T5 := i' (T5.out.next b4)
 have T7 := i' (T7.out.next b4)
 have E := i' (chain E.out b4)
 clear b4
 obtain ⟨⟨k0, k1, k2, k3⟩, _⟩ := I1.out
 go_wp2_with fail
 clear k0 k1 k2 k3
 refine (HV.out _ E.out).mono ?_
 rintro e x5 ⟨rfl, b5⟩
 have I1 := i' (I1.out.next b5)
 have T5 := i' (T5.out.next b5)
 have T7 := i' (T7.out.next b5)
 have E := i' (chain E.out b5)
 clear b5
 obtain ⟨⟨k0, k1, k2, k3⟩, _⟩ := I1.out
 obtain ⟨m0, m1, _⟩ := T5.out
 obtain ⟨⟨m2, m3, m4, m5⟩, _⟩ := T7.out
 go_wp2_with fail
 clear k0 k1 k2 k3
 refine (HK.out _).mono ?_
 rintro e x6 ⟨rfl, b6⟩
 have I1 := i' (I1.out.next b6)
 have T5 := i' (T5.out.next b6)
 have T7 := i' (T7.out.next b6)
 have E := i' (chain E.out b6)
 clear b6
 obtain ⟨⟨k0, k1, k2, k3⟩, _⟩ := I1.out
 go_wp2
 go_ret
 exact ⟨rfl, E.out⟩
theorem k'n9 (L : List (Bool × ByteArray)) (v : Value) (b1 b2 : Bool) (s1 s2 : ByteArray) (w : World) (h : Rw w v L) (z1 : s1.size ≤ 9223372036854775807) (z2 : s2.size ≤ 9223372036854775807)
 (HS : ∀ w', Below w.heap.size w w' → Calls Tryz.prog 11 #[.slice (some ⟨w'.heap.size, 0, none⟩) 1 1] (w'.alloc (.cells #[v] 23)) (BPost true w'))
 (l1 : s1.size ≤ 10)
 (l2 : s2.size ≤ 10)
 (HA : ∀ w', Below w.heap.size w w' → Calls Tryz.prog 42 #[v, .agg #[.bool b1, .string s1, .bool b2, .string s2]] w' (Ret (.tuple #[.agg #[.bool false, .string ⟨#[]⟩], .int .i64 2]) w'))
 (HB : ∀ w', Below w.heap.size w w' → Calls Tryz.prog 43 #[v, .agg #[.bool b1, .string s1, .bool b2, .string s2]] w' (Ret (.tuple #[.agg #[.bool false, .string ⟨#[]⟩, .bool false, .string ⟨#[]⟩], .int .i64 2]) w'))
 (HC : ∀ w', Below w.heap.size w w' → Calls Tryz.prog 44 #[v, .agg #[.bool b1, .string s1, .bool b2, .string s2]] w' (Ret (.tuple #[.int .i64 0, .int .i64 2]) w'))
 (HV : ∀ w', Below w.heap.size w w' → Calls Tryz.prog 19 #[.slice (some ⟨w'.heap.size, 0, none⟩) 1 1] (w'.alloc (.cells #[v] 23)) (BPost true w'))
 (HW : ∀ w', Calls Tryz.prog 45 #[.agg #[.bool b1, .string s1, .bool b2, .string s2]] w' (BPost false w')) :
 Calls Tryz.prog 6 #[v, .agg #[.bool b1, .string s1, .bool b2, .string s2]] w (Ret (.bool true) w) := by
 obtain ⟨w0, hw0⟩ : ∃ w0 : World, w0 = w.alloc (.cells #[.bool b1, .string s1, .bool b2, .string s2] 59) := ⟨_, rfl⟩
 have I1 : Hid (ZC4 (.bool b1) (.string s1) (.bool b2) (.string s2) w0 w.heap.size) := by rw [hw0]; exact ZC4.made0 w
 have E : Hid (Below w.heap.size w w0) := by rw [hw0]; exact k'56 _ _
 have HK := i' k'l8
 have HS := i' HS
 have HA := i' HA
 have HB := i' HB
 have HC := i' HC
 have HV := i' HV
 have HW := i' HW
 have f1 : ¬ (10 : Int) < (s1.size : Int) := by omega
 have f2 : ¬ (10 : Int) < (s2.size : Int) := by omega
 obtain ⟨p1, a1, o1, c1, rfl, -, -, -, -⟩ := h
 generalize L.length = n1 at *
 clear z1 z2 l1 l2
 unfold BPost at *
 unfold Ret at *
 go_enter Tryz.func6, Tryz.ntmps6
 go_upto_region 1 with (fail)
 rw [← hw0]
 clear hw0
 go_wp2_with fail
 refine (HS.out _ E.out).mono ?_
 rintro e x1 ⟨rfl, b1⟩
 have I1 := i' (I1.out.next b1)
 have E := i' (chain E.out b1)
 clear b1
 obtain ⟨⟨k0, k1, k2, k3⟩, _⟩ := I1.out
 go_wp2_with fail
 clear k0 k1 k2 k3
 refine (HA.out _ E.out).mono ?_
 rintro e x2 ⟨rfl, b2⟩
 have I1 := i' (I1.out.next b2)
 have E := i' (chain E.out b2)
 clear b2
 obtain ⟨⟨k0, k1, k2, k3⟩, _⟩ := I1.out
 clear k0 k1 k2 k3
 obtain ⟨u5, hu⟩ : ∃ u : World, u = x2.alloc (.cells #[.bool false, .string ⟨#[]⟩] 44) := ⟨_, rfl⟩
 have N9 : Hid (ZC (.bool false) (.string ⟨#[]⟩) u5 x2.heap.size) := by rw [hu]; exact ZC.new rfl
 have B9 : Hid (Below x2.heap.size x2 u5) := by rw [hu]; exact k'56 _ _
 have E := i' (chain E.out B9.out)
 have I1 := i' (I1.out.next B9.out)
 have T5 := N9
 go_upto_region 4 with (fail)
 rw [← hu]
 clear hu B9 N9
 obtain ⟨⟨k0, k1, k2, k3⟩, _⟩ := I1.out
 go_wp2_with fail
 clear k0 k1 k2 k3
 refine (HB.out _ E.out).mono ?_
 rintro e x3 ⟨rfl, b3⟩
 have I1 := i' (I1.out.next b3)
 have T5 := i' (T5.out.next b3)
 have E := i' (chain E.out b3)
 clear b3
 obtain ⟨⟨k0, k1, k2, k3⟩, _⟩ := I1.out
 clear k0 k1 k2 k3
 obtain ⟨u7, hu⟩ : ∃ u : World, u = x3.alloc (.cells #[.bool false, .string ⟨#[]⟩, .bool false, .string ⟨#[]⟩] 59) := ⟨_, rfl⟩
 have N9 : Hid (ZC4 (.bool false) (.string ⟨#[]⟩) (.bool false) (.string ⟨#[]⟩) u7 x3.heap.size) := by rw [hu]; exact ZC4.made0 x3
 have B9 : Hid (Below x3.heap.size x3 u7) := by rw [hu]; exact k'56 _ _
 have E := i' (chain E.out B9.out)
 have I1 := i' (I1.out.next B9.out)
 have T5 := i' (T5.out.next B9.out)
 have T7 := N9
 go_upto_region 5 with (fail)
 rw [← hu]
 clear hu B9 N9
 obtain ⟨⟨k0, k1, k2, k3⟩, _⟩ := I1.out
 go_wp2_with fail
 clear k0 k1 k2 k3
 refine (HC.out _ E.out).mono ?_
 rintro e x4 ⟨rfl, b4⟩
 have I1 := i' (I1.out.next b4)
 have T5 := i' (T5.out.next b4)
 have T7 := i' (T7.out.next b4)
 have E := i' (chain E.out b4)
 clear b4
 obtain ⟨⟨k0, k1, k2, k3⟩, _⟩ := I1.out
 go_wp2_with fail
 clear k0 k1 k2 k3
 refine (HV.out _ E.out).mono ?_
 rintro e x5 ⟨rfl, b5⟩
 have I1 := i' (I1.out.next b5)
 have T5 := i' (T5.out.next b5)
 have T7 := i' (T7.out.next b5)
 have E := i' (chain E.out b5)
 clear b5
 obtain ⟨⟨k0, k1, k2, k3⟩, _⟩ := I1.out
 go_wp2_with fail
 clear k0 k1 k2 k3
 refine (HW.out _).mono ?_
 rintro e x6 ⟨rfl, b6⟩
 have I1 := i' (I1.out.next b6)
 have T5 := i' (T5.out.next b6)
 have T7 := i' (T7.out.next b6)
 have E := i' (chain E.out b6)
 clear b6
 obtain ⟨⟨k0, k1, k2, k3⟩, _⟩ := I1.out
 obtain ⟨m0, m1, _⟩ := T5.out
 obtain ⟨⟨m2, m3, m4, m5⟩, _⟩ := T7.out
 go_wp2_with fail
 clear k0 k1 k2 k3
 refine (HK.out _).mono ?_
 rintro e x7 ⟨rfl, b7⟩
 have I1 := i' (I1.out.next b7)
 have T5 := i' (T5.out.next b7)
 have T7 := i' (T7.out.next b7)
 have E := i' (chain E.out b7)
 clear b7
 obtain ⟨⟨k0, k1, k2, k3⟩, _⟩ := I1.out
 go_wp2
 go_ret
 exact ⟨rfl, E.out⟩
end Go.Proofs.YtepddegphdlbeaaGreat
