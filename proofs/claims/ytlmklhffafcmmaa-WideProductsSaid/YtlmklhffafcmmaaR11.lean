/- What the theorem leans on, part 11: RefQuo3, RefQuo4, RefQuo, LShift, Knuth, DivA, DivB. -/
import Derived.Test.YtlmklhffafcmmaaR10
import Derived.Test.YtlmklhffafcmmaaR1

/- The reference's Quo: the walk where the first rest is negative. -/
namespace Go.Proofs.Ytlmklhffafcmmaa
open Go.RowKit

set_option maxRecDepth 100000 in
set_option maxHeartbeats 8000000 in
theorem rquo_neg1 (x y : Int) (v1 v2 : Value) (w : World) (k : Nat) (hk : k ≤ 90000) (hx : x.natAbs < D9 ^ k) (hy : y.natAbs < D9 ^ k) (h1 : Rz w v1 x) (h2 : Rz w v2 y) (hs : 0 < y) (hr : x - q0 x y * y < 0) :
    Calls Try.prog 39 #[iV x v1, iV y v2] w (QIPost (q0 x y - 1) (x - (q0 x y - 1) * y) w) := by
  have lx := lenD hx
  have ly := lenD hy
  have H_over := Lib.hid (fun v1 v2 w g1 g2 => rover_any v1 v2 x.natAbs y.natAbs w (by omega) g1 g2 (by omega) (by omega))
  have H_made := Lib.hid (fun v w g => (rmade_any (decide (x < 0) != decide (y < 0)) v (x.natAbs / y.natAbs) w g).mono (made_int (z := q0 x y) rfl))
  have lq := Nat.le_trans (lenD (Nat.lt_of_le_of_lt (q0_le x y) hx)) (by omega : k ≤ 1000000)
  have lqy := Nat.le_trans (lenD (Nat.lt_of_le_of_lt (q0y_le x y) hx)) (by omega : k ≤ 1000000)
  have H_mul := Lib.hid (fun v1 v2 w g1 g2 => rmul_int (q0 x y) y v1 v2 w g1 g2 lq (by omega))
  have H_sub := Lib.hid (fun v1 v2 w g1 g2 => rsub_int x (q0 x y * y) v1 v2 w g1 g2 (by omega) lqy)
  have H_sgn := Lib.hid (fun v w g => rsign_int (x - q0 x y * y) v w g)
  have H_sgy := Lib.hid (fun v w g => rsign_int y v w g)
  rw [Int.sign_eq_one_of_pos hs] at H_sgy
  rw [Int.sign_eq_neg_one_of_neg hr] at H_sgn
  obtain ⟨zi, hzi⟩ : ∃ z : Int, z = 1 := ⟨_, rfl⟩
  have H_n1 : Hid (∀ w, Calls Try.prog 25 #[.int .i64 1] w (IntPost zi w)) := by rw [hzi]; exact fun w => rnum_any 1 w (by decide) (by decide)
  have H_adj0 : ∀ z : Int, z = 1 → ∀ v1 v2 w, Rz w v1 (q0 x y) → Rz w v2 z → Calls Try.prog 33 #[iV (q0 x y) v1, iV z v2] w (IntPost (q0 x y - 1) w) := by
    intro z hz v1 v2 w g1 g2
    subst hz
    exact rsub_int (q0 x y) 1 v1 v2 w g1 g2 lq (Nat.le_trans (lenD (k := 3) (by decide)) (by decide))
  have H_adj := Lib.hid (H_adj0 zi hzi)
  clear H_adj0
  have lq1 : (Nm.dg D9 (q0 x y - 1).natAbs).length ≤ 1000000 := by
    have a1 := q0_le x y
    refine Nat.le_trans (lenD (k := k + 1) (twice ?_)) (by omega)
    have : 0 < D9 ^ k := Nat.pow_pos D90
    omega
  have lqy1 : (Nm.dg D9 ((q0 x y - 1) * y).natAbs).length ≤ 1000000 := by
    have a1 := q0y_le x y
    rw [Int.sub_mul, Int.one_mul]
    refine Nat.le_trans (lenD (k := k + 1) (twice ?_)) (by omega)
    omega
  have H_mul2 := Lib.hid (fun v1 v2 w g1 g2 => rmul_int (q0 x y - 1) y v1 v2 w g1 g2 lq1 (by omega))
  have H_sub2 := Lib.hid (fun v1 v2 w g1 g2 => rsub_int x ((q0 x y - 1) * y) v1 v2 w g1 g2 (by omega) lqy1)
  clear hzi lq1 lqy1
  obtain ⟨sb, hsb⟩ : ∃ sb, (decide (x < 0) != decide (y < 0)) = sb := ⟨_, rfl⟩
  rw [hsb] at H_made
  have HX := Lib.hid h1
  have HY := Lib.hid h2
  clear lq lqy lx ly hx hy hk hr
  clear hs
  unfold IntPost iV at H_made H_mul H_sub H_adj H_mul2 H_sub2
  unfold IntPost at H_n1
  unfold iV at H_n1
  unfold iV at H_sgn
  unfold iV at H_sgy
  unfold SignPost at H_sgn H_sgy
  unfold OverPost at H_over
  unfold QIPost iV
  generalize x.natAbs / y.natAbs = dd at *
  generalize x.natAbs % y.natAbs = de at *
  obtain ⟨bx, hbx⟩ : ∃ b, decide (x < 0) = b := ⟨_, rfl⟩
  obtain ⟨by', hby⟩ : ∃ b, decide (y < 0) = b := ⟨_, rfl⟩
  rw [hbx, hby] at hsb
  have hsb2 : (!(bx == by')) = sb := hsb
  rw [hby] at H_mul H_mul2 H_sgy
  rw [hbx] at H_sub H_sub2 ⊢
  rw [hby]
  clear hbx hby hsb
  generalize hr1 : x - (q0 x y - 1) * y = r1 at *
  generalize (q0 x y - 1) * y = q1y at *
  generalize hq1 : q0 x y - 1 = q1 at *
  clear hr1 hq1
  generalize x - q0 x y * y = r at *
  generalize q0 x y * y = qy at *
  generalize q0 x y = q at *
  generalize decide (qy < 0) = bqy at *
  generalize decide (q1y < 0) = bq1y at *
  generalize decide (zi < 0) = bzi at *
  obtain ⟨bq1, hbq1⟩ : ∃ b, decide (q1 < 0) = b := ⟨_, rfl⟩
  obtain ⟨br1, hbr1⟩ : ∃ b, decide (r1 < 0) = b := ⟨_, rfl⟩
  rw [hbq1] at H_adj H_mul2
  rw [hbr1] at H_sub2
  have HQQ := Lib.hid hbq1
  have HRR := Lib.hid hbr1
  clear hbq1 hbr1
  obtain ⟨bq, hbq⟩ : ∃ b, decide (q < 0) = b := ⟨_, rfl⟩
  rw [hbq] at H_made H_mul H_adj
  obtain ⟨pa, ba, oa, ca, rfl, hra⟩ := h1
  obtain ⟨pb, bb, ob, cb, rfl, hrb⟩ := h2
  clear hra hrb
  generalize (Nm.dg D9 x.natAbs).length = la at *
  generalize (Nm.dg D9 y.natAbs).length = lb at *
  obtain ⟨w0, hw0⟩ : ∃ w0 : World, w0 = (((w.alloc (.cells #[.bool bx, .slice pa la ca] 31)).alloc (.cells #[.bool by', .slice pb lb cb] 31)).alloc (.cells #[.bool false, .slice none 0 0] 31)).alloc (.cells #[.bool false, .slice none 0 0] 31) := ⟨_, rfl⟩
  have hb0 : Hid (Below w.heap.size w w0) := by rw [hw0]; exact ((((Below.refl _ _).alloc (Nat.le_refl _) _).alloc (by simp) _).alloc (by simp; omega) _).alloc (by simp; omega) _
  have I1 : Hid (ZC (.bool bx) (.slice pa la ca) w0 w.heap.size) := by rw [hw0]; exact (((ZC.new rfl).alloc _).alloc _).alloc _
  have I2 : Hid (ZC (.bool by') (.slice pb lb cb) w0 (w.heap.size + 1)) := by rw [hw0]; exact ((ZC.new (by simp)).alloc _).alloc _
  have I3 : Hid (ZC (.bool false) (.slice none 0 0) w0 (w.heap.size + 1 + 1)) := by rw [hw0]; exact (ZC.new (by simp)).alloc _
  have I4 : Hid (ZC (.bool false) (.slice none 0 0) w0 (w.heap.size + 1 + 1 + 1)) := by rw [hw0]; exact ZC.new (by simp)
  have Hsz : Hid (w.heap.size + 4 ≤ w0.heap.size) := by rw [hw0]; show _ ≤ _; simp
  have RX := Lib.hid (Ri.below HX.out hb0.out (Nat.le_refl _))
  have RY := Lib.hid (Ri.below HY.out hb0.out (Nat.le_refl _))
  have Hw0 := Lib.hid hw0
  clear hw0 HX HY
  go_enter Try.func39, Try.ntmps39
  go_wp2_with fail
  rw [← Hw0.out]
  clear Hw0
  refine (H_over.out _ _ _ RX.out RY.out).mono ?_
  rintro e y1 ⟨vq, vr, rfl, rq, rr, b1⟩
  have D := Lib.hid b1
  obtain ⟨k0, k1, _⟩ := I1.out.next D.out
  obtain ⟨k2, k3, _⟩ := I2.out.next D.out
  have RQ := Lib.hid rq
  obtain ⟨pq, bq', oq, cq, rfl, hrq⟩ := rq
  clear b1 rr hrq
  go_wp2_with fail
  refine (H_made.out _ _ RQ.out).mono ?_
  rintro e y2 ⟨v8, rfl, r8, b2⟩
  have D := Lib.hid (chain D.out b2)
  obtain ⟨u2, hu2⟩ : ∃ u : World, u = y2.alloc (.cells #[.bool bq, v8] 31) := ⟨_, rfl⟩
  have R8 : Hid (Rz u2 v8 q) := by rw [hu2]; exact Ri.allocd r8 _
  have T8 : Hid (ZC (.bool bq) v8 u2 y2.heap.size) := by rw [hu2]; exact ZC.new rfl
  have hw8 : Hid (w0.heap.size ≤ y2.heap.size) := D.out.size
  have hy2 : Hid (w.heap.size + 4 ≤ y2.heap.size) := Nat.le_trans Hsz.out D.out.size
  have D : Hid (Below w0.heap.size w0 u2) := by rw [hu2]; exact D.out.alloc D.out.size _
  obtain ⟨p8, bb8, o8, c8, rfl, rr8⟩ := r8
  clear rr8
  generalize (Nm.dg D9 q.natAbs).length = l8 at *
  obtain ⟨k0, k1, _⟩ := I1.out.next D.out
  obtain ⟨k2, k3, _⟩ := I2.out.next D.out
  obtain ⟨k4, k5, _⟩ := T8.out
  have HSB : Hid (w.heap.size + 4 ≤ u2.heap.size) := Nat.le_trans Hsz.out D.out.size
  have hu2g : Hid (y2.heap.size < u2.heap.size) := T8.out.lt
  have Hu2 := Lib.hid hu2
  clear b2 hu2 RQ
  have RXu := Lib.hid (Ri.below RX.out D.out (Nat.le_refl _))
  have RYu := Lib.hid (Ri.below RY.out D.out (Nat.le_refl _))
  go_upto_region 3 with (fail)
  rw [← Hu2.out]
  clear Hu2
  obtain ⟨ja, jb, jc, jd, je, jf, jg, jh, ji, jj, jk, jl⟩ := far8q HSB.out
  have jm := hu2g.out
  have jn : ¬ y2.heap.size = u2.heap.size := Nat.ne_of_lt jm
  have jo : ¬ u2.heap.size = y2.heap.size := Nat.ne_of_gt jm
  go_cut [9] (fun s9 wx => ∃ (g9 : Nat) (p9 : Option Addr) (n9 c9 : Nat), s9 = .pointer (some ⟨g9, 0, none⟩) ∧ Hid (CutO (decide (r < 0)) (.slice p9 n9 c9) (Nm.dg D9 r.natAbs) u2.heap.size u2 wx g9))
  case first =>
    rename_i J0 K0 hRJ hMK
    go_region_held3 (fun W' => W'.cell? ⟨w.heap.size, 0, none⟩ = some (.bool bx) ∧ W'.cell? ⟨w.heap.size, 1, none⟩ = some (.slice pa la ca) ∧ W'.cell? ⟨w.heap.size + 1, 0, none⟩ = some (.bool by') ∧ W'.cell? ⟨w.heap.size + 1, 1, none⟩ = some (.slice pb lb cb) ∧ W'.cell? ⟨y2.heap.size, 0, none⟩ = some (.bool bq) ∧ W'.cell? ⟨y2.heap.size, 1, none⟩ = some (.slice p8 l8 c8)) (go_keep)
      (first
        | (go_at_call 37; (with_reducible refine (H_mul.out _ _ _ (by first | exact Ri.drew R8.out | exact Ri.allocd (Ri.drew R8.out) _ | exact Ri.drew (Ri.allocd R8.out _)) (by first | exact Ri.drew RYu.out | exact Ri.allocd (Ri.drew RYu.out) _ | exact Ri.drew (Ri.allocd RYu.out _))).mono ?_); rintro e w1 ⟨vm, rfl, rz1, bz1⟩; (try (have bz1 := undrew bz1)); have d1 : Below u2.heap.size u2 w1 := chain (by first | exact Below.refl _ _ | exact (Below.refl _ _).drew | exact below_one _ _ | exact ((Below.refl _ _).drew).alloc (Nat.le_refl _) _) bz1; have e1 : Below u2.heap.size u2 w1 := d1; have p0 := keep1 e1 k0; have p1 := keep1 e1 k1; have p2 := keep1 e1 k2; have p3 := keep1 e1 k3; have p4 := keep1 e1 k4; have p5 := keep1 e1 k5; obtain ⟨j1a, j1b, j1c, j1d, j1e, j1f, j1g, j1h, j1i, j1j, j1k, j1l⟩ := far8q (Nat.le_trans HSB.out e1.size); have j1m := Nat.lt_of_lt_of_le hu2g.out e1.size; have j1n : ¬ y2.heap.size = w1.heap.size := Nat.ne_of_lt j1m; have j1o : ¬ w1.heap.size = y2.heap.size := Nat.ne_of_gt j1m; (try (have A0 := Lib.hid (ZC.made (g := u2.heap.size) rfl bz1); obtain ⟨A0a, A0b, A0c, A0d⟩ := A0.out)); (try (have L01 := Lib.hid (apart_b (g := u2.heap.size) rfl bz1); obtain ⟨l01x, l01y, l01z⟩ := L01.out)); have G1 := Lib.hid rz1; obtain ⟨pr1, br1, or1, cr1, rfl, rr1⟩ := rz1; clear rr1)
        | (go_at_call 33; (with_reducible refine (H_sub.out _ _ _ (by first | exact Ri.below RXu.out e1 (Nat.le_refl _) | exact Ri.allocd (Ri.below RXu.out e1 (Nat.le_refl _)) _) (by first | exact G1.out | exact Ri.allocd G1.out _)).mono ?_); rintro e w2 ⟨vs, rfl, rz2, bz2⟩; (try (have bz2 := undrew bz2)); have d2 : Below w1.heap.size w1 w2 := chain (by first | exact Below.refl _ _ | exact (Below.refl _ _).drew | exact below_one _ _ | exact ((Below.refl _ _).drew).alloc (Nat.le_refl _) _) bz2; have e2 : Below u2.heap.size u2 w2 := chain e1 d2; have p0 := keep1 e2 k0; have p1 := keep1 e2 k1; have p2 := keep1 e2 k2; have p3 := keep1 e2 k3; have p4 := keep1 e2 k4; have p5 := keep1 e2 k5; obtain ⟨j2a, j2b, j2c, j2d, j2e, j2f, j2g, j2h, j2i, j2j, j2k, j2l⟩ := far8q (Nat.le_trans HSB.out e2.size); have j2m := Nat.lt_of_lt_of_le hu2g.out e2.size; have j2n : ¬ y2.heap.size = w2.heap.size := Nat.ne_of_lt j2m; have j2o : ¬ w2.heap.size = y2.heap.size := Nat.ne_of_gt j2m; (try (have A1 := Lib.hid (ZC.made (g := w1.heap.size) rfl bz2); obtain ⟨A1a, A1b, A1c, A1d⟩ := A1.out)); (try (have A0 := Lib.hid (A0.out.next d2); obtain ⟨A0a, A0b, A0c, A0d⟩ := A0.out)); (try (have L02 := Lib.hid (apart_t L01.out d2.size); obtain ⟨l02x, l02y, l02z⟩ := L02.out)); (try (have L12 := Lib.hid (apart_b (g := w1.heap.size) rfl bz2); obtain ⟨l12x, l12y, l12z⟩ := L12.out)); have G2 := Lib.hid rz2; obtain ⟨pr2, br2, or2, cr2, rfl, rr2⟩ := rz2; clear rr2)
        | fail)
    all_goals
      refine hMK _ _ (Met.intro (hRJ _ _ ?_))
      (repeat apply Exists.intro)
      refine ⟨?_, rfl⟩
      refine ⟨_, pr2, (Nm.dg D9 r.natAbs).length, cr2, rfl, ?_⟩
      show CutO _ (.slice pr2 _ cr2) _ u2.heap.size u2 _ _
      have sA0 : u2.heap.size ≤ u2.heap.size := Nat.le_refl _
      have sA1 : u2.heap.size ≤ w1.heap.size := e1.size
      have sA2 : u2.heap.size ≤ w2.heap.size := e2.size
      first
        | with_reducible exact CutO.k1 G2.out e2 sA2
        | with_reducible exact CutO.k2 A0.out sA0 G2.out e2
        | with_reducible exact CutO.k2 A1.out sA1 G2.out e2
        | fail
  obtain ⟨g9, p9, n9, c9, rfl, hcut⟩ := hcut
  obtain ⟨hg9, t9, r9, b9⟩ := hcut.out
  have D := Lib.hid (chain D.out b9)
  have T8 := Lib.hid (T8.out.next b9)
  have R8 := Lib.hid (Ri.below R8.out b9 (Nat.le_refl _))
  have T9 := Lib.hid t9
  have R9 := Lib.hid r9
  have hg9' : Hid (w.heap.size + 4 ≤ g9) := Nat.le_trans HSB.out hg9
  have hg9w : Hid (w0.heap.size ≤ g9) := Nat.le_trans hw8.out (Nat.le_of_lt (Nat.lt_of_lt_of_le hu2g.out hg9))
  have hg89 : Hid (y2.heap.size < g9) := Nat.lt_of_lt_of_le hu2g.out hg9
  obtain ⟨k0, k1, _⟩ := T9.out
  clear hcut hg9 t9 r9 b9 ja jb jc jd je jf jg jh ji jj jk jl jm jn jo k2 k3 k4 k5
  obtain ⟨br, hbr⟩ : ∃ b, decide (r < 0) = b := ⟨_, rfl⟩
  rw [hbr] at T9 k0 H_sgn
  go_wp2_with fail
  refine (H_sgn.out _ _ R9.out).mono ?_
  rintro e y3 ⟨rfl, b3⟩
  have D := Lib.hid (chain D.out b3)
  have T8 := Lib.hid (T8.out.next b3)
  have R8 := Lib.hid (Ri.below R8.out b3 (Nat.le_refl _))
  have T9 := Lib.hid (T9.out.next b3)
  have R9 := Lib.hid (Ri.below R9.out b3 (Nat.le_refl _))
  clear b3 k0 k1
  obtain ⟨k2, k3, _⟩ := I2.out.next D.out
  have HRRn := Lib.hid hbr
  clear hbr hbq
  go_wp2_with fail
  refine (H_sgy.out _ _ (Ri.below RY.out D.out (Nat.le_refl _))).mono ?_
  rintro e y4 ⟨rfl, b4⟩
  have D := Lib.hid (chain D.out b4)
  have T8 := Lib.hid (T8.out.next b4)
  have R8 := Lib.hid (Ri.below R8.out b4 (Nat.le_refl _))
  have T9 := Lib.hid (T9.out.next b4)
  clear b4 k2 k3 R9
  obtain ⟨k4, k5, k6, k7⟩ := T8.out
  have R8d := Lib.hid (Ri.drew R8.out)
  go_upto_region 6 with (fail)
  go_cut [38] (fun _ wx => ∃ (p : Option Addr) (n c : Nat), Hid (ZC (.bool bq1) (.slice p n c) wx y2.heap.size) ∧ Hid (Rz wx (.slice p n c) q1) ∧ Hid (ZC (.bool br) (.slice p9 n9 c9) wx g9) ∧ Hid (Below w0.heap.size w0 wx))
  case first =>
    rename_i J0 K0 hRJ hMK
    go_region_with
      (first
        | (go_at_call 25; (with_reducible refine (H_n1.out _).mono ?_); rintro e z1 ⟨v1, rfl, r1, b1⟩; have d1 := chain ((Below.refl y4.heap.size y4).drew) b1; have p4 := keep1 d1 k4; have p5 := keep1 d1 k5; have G1 := Lib.hid (And.intro (Ri.below R8d.out b1 (Nat.le_refl _)) r1); have D1 := Lib.hid d1; obtain ⟨pq1, bb1, oo1, cc1, rfl, rr1⟩ := r1; clear rr1 b1)
        | (go_at_call 33; (with_reducible refine (H_adj.out _ _ _ G1.out.1 G1.out.2).mono ?_); rintro e z2 ⟨v2, rfl, r2, b2⟩; have d2 := chain D1.out b2; have p4 := keep1 d2 k4; have p5 := keep1 d2 k5; have p6 := keepf d2 k4 k6; have p7 := keepf d2 k5 k7; have G2 := Lib.hid r2; have D2 := Lib.hid d2; obtain ⟨pq2, bb2, oo2, cq2, rfl, rr2⟩ := r2; clear rr2 b2)
        | fail)
    all_goals
      have ZZ := Lib.hid (T8.out.next D2.out)
      refine hMK _ _ (Met.intro (hRJ _ _ ?_))
      (repeat apply Exists.intro)
      refine ⟨?_, rfl⟩
      exact ⟨pq2, _, cq2, ZZ.out.set, G2.out.setq ZZ.out _ _, (T9.out.next D2.out).other (Nat.ne_of_gt hg89.out), below_set2 (chain D.out D2.out) (by have := hy2.out; have := Hsz.out; have := hw8.out; omega) _ _⟩
  obtain ⟨p8', n8', c8', T8, R8, T9, D⟩ := hcut
  clear k4 k5 k6 k7 R8d
  have R8d := Lib.hid (Ri.drew R8.out)
  have RXu := Lib.hid (Ri.below RX.out D.out (Nat.le_refl _))
  have RYd := Lib.hid (Ri.drew (Ri.below RY.out D.out (Nat.le_refl _)))
  obtain ⟨k0, k1, _⟩ := I1.out.next D.out
  obtain ⟨k2, k3, _⟩ := I2.out.next D.out
  obtain ⟨k4, k5, _⟩ := T8.out
  obtain ⟨k6, k7, k8, k9⟩ := T9.out
  obtain ⟨y5, hy5⟩ : ∃ y5 : World, y5 = wc := ⟨_, rfl⟩
  subst hy5
  go_upto_region 8 with (fail)
  go_cut [46] (fun _ wx => ∃ (p : Option Addr) (n c : Nat), Hid (ZC (.bool br1) (.slice p n c) wx g9) ∧ Hid (Rz wx (.slice p n c) r1) ∧ Hid (ZC (.bool bq1) (.slice p8' n8' c8') wx y2.heap.size) ∧ Hid (Rz wx (.slice p8' n8' c8') q1) ∧ Hid (Below w0.heap.size w0 wx))
  case first =>
    rename_i J0 K0 hRJ hMK
    go_region_with
      (first
        | (go_at_call 37; (with_reducible refine (H_mul2.out _ _ _ R8d.out RYd.out).mono ?_); rintro e z1 ⟨v1, rfl, rz1, b1⟩; have d1 := chain ((Below.refl y5.heap.size y5).drew) b1; have q0 := keep1 d1 k0; have q1 := keep1 d1 k1; have q2 := keep1 d1 k2; have q3 := keep1 d1 k3; have q4 := keep1 d1 k4; have q5 := keep1 d1 k5; have q6 := keep1 d1 k6; have q7 := keep1 d1 k7; have G1 := Lib.hid (And.intro (Ri.below RXu.out d1 (Nat.le_refl _)) rz1); have D1 := Lib.hid d1; obtain ⟨pq1, bb1, oo1, cc1, rfl, rr1⟩ := rz1; clear rr1 b1)
        | (go_at_call 33; (with_reducible refine (H_sub2.out _ _ _ G1.out.1 G1.out.2).mono ?_); rintro e z2 ⟨v2, rfl, rz2, b2⟩; have d2 := chain D1.out b2; have q0 := keep1 d2 k0; have q1 := keep1 d2 k1; have q2 := keep1 d2 k2; have q3 := keep1 d2 k3; have q4 := keep1 d2 k4; have q5 := keep1 d2 k5; have q6 := keep1 d2 k6; have q7 := keep1 d2 k7; have p8 := keepf d2 k6 k8; have p9' := keepf d2 k7 k9; have G2 := Lib.hid rz2; have D2 := Lib.hid d2; obtain ⟨pq2, bb2, oo2, cq2, rfl, rr2⟩ := rz2; clear rr2 b2)
        | fail)
    all_goals
      have ZZ := Lib.hid (T9.out.next D2.out)
      refine hMK _ _ (Met.intro (hRJ _ _ ?_))
      (repeat apply Exists.intro)
      refine ⟨?_, rfl⟩
      exact ⟨pq2, _, cq2, ZZ.out.set, G2.out.setq ZZ.out _ _, (T8.out.next D2.out).other (Nat.ne_of_lt hg89.out), (Ri.below R8.out D2.out (Nat.le_refl _)).setq ZZ.out _ _, below_set2 (chain D.out D2.out) (by have := hg9w.out; omega) _ _⟩
  obtain ⟨p9', n9', c9', T9, R9, T8, R8, D⟩ := hcut
  clear k0 k1 k2 k3 k4 k5 k6 k7 k8 k9 R8d RXu RYd
  obtain ⟨f0, f1, f2, f3⟩ := T8.out
  obtain ⟨f4, f5, f6, f7⟩ := T9.out
  obtain ⟨m0, m1, m2, m3⟩ := I3.out.next D.out
  obtain ⟨n0, n1, n2, n3⟩ := I4.out.next D.out
  obtain ⟨ja, jb, jc, jd, je, jf, jg, jh, _⟩ := far8q hy2.out
  obtain ⟨qa, qb, qc, qd, qe, qf, qg, qh, _⟩ := far8q hg9'.out
  have i5 := (I4.out.next D.out).other (g2 := w.heap.size + 1 + 1) (u := .bool bq1) (v := (.slice p8' n8' c8')) (by omega)
  have HZ := Lib.hid ((below_set2 (below_set2 (chain hb0.out D.out) (g := w.heap.size + 1 + 1) (by omega) (.bool bq1) (.slice p8' n8' c8')) (g := w.heap.size + 1 + 1 + 1) (by omega) (.bool br1) (.slice p9' n9' c9')).drew)
  have RQf := Lib.hid (Ri.drew ((R8.out.setq (I3.out.next D.out) (.bool bq1) (.slice p8' n8' c8')).setq i5 (.bool br1) (.slice p9' n9' c9')))
  have RRf := Lib.hid (Ri.drew ((R9.out.setq (I3.out.next D.out) (.bool bq1) (.slice p8' n8' c8')).setq i5 (.bool br1) (.slice p9' n9' c9')))
  clear i5
  go_wp2_with fail
  go_region
  go_wp2
  exact bodyPost_ret (v := .tuple #[.agg #[.bool bq1, (.slice p8' n8' c8')], .agg #[.bool br1, (.slice p9' n9' c9')]]) (by simp [results, Try.results39, go_sem, m0, m1, n0, n1]) rfl ⟨_, _, by rw [HQQ.out, HRR.out], RQf.out, RRf.out, HZ.out⟩
end Go.Proofs.Ytlmklhffafcmmaa

/- The reference's Quo: the walk where the first rest and the divisor are negative. -/
namespace Go.Proofs.Ytlmklhffafcmmaa
open Go.RowKit

set_option maxRecDepth 100000 in
set_option maxHeartbeats 8000000 in
theorem rquo_neg2 (x y : Int) (v1 v2 : Value) (w : World) (k : Nat) (hk : k ≤ 90000) (hx : x.natAbs < D9 ^ k) (hy : y.natAbs < D9 ^ k) (h1 : Rz w v1 x) (h2 : Rz w v2 y) (hs : y < 0) (hr : x - q0 x y * y < 0) :
    Calls Try.prog 39 #[iV x v1, iV y v2] w (QIPost (q0 x y + 1) (x - (q0 x y + 1) * y) w) := by
  have lx := lenD hx
  have ly := lenD hy
  have H_over := Lib.hid (fun v1 v2 w g1 g2 => rover_any v1 v2 x.natAbs y.natAbs w (by omega) g1 g2 (by omega) (by omega))
  have H_made := Lib.hid (fun v w g => (rmade_any (decide (x < 0) != decide (y < 0)) v (x.natAbs / y.natAbs) w g).mono (made_int (z := q0 x y) rfl))
  have lq := Nat.le_trans (lenD (Nat.lt_of_le_of_lt (q0_le x y) hx)) (by omega : k ≤ 1000000)
  have lqy := Nat.le_trans (lenD (Nat.lt_of_le_of_lt (q0y_le x y) hx)) (by omega : k ≤ 1000000)
  have H_mul := Lib.hid (fun v1 v2 w g1 g2 => rmul_int (q0 x y) y v1 v2 w g1 g2 lq (by omega))
  have H_sub := Lib.hid (fun v1 v2 w g1 g2 => rsub_int x (q0 x y * y) v1 v2 w g1 g2 (by omega) lqy)
  have H_sgn := Lib.hid (fun v w g => rsign_int (x - q0 x y * y) v w g)
  have H_sgy := Lib.hid (fun v w g => rsign_int y v w g)
  rw [Int.sign_eq_neg_one_of_neg hs] at H_sgy
  rw [Int.sign_eq_neg_one_of_neg hr] at H_sgn
  obtain ⟨zi, hzi⟩ : ∃ z : Int, z = 1 := ⟨_, rfl⟩
  have H_n1 : Hid (∀ w, Calls Try.prog 25 #[.int .i64 1] w (IntPost zi w)) := by rw [hzi]; exact fun w => rnum_any 1 w (by decide) (by decide)
  have H_adj0 : ∀ z : Int, z = 1 → ∀ v1 v2 w, Rz w v1 (q0 x y) → Rz w v2 z → Calls Try.prog 32 #[iV (q0 x y) v1, iV z v2] w (IntPost (q0 x y + 1) w) := by
    intro z hz v1 v2 w g1 g2
    subst hz
    exact radd_int (q0 x y) 1 v1 v2 w g1 g2 lq (Nat.le_trans (lenD (k := 3) (by decide)) (by decide))
  have H_adj := Lib.hid (H_adj0 zi hzi)
  clear H_adj0
  have lq1 : (Nm.dg D9 (q0 x y + 1).natAbs).length ≤ 1000000 := by
    have a1 := q0_le x y
    refine Nat.le_trans (lenD (k := k + 1) (twice ?_)) (by omega)
    have : 0 < D9 ^ k := Nat.pow_pos D90
    omega
  have lqy1 : (Nm.dg D9 ((q0 x y + 1) * y).natAbs).length ≤ 1000000 := by
    have a1 := q0y_le x y
    rw [Int.add_mul, Int.one_mul]
    refine Nat.le_trans (lenD (k := k + 1) (twice ?_)) (by omega)
    omega
  have H_mul2 := Lib.hid (fun v1 v2 w g1 g2 => rmul_int (q0 x y + 1) y v1 v2 w g1 g2 lq1 (by omega))
  have H_sub2 := Lib.hid (fun v1 v2 w g1 g2 => rsub_int x ((q0 x y + 1) * y) v1 v2 w g1 g2 (by omega) lqy1)
  clear hzi lq1 lqy1
  obtain ⟨sb, hsb⟩ : ∃ sb, (decide (x < 0) != decide (y < 0)) = sb := ⟨_, rfl⟩
  rw [hsb] at H_made
  have HX := Lib.hid h1
  have HY := Lib.hid h2
  clear lq lqy lx ly hx hy hk hr
  clear hs
  unfold IntPost iV at H_made H_mul H_sub H_adj H_mul2 H_sub2
  unfold IntPost at H_n1
  unfold iV at H_n1
  unfold iV at H_sgn
  unfold iV at H_sgy
  unfold SignPost at H_sgn H_sgy
  unfold OverPost at H_over
  unfold QIPost iV
  generalize x.natAbs / y.natAbs = dd at *
  generalize x.natAbs % y.natAbs = de at *
  obtain ⟨bx, hbx⟩ : ∃ b, decide (x < 0) = b := ⟨_, rfl⟩
  obtain ⟨by', hby⟩ : ∃ b, decide (y < 0) = b := ⟨_, rfl⟩
  rw [hbx, hby] at hsb
  have hsb2 : (!(bx == by')) = sb := hsb
  rw [hby] at H_mul H_mul2 H_sgy
  rw [hbx] at H_sub H_sub2 ⊢
  rw [hby]
  clear hbx hby hsb
  generalize hr1 : x - (q0 x y + 1) * y = r1 at *
  generalize (q0 x y + 1) * y = q1y at *
  generalize hq1 : q0 x y + 1 = q1 at *
  clear hr1 hq1
  generalize x - q0 x y * y = r at *
  generalize q0 x y * y = qy at *
  generalize q0 x y = q at *
  generalize decide (qy < 0) = bqy at *
  generalize decide (q1y < 0) = bq1y at *
  generalize decide (zi < 0) = bzi at *
  obtain ⟨bq1, hbq1⟩ : ∃ b, decide (q1 < 0) = b := ⟨_, rfl⟩
  obtain ⟨br1, hbr1⟩ : ∃ b, decide (r1 < 0) = b := ⟨_, rfl⟩
  rw [hbq1] at H_adj H_mul2
  rw [hbr1] at H_sub2
  have HQQ := Lib.hid hbq1
  have HRR := Lib.hid hbr1
  clear hbq1 hbr1
  obtain ⟨bq, hbq⟩ : ∃ b, decide (q < 0) = b := ⟨_, rfl⟩
  rw [hbq] at H_made H_mul H_adj
  obtain ⟨pa, ba, oa, ca, rfl, hra⟩ := h1
  obtain ⟨pb, bb, ob, cb, rfl, hrb⟩ := h2
  clear hra hrb
  generalize (Nm.dg D9 x.natAbs).length = la at *
  generalize (Nm.dg D9 y.natAbs).length = lb at *
  obtain ⟨w0, hw0⟩ : ∃ w0 : World, w0 = (((w.alloc (.cells #[.bool bx, .slice pa la ca] 31)).alloc (.cells #[.bool by', .slice pb lb cb] 31)).alloc (.cells #[.bool false, .slice none 0 0] 31)).alloc (.cells #[.bool false, .slice none 0 0] 31) := ⟨_, rfl⟩
  have hb0 : Hid (Below w.heap.size w w0) := by rw [hw0]; exact ((((Below.refl _ _).alloc (Nat.le_refl _) _).alloc (by simp) _).alloc (by simp; omega) _).alloc (by simp; omega) _
  have I1 : Hid (ZC (.bool bx) (.slice pa la ca) w0 w.heap.size) := by rw [hw0]; exact (((ZC.new rfl).alloc _).alloc _).alloc _
  have I2 : Hid (ZC (.bool by') (.slice pb lb cb) w0 (w.heap.size + 1)) := by rw [hw0]; exact ((ZC.new (by simp)).alloc _).alloc _
  have I3 : Hid (ZC (.bool false) (.slice none 0 0) w0 (w.heap.size + 1 + 1)) := by rw [hw0]; exact (ZC.new (by simp)).alloc _
  have I4 : Hid (ZC (.bool false) (.slice none 0 0) w0 (w.heap.size + 1 + 1 + 1)) := by rw [hw0]; exact ZC.new (by simp)
  have Hsz : Hid (w.heap.size + 4 ≤ w0.heap.size) := by rw [hw0]; show _ ≤ _; simp
  have RX := Lib.hid (Ri.below HX.out hb0.out (Nat.le_refl _))
  have RY := Lib.hid (Ri.below HY.out hb0.out (Nat.le_refl _))
  have Hw0 := Lib.hid hw0
  clear hw0 HX HY
  go_enter Try.func39, Try.ntmps39
  go_wp2_with fail
  rw [← Hw0.out]
  clear Hw0
  refine (H_over.out _ _ _ RX.out RY.out).mono ?_
  rintro e y1 ⟨vq, vr, rfl, rq, rr, b1⟩
  have D := Lib.hid b1
  obtain ⟨k0, k1, _⟩ := I1.out.next D.out
  obtain ⟨k2, k3, _⟩ := I2.out.next D.out
  have RQ := Lib.hid rq
  obtain ⟨pq, bq', oq, cq, rfl, hrq⟩ := rq
  clear b1 rr hrq
  go_wp2_with fail
  refine (H_made.out _ _ RQ.out).mono ?_
  rintro e y2 ⟨v8, rfl, r8, b2⟩
  have D := Lib.hid (chain D.out b2)
  obtain ⟨u2, hu2⟩ : ∃ u : World, u = y2.alloc (.cells #[.bool bq, v8] 31) := ⟨_, rfl⟩
  have R8 : Hid (Rz u2 v8 q) := by rw [hu2]; exact Ri.allocd r8 _
  have T8 : Hid (ZC (.bool bq) v8 u2 y2.heap.size) := by rw [hu2]; exact ZC.new rfl
  have hw8 : Hid (w0.heap.size ≤ y2.heap.size) := D.out.size
  have hy2 : Hid (w.heap.size + 4 ≤ y2.heap.size) := Nat.le_trans Hsz.out D.out.size
  have D : Hid (Below w0.heap.size w0 u2) := by rw [hu2]; exact D.out.alloc D.out.size _
  obtain ⟨p8, bb8, o8, c8, rfl, rr8⟩ := r8
  clear rr8
  generalize (Nm.dg D9 q.natAbs).length = l8 at *
  obtain ⟨k0, k1, _⟩ := I1.out.next D.out
  obtain ⟨k2, k3, _⟩ := I2.out.next D.out
  obtain ⟨k4, k5, _⟩ := T8.out
  have HSB : Hid (w.heap.size + 4 ≤ u2.heap.size) := Nat.le_trans Hsz.out D.out.size
  have hu2g : Hid (y2.heap.size < u2.heap.size) := T8.out.lt
  have Hu2 := Lib.hid hu2
  clear b2 hu2 RQ
  have RXu := Lib.hid (Ri.below RX.out D.out (Nat.le_refl _))
  have RYu := Lib.hid (Ri.below RY.out D.out (Nat.le_refl _))
  go_upto_region 3 with (fail)
  rw [← Hu2.out]
  clear Hu2
  obtain ⟨ja, jb, jc, jd, je, jf, jg, jh, ji, jj, jk, jl⟩ := far8q HSB.out
  have jm := hu2g.out
  have jn : ¬ y2.heap.size = u2.heap.size := Nat.ne_of_lt jm
  have jo : ¬ u2.heap.size = y2.heap.size := Nat.ne_of_gt jm
  go_cut [9] (fun s9 wx => ∃ (g9 : Nat) (p9 : Option Addr) (n9 c9 : Nat), s9 = .pointer (some ⟨g9, 0, none⟩) ∧ Hid (CutO (decide (r < 0)) (.slice p9 n9 c9) (Nm.dg D9 r.natAbs) u2.heap.size u2 wx g9))
  case first =>
    rename_i J0 K0 hRJ hMK
    go_region_held3 (fun W' => W'.cell? ⟨w.heap.size, 0, none⟩ = some (.bool bx) ∧ W'.cell? ⟨w.heap.size, 1, none⟩ = some (.slice pa la ca) ∧ W'.cell? ⟨w.heap.size + 1, 0, none⟩ = some (.bool by') ∧ W'.cell? ⟨w.heap.size + 1, 1, none⟩ = some (.slice pb lb cb) ∧ W'.cell? ⟨y2.heap.size, 0, none⟩ = some (.bool bq) ∧ W'.cell? ⟨y2.heap.size, 1, none⟩ = some (.slice p8 l8 c8)) (go_keep)
      (first
        | (go_at_call 37; (with_reducible refine (H_mul.out _ _ _ (by first | exact Ri.drew R8.out | exact Ri.allocd (Ri.drew R8.out) _ | exact Ri.drew (Ri.allocd R8.out _)) (by first | exact Ri.drew RYu.out | exact Ri.allocd (Ri.drew RYu.out) _ | exact Ri.drew (Ri.allocd RYu.out _))).mono ?_); rintro e w1 ⟨vm, rfl, rz1, bz1⟩; (try (have bz1 := undrew bz1)); have d1 : Below u2.heap.size u2 w1 := chain (by first | exact Below.refl _ _ | exact (Below.refl _ _).drew | exact below_one _ _ | exact ((Below.refl _ _).drew).alloc (Nat.le_refl _) _) bz1; have e1 : Below u2.heap.size u2 w1 := d1; have p0 := keep1 e1 k0; have p1 := keep1 e1 k1; have p2 := keep1 e1 k2; have p3 := keep1 e1 k3; have p4 := keep1 e1 k4; have p5 := keep1 e1 k5; obtain ⟨j1a, j1b, j1c, j1d, j1e, j1f, j1g, j1h, j1i, j1j, j1k, j1l⟩ := far8q (Nat.le_trans HSB.out e1.size); have j1m := Nat.lt_of_lt_of_le hu2g.out e1.size; have j1n : ¬ y2.heap.size = w1.heap.size := Nat.ne_of_lt j1m; have j1o : ¬ w1.heap.size = y2.heap.size := Nat.ne_of_gt j1m; (try (have A0 := Lib.hid (ZC.made (g := u2.heap.size) rfl bz1); obtain ⟨A0a, A0b, A0c, A0d⟩ := A0.out)); (try (have L01 := Lib.hid (apart_b (g := u2.heap.size) rfl bz1); obtain ⟨l01x, l01y, l01z⟩ := L01.out)); have G1 := Lib.hid rz1; obtain ⟨pr1, br1, or1, cr1, rfl, rr1⟩ := rz1; clear rr1)
        | (go_at_call 33; (with_reducible refine (H_sub.out _ _ _ (by first | exact Ri.below RXu.out e1 (Nat.le_refl _) | exact Ri.allocd (Ri.below RXu.out e1 (Nat.le_refl _)) _) (by first | exact G1.out | exact Ri.allocd G1.out _)).mono ?_); rintro e w2 ⟨vs, rfl, rz2, bz2⟩; (try (have bz2 := undrew bz2)); have d2 : Below w1.heap.size w1 w2 := chain (by first | exact Below.refl _ _ | exact (Below.refl _ _).drew | exact below_one _ _ | exact ((Below.refl _ _).drew).alloc (Nat.le_refl _) _) bz2; have e2 : Below u2.heap.size u2 w2 := chain e1 d2; have p0 := keep1 e2 k0; have p1 := keep1 e2 k1; have p2 := keep1 e2 k2; have p3 := keep1 e2 k3; have p4 := keep1 e2 k4; have p5 := keep1 e2 k5; obtain ⟨j2a, j2b, j2c, j2d, j2e, j2f, j2g, j2h, j2i, j2j, j2k, j2l⟩ := far8q (Nat.le_trans HSB.out e2.size); have j2m := Nat.lt_of_lt_of_le hu2g.out e2.size; have j2n : ¬ y2.heap.size = w2.heap.size := Nat.ne_of_lt j2m; have j2o : ¬ w2.heap.size = y2.heap.size := Nat.ne_of_gt j2m; (try (have A1 := Lib.hid (ZC.made (g := w1.heap.size) rfl bz2); obtain ⟨A1a, A1b, A1c, A1d⟩ := A1.out)); (try (have A0 := Lib.hid (A0.out.next d2); obtain ⟨A0a, A0b, A0c, A0d⟩ := A0.out)); (try (have L02 := Lib.hid (apart_t L01.out d2.size); obtain ⟨l02x, l02y, l02z⟩ := L02.out)); (try (have L12 := Lib.hid (apart_b (g := w1.heap.size) rfl bz2); obtain ⟨l12x, l12y, l12z⟩ := L12.out)); have G2 := Lib.hid rz2; obtain ⟨pr2, br2, or2, cr2, rfl, rr2⟩ := rz2; clear rr2)
        | fail)
    all_goals
      refine hMK _ _ (Met.intro (hRJ _ _ ?_))
      (repeat apply Exists.intro)
      refine ⟨?_, rfl⟩
      refine ⟨_, pr2, (Nm.dg D9 r.natAbs).length, cr2, rfl, ?_⟩
      show CutO _ (.slice pr2 _ cr2) _ u2.heap.size u2 _ _
      have sA0 : u2.heap.size ≤ u2.heap.size := Nat.le_refl _
      have sA1 : u2.heap.size ≤ w1.heap.size := e1.size
      have sA2 : u2.heap.size ≤ w2.heap.size := e2.size
      first
        | with_reducible exact CutO.k1 G2.out e2 sA2
        | with_reducible exact CutO.k2 A0.out sA0 G2.out e2
        | with_reducible exact CutO.k2 A1.out sA1 G2.out e2
        | fail
  obtain ⟨g9, p9, n9, c9, rfl, hcut⟩ := hcut
  obtain ⟨hg9, t9, r9, b9⟩ := hcut.out
  have D := Lib.hid (chain D.out b9)
  have T8 := Lib.hid (T8.out.next b9)
  have R8 := Lib.hid (Ri.below R8.out b9 (Nat.le_refl _))
  have T9 := Lib.hid t9
  have R9 := Lib.hid r9
  have hg9' : Hid (w.heap.size + 4 ≤ g9) := Nat.le_trans HSB.out hg9
  have hg9w : Hid (w0.heap.size ≤ g9) := Nat.le_trans hw8.out (Nat.le_of_lt (Nat.lt_of_lt_of_le hu2g.out hg9))
  have hg89 : Hid (y2.heap.size < g9) := Nat.lt_of_lt_of_le hu2g.out hg9
  obtain ⟨k0, k1, _⟩ := T9.out
  clear hcut hg9 t9 r9 b9 ja jb jc jd je jf jg jh ji jj jk jl jm jn jo k2 k3 k4 k5
  obtain ⟨br, hbr⟩ : ∃ b, decide (r < 0) = b := ⟨_, rfl⟩
  rw [hbr] at T9 k0 H_sgn
  go_wp2_with fail
  refine (H_sgn.out _ _ R9.out).mono ?_
  rintro e y3 ⟨rfl, b3⟩
  have D := Lib.hid (chain D.out b3)
  have T8 := Lib.hid (T8.out.next b3)
  have R8 := Lib.hid (Ri.below R8.out b3 (Nat.le_refl _))
  have T9 := Lib.hid (T9.out.next b3)
  have R9 := Lib.hid (Ri.below R9.out b3 (Nat.le_refl _))
  clear b3 k0 k1
  obtain ⟨k2, k3, _⟩ := I2.out.next D.out
  have HRRn := Lib.hid hbr
  clear hbr hbq
  go_wp2_with fail
  refine (H_sgy.out _ _ (Ri.below RY.out D.out (Nat.le_refl _))).mono ?_
  rintro e y4 ⟨rfl, b4⟩
  have D := Lib.hid (chain D.out b4)
  have T8 := Lib.hid (T8.out.next b4)
  have R8 := Lib.hid (Ri.below R8.out b4 (Nat.le_refl _))
  have T9 := Lib.hid (T9.out.next b4)
  clear b4 k2 k3 R9
  obtain ⟨k4, k5, k6, k7⟩ := T8.out
  have R8d := Lib.hid (Ri.drew R8.out)
  go_upto_region 7 with (fail)
  go_cut [41] (fun _ wx => ∃ (p : Option Addr) (n c : Nat), Hid (ZC (.bool bq1) (.slice p n c) wx y2.heap.size) ∧ Hid (Rz wx (.slice p n c) q1) ∧ Hid (ZC (.bool br) (.slice p9 n9 c9) wx g9) ∧ Hid (Below w0.heap.size w0 wx))
  case first =>
    rename_i J0 K0 hRJ hMK
    go_region_with
      (first
        | (go_at_call 25; (with_reducible refine (H_n1.out _).mono ?_); rintro e z1 ⟨v1, rfl, r1, b1⟩; have d1 := chain ((Below.refl y4.heap.size y4).drew) b1; have p4 := keep1 d1 k4; have p5 := keep1 d1 k5; have G1 := Lib.hid (And.intro (Ri.below R8d.out b1 (Nat.le_refl _)) r1); have D1 := Lib.hid d1; obtain ⟨pq1, bb1, oo1, cc1, rfl, rr1⟩ := r1; clear rr1 b1)
        | (go_at_call 32; (with_reducible refine (H_adj.out _ _ _ G1.out.1 G1.out.2).mono ?_); rintro e z2 ⟨v2, rfl, r2, b2⟩; have d2 := chain D1.out b2; have p4 := keep1 d2 k4; have p5 := keep1 d2 k5; have p6 := keepf d2 k4 k6; have p7 := keepf d2 k5 k7; have G2 := Lib.hid r2; have D2 := Lib.hid d2; obtain ⟨pq2, bb2, oo2, cq2, rfl, rr2⟩ := r2; clear rr2 b2)
        | fail)
    all_goals
      have ZZ := Lib.hid (T8.out.next D2.out)
      refine hMK _ _ (Met.intro (hRJ _ _ ?_))
      (repeat apply Exists.intro)
      refine ⟨?_, rfl⟩
      exact ⟨pq2, _, cq2, ZZ.out.set, G2.out.setq ZZ.out _ _, (T9.out.next D2.out).other (Nat.ne_of_gt hg89.out), below_set2 (chain D.out D2.out) (by have := hy2.out; have := Hsz.out; have := hw8.out; omega) _ _⟩
  obtain ⟨p8', n8', c8', T8, R8, T9, D⟩ := hcut
  clear k4 k5 k6 k7 R8d
  have R8d := Lib.hid (Ri.drew R8.out)
  have RXu := Lib.hid (Ri.below RX.out D.out (Nat.le_refl _))
  have RYd := Lib.hid (Ri.drew (Ri.below RY.out D.out (Nat.le_refl _)))
  obtain ⟨k0, k1, _⟩ := I1.out.next D.out
  obtain ⟨k2, k3, _⟩ := I2.out.next D.out
  obtain ⟨k4, k5, _⟩ := T8.out
  obtain ⟨k6, k7, k8, k9⟩ := T9.out
  obtain ⟨y5, hy5⟩ : ∃ y5 : World, y5 = wc := ⟨_, rfl⟩
  subst hy5
  go_upto_region 8 with (fail)
  go_cut [46] (fun _ wx => ∃ (p : Option Addr) (n c : Nat), Hid (ZC (.bool br1) (.slice p n c) wx g9) ∧ Hid (Rz wx (.slice p n c) r1) ∧ Hid (ZC (.bool bq1) (.slice p8' n8' c8') wx y2.heap.size) ∧ Hid (Rz wx (.slice p8' n8' c8') q1) ∧ Hid (Below w0.heap.size w0 wx))
  case first =>
    rename_i J0 K0 hRJ hMK
    go_region_with
      (first
        | (go_at_call 37; (with_reducible refine (H_mul2.out _ _ _ R8d.out RYd.out).mono ?_); rintro e z1 ⟨v1, rfl, rz1, b1⟩; have d1 := chain ((Below.refl y5.heap.size y5).drew) b1; have q0 := keep1 d1 k0; have q1 := keep1 d1 k1; have q2 := keep1 d1 k2; have q3 := keep1 d1 k3; have q4 := keep1 d1 k4; have q5 := keep1 d1 k5; have q6 := keep1 d1 k6; have q7 := keep1 d1 k7; have G1 := Lib.hid (And.intro (Ri.below RXu.out d1 (Nat.le_refl _)) rz1); have D1 := Lib.hid d1; obtain ⟨pq1, bb1, oo1, cc1, rfl, rr1⟩ := rz1; clear rr1 b1)
        | (go_at_call 33; (with_reducible refine (H_sub2.out _ _ _ G1.out.1 G1.out.2).mono ?_); rintro e z2 ⟨v2, rfl, rz2, b2⟩; have d2 := chain D1.out b2; have q0 := keep1 d2 k0; have q1 := keep1 d2 k1; have q2 := keep1 d2 k2; have q3 := keep1 d2 k3; have q4 := keep1 d2 k4; have q5 := keep1 d2 k5; have q6 := keep1 d2 k6; have q7 := keep1 d2 k7; have p8 := keepf d2 k6 k8; have p9' := keepf d2 k7 k9; have G2 := Lib.hid rz2; have D2 := Lib.hid d2; obtain ⟨pq2, bb2, oo2, cq2, rfl, rr2⟩ := rz2; clear rr2 b2)
        | fail)
    all_goals
      have ZZ := Lib.hid (T9.out.next D2.out)
      refine hMK _ _ (Met.intro (hRJ _ _ ?_))
      (repeat apply Exists.intro)
      refine ⟨?_, rfl⟩
      exact ⟨pq2, _, cq2, ZZ.out.set, G2.out.setq ZZ.out _ _, (T8.out.next D2.out).other (Nat.ne_of_lt hg89.out), (Ri.below R8.out D2.out (Nat.le_refl _)).setq ZZ.out _ _, below_set2 (chain D.out D2.out) (by have := hg9w.out; omega) _ _⟩
  obtain ⟨p9', n9', c9', T9, R9, T8, R8, D⟩ := hcut
  clear k0 k1 k2 k3 k4 k5 k6 k7 k8 k9 R8d RXu RYd
  obtain ⟨f0, f1, f2, f3⟩ := T8.out
  obtain ⟨f4, f5, f6, f7⟩ := T9.out
  obtain ⟨m0, m1, m2, m3⟩ := I3.out.next D.out
  obtain ⟨n0, n1, n2, n3⟩ := I4.out.next D.out
  obtain ⟨ja, jb, jc, jd, je, jf, jg, jh, _⟩ := far8q hy2.out
  obtain ⟨qa, qb, qc, qd, qe, qf, qg, qh, _⟩ := far8q hg9'.out
  have i5 := (I4.out.next D.out).other (g2 := w.heap.size + 1 + 1) (u := .bool bq1) (v := (.slice p8' n8' c8')) (by omega)
  have HZ := Lib.hid ((below_set2 (below_set2 (chain hb0.out D.out) (g := w.heap.size + 1 + 1) (by omega) (.bool bq1) (.slice p8' n8' c8')) (g := w.heap.size + 1 + 1 + 1) (by omega) (.bool br1) (.slice p9' n9' c9')).drew)
  have RQf := Lib.hid (Ri.drew ((R8.out.setq (I3.out.next D.out) (.bool bq1) (.slice p8' n8' c8')).setq i5 (.bool br1) (.slice p9' n9' c9')))
  have RRf := Lib.hid (Ri.drew ((R9.out.setq (I3.out.next D.out) (.bool bq1) (.slice p8' n8' c8')).setq i5 (.bool br1) (.slice p9' n9' c9')))
  clear i5
  go_wp2_with fail
  go_region
  go_wp2
  exact bodyPost_ret (v := .tuple #[.agg #[.bool bq1, (.slice p8' n8' c8')], .agg #[.bool br1, (.slice p9' n9' c9')]]) (by simp [results, Try.results39, go_sem, m0, m1, n0, n1]) rfl ⟨_, _, by rw [HQQ.out, HRR.out], RQf.out, RRf.out, HZ.out⟩
end Go.Proofs.Ytlmklhffafcmmaa

/- The reference's Quo: the Euclidean division of integers. -/
namespace Go.Proofs.Ytlmklhffafcmmaa
open Go.RowKit

theorem rquo_int (x y : Int) (v1 v2 : Value) (w : World) (k : Nat) (hk : k ≤ 90000) (hx : x.natAbs < D9 ^ k) (hy : y.natAbs < D9 ^ k) (h1 : Rz w v1 x) (h2 : Rz w v2 y) (hy0 : y ≠ 0) :
    Calls Try.prog 39 #[iV x v1, iV y v2] w (QIPost (x / y) (x % y) w) := by
  rcases Int.lt_or_le (x - q0 x y * y) 0 with hr | hr
  · rcases Int.lt_or_gt_of_ne hy0 with hs | hs
    · have h := rquo_neg2 x y v1 v2 w k hk hx hy h1 h2 hs hr
      obtain ⟨e1, e2⟩ := quo_neg2 hs hr
      rwa [e2, e1] at h
    · have h := rquo_neg1 x y v1 v2 w k hk hx hy h1 h2 hs hr
      obtain ⟨e1, e2⟩ := quo_neg1 hs hr
      rwa [e2, e1] at h
  · have h := rquo_pos x y v1 v2 w k hk hx hy h1 h2 hy0 hr
    obtain ⟨e1, e2⟩ := quo_pos hy0 hr
    rwa [e2, e1] at h
end Go.Proofs.Ytlmklhffafcmmaa

/- The law WideShifts gives true. -/
namespace Go.Proofs.Ytlmklhffafcmmaa
open Go.RowKit

theorem sg_shd (a : Bool) (m k : Nat) (h : a = true → 0 < m) : sg a (shd a m k) = sg a m / 2 ^ k := by
  have hp : (0 : Int) < ((2 ^ k : Nat) : Int) := by have := Nat.pow_pos (n := k) (show 0 < 2 by decide); omega
  have e2 : ((2 ^ k : Nat) : Int) = (2 : Int) ^ k := by simp
  rw [← e2]
  unfold sg shd
  cases a with
  | false => simp
  | true =>
    have hm := h rfl
    simp only [if_true]
    have hd := Nat.div_add_mod (m - 1) (2 ^ k)
    have hr := Nat.mod_lt (m - 1) (Nat.pow_pos (n := k) (show 0 < 2 by decide))
    generalize (m - 1) / 2 ^ k = q at *
    generalize (m - 1) % 2 ^ k = r at *
    generalize 2 ^ k = p at *
    have h3 : -(m : Int) = ((p : Int) - 1 - r) + p * (-((q + 1 : Nat) : Int)) := by
      have : ((p * q : Nat) : Int) = (p : Int) * (q : Int) := Int.natCast_mul _ _
      have h4 : (p : Int) * (-((q + 1 : Nat) : Int)) = -((p * q : Nat) : Int) - p := by push_cast; grind
      rw [h4]
      omega
    rw [h3, Int.add_mul_ediv_left _ _ (by omega), Int.ediv_eq_zero_of_lt (by omega) (by omega), Int.zero_add]
theorem shd_le (a : Bool) (m k : Nat) (h : a = true → 0 < m) : shd a m k ≤ m := by
  unfold shd
  split
  · next g =>
    have := h g
    have h2 := Nat.div_le_self (m - 1) (2 ^ k)
    omega
  · exact Nat.div_le_self _ _
theorem pos_sgn {a : Bool} {s : ByteArray} (h : vld a s = true) : a = true → 0 < bv s := by
  intro ha
  subst ha
  have hc := vld_can h
  rcases Nat.eq_zero_or_pos (bv s) with g | g
  · have h0 := (bv_zero_iff hc).1 g
    unfold vld at h
    rw [dif_neg (by omega)] at h
    simp at h
  · exact g
/-- Shift to the right, as integers. -/
theorem shr_z {a : Bool} {s : ByteArray} (hv : vld a s = true) (k : Nat) (y : Int) (hy : -y = (k : Int)) (hk : 1 ≤ k) (hk2 : k ≤ 65536) (w : World) :
    Calls Try.prog 40 #[.agg #[.bool a, .string s], .int .i64 y] w (fun e w' => e = .returned (.tuple #[.agg #[.bool (zb (sg a (bv s) / 2 ^ k)), .string (zs (sg a (bv s) / 2 ^ k))], .int .i64 0]) ∧ Below w.heap.size w w') := by
  have h := Shift_down a s k y hy hk hk2 w hv
  have ht : shd a (bv s) k < Top := Nat.lt_of_le_of_lt (shd_le a _ k (pos_sgn hv)) (bv_lt hv)
  unfold WPost at h
  rwa [wres_ok _ ht, werr_ok ht, wd_sg, sg_shd a _ k (pos_sgn hv)] at h
theorem sg_mul (a : Bool) (m k : Nat) : sg a (m * 2 ^ k) = sg a m * 2 ^ k := by
  cases a <;> simp [sg]
  rw [Int.neg_mul]
/-- Shift to the left, as integers. -/
theorem shl_z {a : Bool} {s : ByteArray} (hv : vld a s = true) (k : Nat) (hk2 : k ≤ 65536) (ht : bv s * 2 ^ k < Top) (w : World) :
    Calls Try.prog 40 #[.agg #[.bool a, .string s], .int .i64 (k : Int)] w (fun e w' => e = .returned (.tuple #[.agg #[.bool (zb (sg a (bv s) * 2 ^ k)), .string (zs (sg a (bv s) * 2 ^ k))], .int .i64 0]) ∧ Below w.heap.size w w') := by
  have h := Shift_up a s k hk2 w hv
  unfold WPost at h
  rwa [wres_ok _ ht, werr_ok ht, wd_sg, sg_mul] at h

set_option maxRecDepth 100000 in
set_option maxHeartbeats 8000000 in
theorem shifts_long (a : Bool) (s : ByteArray) (y : Int) (w : World) (hs : ¬ s.size ≤ 60) :
    Calls Try.prog 7 #[.agg #[.bool a, .string s], .int .i64 y] w (Ret (.bool true) w) := by
  have H_known := Lib.hid known_true
  obtain ⟨w0, hw0⟩ : ∃ w0 : World, w0 = (w.alloc (.cells #[.bool a, .string s] 23)).alloc (.cells #[.bool a, .string s] 23) := ⟨_, rfl⟩
  have hb0 : Hid (Below w.heap.size w w0) := by rw [hw0]; exact ((Below.refl _ _).alloc (Nat.le_refl _) _).alloc (by simp) _
  have I1 : Hid (ZC (.bool a) (.string s) w0 w.heap.size) := by rw [hw0]; exact (ZC.new rfl).alloc _
  have Hsz : Hid (w.heap.size + 2 ≤ w0.heap.size) := by rw [hw0]; show _ ≤ _; simp
  have HSH := short_any [(a, s)] 1 (w.heap.size + 1) w0 rfl (by decide) (by rw [hw0]; have := WL.one (w.alloc (.cells #[.bool a, .string s] 23)) a s 23; simpa using this)
  rw [short_false hs] at HSH
  have HSh := Lib.hid HSH
  have Hw0 := Lib.hid hw0
  clear HSH hw0
  unfold Ret at *
  unfold BPost at HSh
  go_enter Try.func7, Try.ntmps7
  go_wp2_with fail
  rw [← Hw0.out]
  refine HSh.out.mono ?_
  rintro e x0 ⟨rfl, b0⟩
  have D := Lib.hid b0
  clear b0
  obtain ⟨k0, k1, _⟩ := I1.out.next D.out
  go_wp2_with fail
  refine (H_known.out _).mono ?_
  rintro e x1 ⟨rfl, b1⟩
  have HZ := Lib.hid (chain hb0.out (chain D.out b1))
  clear b1
  go_wp2
  go_ret
  exact ⟨rfl, HZ.out⟩

set_option maxRecDepth 100000 in
set_option maxHeartbeats 8000000 in
theorem shifts_invalid (a : Bool) (s : ByteArray) (y : Int) (w : World) (z1 : s.size ≤ 60) (hv : vld a s = false) :
    Calls Try.prog 7 #[.agg #[.bool a, .string s], .int .i64 y] w (Ret (.bool true) w) := by
  have H_known := Lib.hid known_true
  obtain ⟨w0, hw0⟩ : ∃ w0 : World, w0 = (w.alloc (.cells #[.bool a, .string s] 23)).alloc (.cells #[.bool a, .string s] 23) := ⟨_, rfl⟩
  have hb0 : Hid (Below w.heap.size w w0) := by rw [hw0]; exact ((Below.refl _ _).alloc (Nat.le_refl _) _).alloc (by simp) _
  have I1 : Hid (ZC (.bool a) (.string s) w0 w.heap.size) := by rw [hw0]; exact (ZC.new rfl).alloc _
  have Hsz : Hid (w.heap.size + 2 ≤ w0.heap.size) := by rw [hw0]; show _ ≤ _; simp
  have HSH := short_any [(a, s)] 1 (w.heap.size + 1) w0 rfl (by decide) (by rw [hw0]; have := WL.one (w.alloc (.cells #[.bool a, .string s] 23)) a s 23; simpa using this)
  rw [short_true z1] at HSH
  have H_val := Lib.hid (fun g w h => valid_any [(a, s)] 1 g w rfl (by decide) h (by intro x hx; simp at hx; subst hx; show _ ≤ _; simp; omega))
  have v1 : validL [(a, s)] = false := by simp [validL, hv]
  rw [v1] at H_val
  unfold BPost at H_val
  have H_sh := Lib.hid (fun w => Shift_wrong a s y w (by omega) (Or.inl hv))
  rw [hv, if_neg (by simp), wd_none] at H_sh
  unfold WPost at H_sh
  clear hv v1
  have HSh := Lib.hid HSH
  have Hw0 := Lib.hid hw0
  clear HSH hw0
  unfold Ret at *
  unfold BPost at HSh
  go_enter Try.func7, Try.ntmps7
  go_wp2_with fail
  rw [← Hw0.out]
  refine HSh.out.mono ?_
  rintro e x0 ⟨rfl, b0⟩
  have D := Lib.hid b0
  clear b0
  obtain ⟨k0, k1, _⟩ := I1.out.next D.out
  go_wp2_with fail
  refine (H_sh.out _).mono ?_
  rintro e y4 ⟨rfl, b9⟩
  obtain ⟨n0, n1, _⟩ := I1.out.next (chain D.out b9)
  have j1 : w.heap.size < y4.heap.size := World.block_lt_of_cell? _ _ n0
  have j3 : ¬ w.heap.size = y4.heap.size := Nat.ne_of_lt j1
  obtain ⟨u4, hu4⟩ : ∃ u : World, u = y4.alloc (.cells #[.bool false, .string ⟨#[]⟩] 23) := ⟨_, rfl⟩
  have E : Hid (Below x0.heap.size x0 u4) := by rw [hu4]; exact b9.alloc b9.size _
  have D := Lib.hid (chain D.out E.out)
  have T4 : Hid (ZC (.bool false) (.string ⟨#[]⟩) u4 y4.heap.size) := by rw [hu4]; exact ZC.new rfl
  have HW4 : Hid (WL (u4.alloc (.cells #[.bool a, .string s] 23)) (y4.heap.size + 1) [(a, s)]) := by have := WL.one u4 a s 23; rwa [show u4.heap.size = y4.heap.size + 1 by rw [hu4]; simp] at this
  have Hu4 := Lib.hid hu4
  clear hu4 b9 E k0 k1
  obtain ⟨k0, k1, _⟩ := I1.out.next D.out
  obtain ⟨k2, k3, _⟩ := T4.out
  go_wp2_with fail
  rw [← Hu4.out]
  clear Hu4
  refine (H_val.out _ _ HW4.out).mono ?_
  rintro e y5 ⟨rfl, b9⟩
  have E := Lib.hid (chain (below_one u4 _) b9)
  have D := Lib.hid (chain D.out E.out)
  have T4 := Lib.hid (T4.out.next E.out)
  clear b9 E k0 k1 k2 k3 n0 n1 j1 j3
  obtain ⟨k0, k1, _⟩ := I1.out.next D.out
  obtain ⟨k2, k3, _⟩ := T4.out
  go_wp2_with fail
  refine (H_known.out _).mono ?_
  rintro e x1 ⟨rfl, b1⟩
  have HZ := Lib.hid (chain hb0.out (chain D.out b1))
  clear b1
  go_wp2
  go_ret
  exact ⟨rfl, HZ.out⟩

set_option maxRecDepth 100000 in
set_option maxHeartbeats 8000000 in
theorem shifts_range (a : Bool) (s : ByteArray) (y : Int) (w : World) (z1 : s.size ≤ 60) (hv : vld a s = true) (hy : y < -65536 ∨ 65536 < y) :
    Calls Try.prog 7 #[.agg #[.bool a, .string s], .int .i64 y] w (Ret (.bool true) w) := by
  have H_known := Lib.hid known_true
  obtain ⟨w0, hw0⟩ : ∃ w0 : World, w0 = (w.alloc (.cells #[.bool a, .string s] 23)).alloc (.cells #[.bool a, .string s] 23) := ⟨_, rfl⟩
  have hb0 : Hid (Below w.heap.size w w0) := by rw [hw0]; exact ((Below.refl _ _).alloc (Nat.le_refl _) _).alloc (by simp) _
  have I1 : Hid (ZC (.bool a) (.string s) w0 w.heap.size) := by rw [hw0]; exact (ZC.new rfl).alloc _
  have Hsz : Hid (w.heap.size + 2 ≤ w0.heap.size) := by rw [hw0]; show _ ≤ _; simp
  have HSH := short_any [(a, s)] 1 (w.heap.size + 1) w0 rfl (by decide) (by rw [hw0]; have := WL.one (w.alloc (.cells #[.bool a, .string s] 23)) a s 23; simpa using this)
  rw [short_true z1] at HSH
  have H_val := Lib.hid (fun g w h => valid_any [(a, s)] 1 g w rfl (by decide) h (by intro x hx; simp at hx; subst hx; show _ ≤ _; simp; omega))
  have v1 : validL [(a, s)] = true := by simp [validL, hv]
  rw [v1] at H_val
  unfold BPost at H_val
  have H_sh := Lib.hid (fun w => Shift_wrong a s y w (by omega) (Or.inr ⟨hv, hy⟩))
  rw [hv, if_pos rfl, wd_none] at H_sh
  unfold WPost at H_sh
  clear hv v1
  rcases hy with hy | hy
  · skip
    have HSh := Lib.hid HSH
    have Hw0 := Lib.hid hw0
    clear HSH hw0
    unfold Ret at *
    unfold BPost at HSh
    go_enter Try.func7, Try.ntmps7
    go_wp2_with fail
    rw [← Hw0.out]
    refine HSh.out.mono ?_
    rintro e x0 ⟨rfl, b0⟩
    have D := Lib.hid b0
    clear b0
    obtain ⟨k0, k1, _⟩ := I1.out.next D.out
    go_wp2_with fail
    refine (H_sh.out _).mono ?_
    rintro e y4 ⟨rfl, b9⟩
    obtain ⟨n0, n1, _⟩ := I1.out.next (chain D.out b9)
    have j1 : w.heap.size < y4.heap.size := World.block_lt_of_cell? _ _ n0
    have j3 : ¬ w.heap.size = y4.heap.size := Nat.ne_of_lt j1
    obtain ⟨u4, hu4⟩ : ∃ u : World, u = y4.alloc (.cells #[.bool false, .string ⟨#[]⟩] 23) := ⟨_, rfl⟩
    have E : Hid (Below x0.heap.size x0 u4) := by rw [hu4]; exact b9.alloc b9.size _
    have D := Lib.hid (chain D.out E.out)
    have T4 : Hid (ZC (.bool false) (.string ⟨#[]⟩) u4 y4.heap.size) := by rw [hu4]; exact ZC.new rfl
    have HW4 : Hid (WL (u4.alloc (.cells #[.bool a, .string s] 23)) (y4.heap.size + 1) [(a, s)]) := by have := WL.one u4 a s 23; rwa [show u4.heap.size = y4.heap.size + 1 by rw [hu4]; simp] at this
    have Hu4 := Lib.hid hu4
    clear hu4 b9 E k0 k1
    obtain ⟨k0, k1, _⟩ := I1.out.next D.out
    obtain ⟨k2, k3, _⟩ := T4.out
    go_wp2_with fail
    rw [← Hu4.out]
    clear Hu4
    refine (H_val.out _ _ HW4.out).mono ?_
    rintro e y5 ⟨rfl, b9⟩
    have E := Lib.hid (chain (below_one u4 _) b9)
    have D := Lib.hid (chain D.out E.out)
    have T4 := Lib.hid (T4.out.next E.out)
    clear b9 E k0 k1 k2 k3 n0 n1 j1 j3
    obtain ⟨k0, k1, _⟩ := I1.out.next D.out
    obtain ⟨k2, k3, _⟩ := T4.out
    go_wp2_with fail
    refine (H_known.out _).mono ?_
    rintro e x1 ⟨rfl, b1⟩
    have HZ := Lib.hid (chain hb0.out (chain D.out b1))
    clear b1
    go_wp2
    go_ret
    exact ⟨rfl, HZ.out⟩
  · have hy2 : ¬ y < -65536 := by omega
    have HSh := Lib.hid HSH
    have Hw0 := Lib.hid hw0
    clear HSH hw0
    unfold Ret at *
    unfold BPost at HSh
    go_enter Try.func7, Try.ntmps7
    go_wp2_with fail
    rw [← Hw0.out]
    refine HSh.out.mono ?_
    rintro e x0 ⟨rfl, b0⟩
    have D := Lib.hid b0
    clear b0
    obtain ⟨k0, k1, _⟩ := I1.out.next D.out
    go_wp2_with fail
    refine (H_sh.out _).mono ?_
    rintro e y4 ⟨rfl, b9⟩
    obtain ⟨n0, n1, _⟩ := I1.out.next (chain D.out b9)
    have j1 : w.heap.size < y4.heap.size := World.block_lt_of_cell? _ _ n0
    have j3 : ¬ w.heap.size = y4.heap.size := Nat.ne_of_lt j1
    obtain ⟨u4, hu4⟩ : ∃ u : World, u = y4.alloc (.cells #[.bool false, .string ⟨#[]⟩] 23) := ⟨_, rfl⟩
    have E : Hid (Below x0.heap.size x0 u4) := by rw [hu4]; exact b9.alloc b9.size _
    have D := Lib.hid (chain D.out E.out)
    have T4 : Hid (ZC (.bool false) (.string ⟨#[]⟩) u4 y4.heap.size) := by rw [hu4]; exact ZC.new rfl
    have HW4 : Hid (WL (u4.alloc (.cells #[.bool a, .string s] 23)) (y4.heap.size + 1) [(a, s)]) := by have := WL.one u4 a s 23; rwa [show u4.heap.size = y4.heap.size + 1 by rw [hu4]; simp] at this
    have Hu4 := Lib.hid hu4
    clear hu4 b9 E k0 k1
    obtain ⟨k0, k1, _⟩ := I1.out.next D.out
    obtain ⟨k2, k3, _⟩ := T4.out
    go_wp2_with fail
    rw [← Hu4.out]
    clear Hu4
    refine (H_val.out _ _ HW4.out).mono ?_
    rintro e y5 ⟨rfl, b9⟩
    have E := Lib.hid (chain (below_one u4 _) b9)
    have D := Lib.hid (chain D.out E.out)
    have T4 := Lib.hid (T4.out.next E.out)
    clear b9 E k0 k1 k2 k3 n0 n1 j1 j3
    obtain ⟨k0, k1, _⟩ := I1.out.next D.out
    obtain ⟨k2, k3, _⟩ := T4.out
    go_wp2_with fail
    refine (H_known.out _).mono ?_
    rintro e x1 ⟨rfl, b1⟩
    have HZ := Lib.hid (chain hb0.out (chain D.out b1))
    clear b1
    go_wp2
    go_ret
    exact ⟨rfl, HZ.out⟩
end Go.Proofs.Ytlmklhffafcmmaa

/- Knuth's guess of a digit of a quotient: plain facts. -/
namespace Go.Proofs.Ytlmklhffafcmmaa
open Go.RowKit

/-- The guess. -/
def gs (h m f s : Nat) : Nat := if f ≤ h then W - 1 else if (h * W + m) % f < (h * W + m) / f * s / W then (h * W + m) / f - 1 else (h * W + m) / f

/-- The guess is the digit, or greater by 1. B: the base; H: the weight of the limbs that the guess doesn't see. -/
theorem guess_ok {B H U V h m l f s u v : Nat} (hU : U = ((h * B + m) * B + l) * H + u) (hV : V = (f * B + s) * H + v) (hu : u < H) (hv : v < H) (hl : l < B) (hm : m < B) (hs : s < B) (hf : B ≤ 2 * f) (hB : 4 ≤ B) (hlt : U < V * B)
    {g : Nat} (hg : g = if f ≤ h then B - 1 else if (h * B + m) % f < (h * B + m) / f * s / B then (h * B + m) / f - 1 else (h * B + m) / f) : U / V ≤ g ∧ g ≤ U / V + 1 ∧ g < B := by
  have hH : 0 < H := by omega
  have hB0 : 0 < B := by omega
  have hfp : 0 < f := by omega
  have hVp : 0 < V := by
    rw [hV]
    have : 0 < (f * B + s) * H := Nat.mul_pos (Nat.add_pos_left (Nat.mul_pos hfp hB0) _) hH
    omega
  have hqB : U / V < B := by rw [Nat.div_lt_iff_lt_mul hVp, Nat.mul_comm]; exact hlt
  have hlo : ∀ t, t * V ≤ U → t ≤ U / V := fun t ht => (Nat.le_div_iff_mul_le hVp).2 ht
  have hup : ∀ t, U < t * V → U / V < t := fun t ht => (Nat.div_lt_iff_lt_mul hVp).2 ht
  generalize U / V = q at *
  -- V is less than (f + 1) B H, and U at least (h B + m) B H
  have hV2 : V ≤ (f + 1) * (B * H) := by
    have h1 : (f * B + s + 1) * H ≤ (f * B + B) * H := Nat.mul_le_mul_right _ (by omega)
    have h2 : (f * B + B) * H = (f + 1) * (B * H) := by grind
    rw [Nat.add_mul, Nat.one_mul] at h1
    omega
  have hU2 : (h * B + m) * (B * H) ≤ U := by
    have h1 : (h * B + m) * B * H ≤ ((h * B + m) * B + l) * H := Nat.mul_le_mul_right _ (by omega)
    rw [Nat.mul_assoc] at h1
    omega
  by_cases c1 : f ≤ h
  · rw [if_pos c1] at hg
    subst hg
    refine ⟨by omega, ?_, by omega⟩
    have : B - 2 ≤ q := by
      refine hlo _ ?_
      have h1 : (B - 2) * V ≤ (B - 2) * ((f + 1) * (B * H)) := Nat.mul_le_mul_left _ hV2
      have h2 : (B - 2) * (f + 1) ≤ h * B + m := by
        obtain ⟨C, rfl⟩ : ∃ C, B = C + 2 := ⟨B - 2, by omega⟩
        have h3 : f * (C + 2) ≤ h * (C + 2) := Nat.mul_le_mul_right _ c1
        have h4 : (C + 2 - 2) * (f + 1) = f * C + C := by rw [Nat.add_sub_cancel]; grind
        rw [Nat.mul_add] at h3
        omega
      have h3 : (B - 2) * (f + 1) * (B * H) ≤ (h * B + m) * (B * H) := Nat.mul_le_mul_right _ h2
      rw [Nat.mul_assoc] at h3
      omega
    omega
  · rw [if_neg c1] at hg
    have hd := Nat.div_add_mod (h * B + m) f
    have hr := Nat.mod_lt (h * B + m) hfp
    have hdB : (h * B + m) / f < B := by
      rw [Nat.div_lt_iff_lt_mul hfp]
      have : (h + 1) * B ≤ f * B := Nat.mul_le_mul_right _ (by omega)
      rw [Nat.add_mul, Nat.one_mul] at this
      rw [Nat.mul_comm B f]
      omega
    generalize (h * B + m) / f = d at *
    generalize (h * B + m) % f = r at *
    have hd2 : d * f + r = h * B + m := by rw [Nat.mul_comm]; exact hd
    clear hd
    -- the digit is at most d
    have hqd : q ≤ d := by
      refine Nat.lt_succ_iff.1 (hup _ ?_)
      have e1 : U < (h * B + m + 1) * (B * H) := by
        have h1 : ((h * B + m) * B + l + 1) * H ≤ ((h * B + m) * B + B) * H := Nat.mul_le_mul_right _ (by omega)
        have h2 : ((h * B + m) * B + B) * H = (h * B + m + 1) * (B * H) := by grind
        rw [Nat.add_mul, Nat.one_mul] at h1
        omega
      have e2 : (h * B + m + 1) * (B * H) ≤ ((d + 1) * f) * (B * H) := Nat.mul_le_mul_right _ (by rw [Nat.add_mul, Nat.one_mul]; omega)
      have e3 : (d + 1) * f * (B * H) ≤ (d + 1) * V := by
        rw [Nat.mul_assoc]
        refine Nat.mul_le_mul_left _ ?_
        have : f * (B * H) = f * B * H := by rw [Nat.mul_assoc]
        rw [this, hV, Nat.add_mul]
        omega
      show U < (d + 1) * V
      omega
    by_cases c2 : r < d * s / B
    · rw [if_pos c2] at hg
      have h1 : (r + 1) * B ≤ d * s := (Nat.le_div_iff_mul_le hB0).1 c2
      -- d is too great
      have hlt2 : U < d * V := by
        have e1 : U < (h * B + m + 1) * (B * H) := by
          have h1 : ((h * B + m) * B + l + 1) * H ≤ ((h * B + m) * B + B) * H := Nat.mul_le_mul_right _ (by omega)
          have h2 : ((h * B + m) * B + B) * H = (h * B + m + 1) * (B * H) := by grind
          rw [Nat.add_mul, Nat.one_mul] at h1
          omega
        have e2 : (h * B + m + 1) * B ≤ d * (f * B + s) := by
          have : d * (f * B + s) = d * f * B + d * s := by grind
          have e4 : (h * B + m + 1) * B = d * f * B + (r + 1) * B := by rw [← hd2]; grind
          omega
        have e3 : (h * B + m + 1) * B * H ≤ d * (f * B + s) * H := Nat.mul_le_mul_right _ e2
        have e4 : d * ((f * B + s) * H) ≤ d * V := Nat.mul_le_mul_left _ (by omega)
        rw [← Nat.mul_assoc] at e1 e4
        omega
      have hq : q < d := hup _ hlt2
      have hq2 : d ≤ q + 2 := by
        rcases Nat.lt_or_ge d 2 with g1 | g1
        · omega
        · have : d - 2 ≤ q := by
            refine hlo _ ?_
            have e1 : (d - 2) * V ≤ (d - 2) * ((f + 1) * (B * H)) := Nat.mul_le_mul_left _ hV2
            have e2 : (d - 2) * (f + 1) ≤ h * B + m := by
              obtain ⟨c, rfl⟩ : ∃ c, d = c + 2 := ⟨d - 2, by omega⟩
              rw [Nat.add_sub_cancel]
              have : (c + 2) * f = c * f + 2 * f := Nat.add_mul c 2 f
              have : c * (f + 1) = c * f + c := by rw [Nat.mul_add, Nat.mul_one]
              omega
            have e3 : (d - 2) * (f + 1) * (B * H) ≤ (h * B + m) * (B * H) := Nat.mul_le_mul_right _ e2
            rw [Nat.mul_assoc] at e3
            omega
          omega
      rw [hg]
      exact ⟨by omega, by omega, by omega⟩
    · rw [if_neg c2] at hg
      rw [hg]
      refine ⟨hqd, ?_, hdB⟩
      rcases Nat.eq_zero_or_pos d with g0 | g0
      · omega
      · have : d - 1 ≤ q := by
          refine hlo _ ?_
          have h1 : d * s < (r + 1) * B := by
            have := Nat.not_lt.1 c2
            rw [← Nat.lt_succ_iff, Nat.div_lt_iff_lt_mul hB0] at this
            exact this
          have e1 : (d - 1) * V ≤ (d - 1) * ((f * B + s + 1) * H) := Nat.mul_le_mul_left _ (by rw [hV, Nat.add_mul (f * B + s) 1 H]; omega)
          have e2 : (d - 1) * (f * B + s + 1) ≤ (h * B + m) * B := by
            obtain ⟨c, rfl⟩ : ∃ c, d = c + 1 := ⟨d - 1, by omega⟩
            rw [Nat.add_sub_cancel]
            have t1 : c * (f * B + s + 1) = c * f * B + c * s + c := by grind
            have t2 : (c + 1) * s = c * s + s := by grind
            have t3 : (h * B + m) * B = c * f * B + f * B + r * B := by rw [← hd2]; grind
            have t4 : (r + 1) * B = r * B + B := by grind
            have t5 : 2 * B ≤ f * B := Nat.mul_le_mul_right _ (by omega)
            omega
          have e3 : (d - 1) * (f * B + s + 1) * H ≤ (h * B + m) * B * H := Nat.mul_le_mul_right _ e2
          rw [Nat.mul_assoc, Nat.mul_assoc (h * B + m)] at e3
          omega
        omega
end Go.Proofs.Ytlmklhffafcmmaa

/- The functions wide.guessDigit and wide.subProduct. -/
namespace Go.Proofs.Ytlmklhffafcmmaa
open Go.RowKit

theorem wrap_dec1 (q : Nat) (h : 1 ≤ q) (hq : q < W) : IntKind.u64.wrap ((q : Int) - 1) = ((q - 1 : Nat) : Int) := by
  rw [← wrap_nat (q - 1) (by omega)]
  congr 1
  omega

set_option maxRecDepth 100000 in
set_option maxHeartbeats 1000000 in
theorem guessDigit_any (h m f s : Nat) (hm : m < W) (hf : f < W) (hs : s < W) (h0 : 0 < f) (w : World) :
    Calls Try.prog 122 #[.int .u64 (h : Int), .int .u64 (m : Int), .int .u64 (f : Int), .int .u64 (s : Int)] w (RwPost (gs h m f s) w) := by
  unfold gs
  by_cases c1 : f ≤ h
  · rw [if_pos c1]
    have c2 : (f : Int) ≤ (h : Int) := by omega
    go_enter Try.func122, Try.ntmps122
    go_wp2
    go_ret
    exact ⟨by unfold W; rfl, 0, rfl⟩
  · rw [if_neg c1]
    have c2 : (h : Int) < (f : Int) := by omega
    have HC := Lib.hid (div64_any h m f (by omega) hm hf)
    have hd : (h * W + m) / f < W := quo_lt (by omega) hm
    have hr : (h * W + m) % f < f := Nat.mod_lt _ h0
    generalize (h * W + m) / f = d at *
    generalize (h * W + m) % f = r at *
    have HM := Lib.hid (mul64 d s hd hs)
    unfold m1 at HM
    have hpos : r < d * s / W → 1 ≤ d := by
      intro c
      rcases Nat.eq_zero_or_pos d with g | g
      · subst g; simp at c
      · exact g
    generalize d * s / W = t at *
    generalize m0 d s = t0 at *
    have H2 := Lib.hid hd
    by_cases c3 : r < t
    · rw [if_pos c3]
      have c4 : (r : Int) < (t : Int) := by omega
      have H1 := Lib.hid (hpos c3)
      clear hpos hd hm hf hs c1 hr
      go_enter Try.func122, Try.ntmps122
      go_wp2_with fail
      refine (HC.out _).mono ?_
      rintro e w' ⟨rfl, n, rfl⟩
      go_wp2_with fail
      refine (HM.out _).mono ?_
      rintro e w' ⟨rfl, rfl⟩
      go_wp2
      go_ret
      exact ⟨by rw [wrap_dec1 d H1.out H2.out]; rfl, n, rfl⟩
    · rw [if_neg c3]
      have c4 : (t : Int) ≤ (r : Int) := by omega
      clear hpos hd hm hf hs c1 hr
      go_enter Try.func122, Try.ntmps122
      go_wp2_with fail
      refine (HC.out _).mono ?_
      rintro e w' ⟨rfl, n, rfl⟩
      go_wp2_with fail
      refine (HM.out _).mono ?_
      rintro e w' ⟨rfl, rfl⟩
      go_wp2
      go_ret
      exact ⟨rfl, n, rfl⟩

/-- What stands behind k rounds of subProduct in the segment, with what is missing beyond it. -/
def SubPInv (l X : List Nat) (off y k c : Nat) (s : List Nat) : Prop :=
  s.length = k ∧ Nm.Dig W s ∧ c < W ∧ Nm.val W s + Nm.val W (X.take k) * y = Nm.val W ((l.drop off).take k) + W ^ k * c

theorem sub_room (a b c o : Nat) (ha : a < W) (hb : b < W) (hc : c < W) (ho : o < W) : mh a b c + bw o (ml a b c) 0 < W := by
  have h1 := mlh a b c
  have h2 := df_bw o (ml a b c) 0 ho (ml_lt a b c) (by decide)
  have h3 : a * b ≤ (W - 1) * (W - 1) := Nat.mul_le_mul (by omega) (by omega)
  have h4 := df_lt o (ml a b c) 0
  generalize mh a b c = p at *
  generalize ml a b c = q at *
  generalize bw o q 0 = r at *
  generalize df o q 0 = s at *
  unfold W at *
  omega

theorem SubPInv.step {l X s : List Nat} {off y k c : Nat} (h : SubPInv l X off y k c s) (hk : off + k < l.length) (hX : k < X.length) (dx : X[k] < W) (dy : y < W) (dl : l[off + k] < W) :
    SubPInv l X off y (k + 1) (mh X[k] y c + bw l[off + k] (ml X[k] y c) 0) (s ++ [df l[off + k] (ml X[k] y c) 0]) := by
  obtain ⟨h1, h2, h3, h4⟩ := h
  refine ⟨by simp [h1], Nm.dig_append.2 ⟨h2, Nm.dig_cons.2 ⟨df_lt _ _ _, Nm.dig_nil W⟩⟩, sub_room _ _ _ _ dx dy h3 dl, ?_⟩
  have hd : k < (l.drop off).length := by simp; omega
  rw [Nm.val_snoc, h1, Nm.val_take_succ W _ k hd, Nm.val_take_succ W X k hX, List.getElem_drop, Nat.pow_succ]
  have e1 := mlh X[k] y c
  have e2 := df_bw l[off + k] (ml X[k] y c) 0 dl (ml_lt _ _ _) (by decide)
  generalize mh X[k] y c = p at *
  generalize ml X[k] y c = q at *
  generalize bw l[off + k] q 0 = r at *
  generalize df l[off + k] q 0 = t at *
  generalize W ^ k = P at *
  have e3 : P * (t + q) = P * (l[off + k] + W * r) := by rw [← e2]; rfl
  have e4 : P * (q + W * p) = P * (X[k] * y + c) := by rw [e1]
  grind

def SubPPost (g : Nat) (l X : List Nat) (off y : Nat) (w : World) (e : Ending) (w' : World) : Prop :=
  ∃ s c, e = .returned (.int .u64 (c : Nat)) ∧ SubPInv l X off y X.length c s ∧ Arr w' g (l.take off ++ (s ++ l.drop (off + X.length))) ∧ Only g w w'

set_option maxRecDepth 100000 in
set_option maxHeartbeats 1000000 in
theorem subProduct_any (l X : List Nat) (g off n cap : Nat) (p : Option Addr) (b o c y : Nat) (w : World) (hn : X.length ≤ n) (hnc : n ≤ cap) (hcap : cap ≤ 2000000000) (hoff : off ≤ 2000000000)
    (hl : off + X.length ≤ l.length) (hp : X ≠ [] → p = some ⟨b, o, none⟩) (hb : b ≠ g) (harr : Arr w g l)
    (hx : ∀ k (h : k < X.length), w.cell? ⟨b, o + k, none⟩ = some (.int .u64 (X[k] : Int))) (d1 : Nm.Dig W X) (d2 : Nm.Dig W l) (dy : y < W) :
    Calls Try.prog 123 #[.slice (some ⟨g, off, none⟩) n cap, .slice p X.length c, .int .u64 (y : Int)] w (SubPPost g l X off y w) := by
  go_enter Try.func123, Try.ntmps123
  have Hp := Lib.hid hp
  have Hx := Lib.hid hx
  clear hp hx
  go_wp2
  go_loopw [7, 20] (fun cv i wr => ∃ k cn s, k ≤ X.length ∧ i = .int .i64 (k : Nat) ∧ cv = .int .u64 (cn : Nat) ∧ SubPInv l X off y k cn s ∧ Arr wr g (l.take off ++ (s ++ l.drop (off + k))) ∧ Only g w wr)
    (fun _ i _ => X.length - (intOf i).toNat)
  case atStart =>
    exact ⟨0, 0, [], Nat.zero_le _, rfl, rfl, ⟨rfl, Nm.dig_nil W, W0, by simp [Nm.val]⟩, by rw [Nm.seg_all]; exact harr, Only.refl g w⟩
  case round =>
    clear harr
    obtain ⟨k, cn, s, hk, rfl, rfl, hinv, harr, honly⟩ := hrel
    by_cases hX : k < X.length
    · obtain rfl := Hp.out (by intro e; rw [e] at hX; exact absurd hX (Nat.not_lt_zero _))
      have hol : off + k < l.length := by omega
      have hlen := Nm.seg_length l s off k hinv.1 (by omega)
      have e1 := (honly.cell (p := ⟨b, o + k, none⟩) hb).trans (Hx.out k hX)
      have e3 := harr.cell (off + k) (by omega)
      rw [Nm.seg_get l s off k hinv.1 hol] at e3
      have e4 := harr.free (off + k)
      have ea := sub64_c0 l[off + k] (ml X[k] y cn)
      have dx := Nm.dig_get d1 k hX
      have dl := Nm.dig_get d2 (off + k) hol
      have hcn := hinv.2.2.1
      have hlt : mh X[k] y cn + bw l[off + k] (ml X[k] y cn) 0 < 18446744073709551616 := sub_room _ _ _ _ dx dy hcn dl
      have Hinv := Lib.hid (hinv.step hol hX dx dy dl)
      have Harr := harr.set (off + k) (df l[off + k] (ml X[k] y cn) 0)
      rw [Nm.seg_set l s off k _ hinv.1 hol] at Harr
      have HA := Lib.hid Harr
      have Ho := Lib.hid (honly.setCell (off + k) (.int .u64 (df l[off + k] (ml X[k] y cn) 0)))
      have hm := mulAdd_any X[k] y cn dx dy hcn
      have HM := Lib.hid hm
      clear hinv harr honly hlen Harr hm
      go_wp2_with fail
      refine (HM.out _).mono ?_
      rintro e w' ⟨rfl, rfl⟩
      go_wp2
      go_roundw
      case rel => exact ⟨k + 1, _, _, hX, by go_num, by go_num, Hinv.out, HA.out, Ho.out⟩
      case measure => simp [intOf]; omega
    · obtain rfl : k = X.length := by omega
      have Hinv := Lib.hid hinv
      have HA := Lib.hid harr
      have Ho := Lib.hid honly
      clear hinv harr honly
      go_wp2
      go_ret
      exact ⟨s, cn, rfl, Hinv.out, HA.out, Ho.out⟩
end Go.Proofs.Ytlmklhffafcmmaa

/- The function wide.divideStep: one digit of a quotient. -/
namespace Go.Proofs.Ytlmklhffafcmmaa
open Go.RowKit

/-- The segment of n + 1 limbs holds the remainder, and the digit comes back. -/
def DStep (g : Nat) (l : List Nat) (off n U V : Nat) (w : World) (e : Ending) (w' : World) : Prop :=
  ∃ t, e = .returned (.int .u64 ((U / V : Nat) : Int)) ∧ t.length = n + 1 ∧ Nm.Dig W t ∧ Nm.val W t = U % V ∧ Arr w' g (l.take off ++ (t ++ l.drop (off + (n + 1)))) ∧ Only g w w'

theorem dstep_fit {U V d r : Nat} (h : U = V * d + r) (h2 : U / V ≤ d) (hV : 0 < V) : d = U / V ∧ r = U % V := by
  have h3 : d ≤ U / V := (Nat.le_div_iff_mul_le hV).2 (by rw [Nat.mul_comm]; omega)
  have h4 : d = U / V := by omega
  refine ⟨h4, ?_⟩
  have h5 := Nat.div_add_mod U V
  rw [← h4] at h5
  omega

/-- The digit fits: nothing is missing beyond the highest limb. -/
theorem dstep_a {P U V low hi sv d c : Nat} (hU : U = low + P * hi) (hs : sv + V * d = low + P * c) (hc : c ≤ hi) (hq : U / V ≤ d) (hV : 0 < V) : d = U / V ∧ sv + P * (hi - c) = U % V := by
  refine dstep_fit ?_ hq hV
  obtain ⟨x, rfl⟩ : ∃ x, hi = c + x := ⟨hi - c, by omega⟩
  rw [Nat.add_sub_cancel_left, hU, Nat.mul_add]
  omega

/-- The digit is too great by 1, and the divisor is added back. -/
theorem dstep_b {P U V low hi sv d c tv cy : Nat} (hU : U = low + P * hi) (hs : sv + V * d = low + P * c) (hc : hi < c) (hq : d ≤ U / V + 1) (hV : 0 < V) (hsv : sv < P) (htv : tv < P) (hVP : V < P) (ht : tv + P * cy = sv + V) : 1 ≤ d ∧ d - 1 = U / V ∧ tv = U % V := by
  have hdm := Nat.div_add_mod U V
  have hm := Nat.mod_lt U hV
  obtain ⟨x, rfl⟩ : ∃ x, c = hi + (x + 1) := ⟨c - hi - 1, by omega⟩
  have e1 : P * (hi + (x + 1)) = P * hi + P * x + P := by rw [Nat.mul_add, Nat.mul_add, Nat.mul_one]; omega
  have hgt : U < V * d := by omega
  have hd : U / V < d := by rw [Nat.div_lt_iff_lt_mul hV, Nat.mul_comm]; exact hgt
  generalize U / V = q at *
  generalize U % V = r at *
  obtain rfl : d = q + 1 := by omega
  refine ⟨by omega, by omega, ?_⟩
  rw [Nat.mul_add, Nat.mul_one] at hs
  have e2 : tv + P * cy = r + P * (x + 1) := by rw [Nat.mul_add P x 1, Nat.mul_one]; omega
  have e3 := congrArg (· % P) e2
  simp only [Nat.add_mul_mod_self_left] at e3
  rwa [Nat.mod_eq_of_lt htv, Nat.mod_eq_of_lt (by omega)] at e3

/-- Behind k rounds of adding back. -/
def BackInv (l Y : List Nat) (off k c : Nat) (t : List Nat) : Prop :=
  t.length = k ∧ Nm.Dig W t ∧ c ≤ 1 ∧ Nm.val W t + W ^ k * c = Nm.val W ((l.drop off).take k) + Nm.val W (Y.take k)

theorem BackInv.step {l Y t : List Nat} {off k c : Nat} (h : BackInv l Y off k c t) (hk : off + k < l.length) (hY : k < Y.length) (dy : Y[k] < W) (dl : l[off + k] < W) :
    BackInv l Y off (k + 1) (cy l[off + k] Y[k] c) (t ++ [sm l[off + k] Y[k] c]) := by
  obtain ⟨h1, h2, h3, h4⟩ := h
  refine ⟨by simp [h1], Nm.dig_append.2 ⟨h2, Nm.dig_cons.2 ⟨sm_lt _ _ _, Nm.dig_nil W⟩⟩, cy_le _ _ _ dl dy h3, ?_⟩
  have hd : k < (l.drop off).length := by simp; omega
  rw [Nm.val_snoc, h1, Nm.val_take_succ W _ k hd, Nm.val_take_succ W Y k hY, List.getElem_drop, Nat.pow_succ]
  have e1 := sm_cy l[off + k] Y[k] c
  generalize cy l[off + k] Y[k] c = r at *
  generalize sm l[off + k] Y[k] c = s at *
  generalize W ^ k = P at *
  have e3 : P * (s + W * r) = P * (l[off + k] + Y[k] + c) := by rw [e1]
  grind

theorem seg_take (l s : List Nat) (off n : Nat) (h : off + n ≤ l.length) : (l.take off ++ (s ++ l.drop (off + n))).take off = l.take off := by
  rw [List.take_append_of_le_length (by simp; omega), List.take_take, Nat.min_self]
theorem seg_drop (l s : List Nat) (off n j : Nat) (hs : s.length = n) (h : off + n ≤ l.length) (hj : n ≤ j) : (l.take off ++ (s ++ l.drop (off + n))).drop (off + j) = l.drop (off + j) := by
  rw [List.drop_append, List.drop_of_length_le (by simp; omega), List.nil_append, List.drop_append, List.drop_of_length_le (by simp; omega), List.nil_append, List.drop_drop]
  congr 1
  simp
  omega
theorem seg_mid (l s : List Nat) (off n : Nat) (hs : s.length = n) (h : off + n ≤ l.length) : ((l.take off ++ (s ++ l.drop (off + n))).drop off).take n = s := by
  rw [List.drop_append, List.drop_of_length_le (by simp; omega), List.nil_append]
  have e : off - (l.take off).length = 0 := by simp; omega
  rw [e, List.drop_zero, List.take_append_of_le_length (by omega), List.take_of_length_le (by omega)]

set_option maxRecDepth 100000 in
set_option maxHeartbeats 2000000 in
theorem divideStep_any (l Y : List Nat) (g off n n1 n2 nr cap b o cb : Nat) (w : World) (hn : Y.length = n) (hn1 : n1 + 1 = n) (hn2 : n2 + 2 = n) (hnr : n + 1 ≤ nr) (hnc : nr ≤ cap) (hcap : cap ≤ 2000000000) (hoff : off ≤ 2000000000)
    (hl : off + n + 1 ≤ l.length) (hb : b ≠ g) (harr : Arr w g l) (hx : ∀ k (h : k < Y.length), w.cell? ⟨b, o + k, none⟩ = some (.int .u64 (Y[k] : Int))) (dY : Nm.Dig W Y) (dl : Nm.Dig W l)
    (htop : W ≤ 2 * Y[n1]) (hU : Nm.val W ((l.drop off).take (n + 1)) < Nm.val W Y * W) :
    Calls Try.prog 114 #[.slice (some ⟨g, off, none⟩) nr cap, .slice (some ⟨b, o, none⟩) n cb] w (DStep g l off n (Nm.val W ((l.drop off).take (n + 1))) (Nm.val W Y) w) := by
  have z1 : off + n < l.length := by omega
  have z2 : off + n1 < l.length := by omega
  have z3 : n1 < Y.length := by omega
  have z4 : n2 < Y.length := by omega
  have c1 := harr.cell (off + n) z1
  have c2 := harr.cell (off + n1) z2
  have c3 := hx n1 z3
  have c4 := hx n2 z4
  have t1 : (n : Int) - 1 = (n1 : Int) := by omega
  have t2 : (n : Int) - 2 = (n2 : Int) := by omega
  -- the numbers
  have dz1 := Nm.dig_get dl _ z1
  have dz2 := Nm.dig_get dl _ z2
  have dy1 := Nm.dig_get dY _ z3
  have dy2 := Nm.dig_get dY _ z4
  have hf0 : 0 < Y[n1] := by unfold W at htop; omega
  have HG := Lib.hid (fun w => guessDigit_any l[off + n] l[off + n1] Y[n1] Y[n2] dz2 dy1 dy2 hf0 w)
  have hVe : Nm.val W Y = (Y[n1] * W + Y[n2]) * W ^ n2 + Nm.val W (Y.take n2) := by
    have h1 := Nm.val_take_succ W Y n1 z3
    have h2 := Nm.val_take_succ W Y n2 z4
    rw [show n1 + 1 = Y.length by omega, List.take_length] at h1
    obtain rfl : n1 = n2 + 1 := by omega
    rw [h2, Nat.pow_succ] at h1
    rw [h1]
    grind
  have hdl1 : n2 < (l.drop off).length := by simp; omega
  have hdl2 : n1 < (l.drop off).length := by simp; omega
  have hdl3 : n < (l.drop off).length := by simp; omega
  have hlow : Nm.val W ((l.drop off).take (n + 1)) = Nm.val W ((l.drop off).take n) + W ^ n * l[off + n] := by
    rw [Nm.val_take_succ W _ n hdl3, List.getElem_drop]
  have hUe : Nm.val W ((l.drop off).take (n + 1)) = ((l[off + n] * W + l[off + n1]) * W + l[off + n2]) * W ^ n2 + Nm.val W ((l.drop off).take n2) := by
    have h1 := Nm.val_take_succ W (l.drop off) n1 hdl2
    have h2 := Nm.val_take_succ W (l.drop off) n2 hdl1
    rw [hlow]
    simp only [List.getElem_drop] at h1 h2
    obtain rfl : n = n1 + 1 := by omega
    obtain rfl : n1 = n2 + 1 := by omega
    rw [h1, h2, Nat.pow_succ, Nat.pow_succ]
    grind
  have hP : Nm.val W (Y.take n2) < W ^ n2 := by
    have := Nm.val_lt (Nm.dig_take dY n2)
    rwa [List.length_take, Nat.min_eq_left (by omega)] at this
  have hP2 : Nm.val W ((l.drop off).take n2) < W ^ n2 := by
    have := Nm.val_lt (Nm.dig_take (Nm.dig_drop dl off) n2)
    rwa [List.length_take, Nat.min_eq_left (by omega)] at this
  have hVP : Nm.val W Y < W ^ n := by
    have := Nm.val_lt dY
    rwa [hn] at this
  have hVpos : 0 < Nm.val W Y := by
    rw [hVe]
    have : 0 < (Y[n1] * W + Y[n2]) * W ^ n2 := Nat.mul_pos (Nat.add_pos_left (Nat.mul_pos hf0 W0) _) (Nat.pow_pos W0)
    omega
  have hg := guess_ok (g := gs l[off + n] l[off + n1] Y[n1] Y[n2]) hUe hVe hP2 hP (Nm.dig_get dl _ (by omega)) dz2 dy2 htop (by decide) hU rfl
  clear hUe hVe hP hP2 hdl1 hdl2 hdl3 dy1 dy2 htop hU hf0 dz2
  generalize gs l[off + n] l[off + n1] Y[n1] Y[n2] = d at *
  generalize Nm.val W ((l.drop off).take (n + 1)) = U at *
  have HD := Lib.hid hg
  have HS : Hid (∀ n' cap' w', n ≤ n' → n' ≤ cap' → cap' ≤ 2000000000 → Arr w' g l → (∀ k (h : k < Y.length), w'.cell? ⟨b, o + k, none⟩ = some (.int .u64 (Y[k] : Int))) →
      Calls Try.prog 123 #[.slice (some ⟨g, off, none⟩) n' cap', .slice (some ⟨b, o, none⟩) n cb, .int .u64 (d : Int)] w' (SubPPost g l Y off d w')) := by
    intro n' cap' w' h1 h2 h3 ha hh
    have := subProduct_any l Y g off n' cap' (some ⟨b, o, none⟩) b o cb d w' (by omega) h2 h3 hoff (by omega) (fun _ => rfl) hb ha hh dY dl hg.2.2
    rwa [hn] at this
  have HX := Lib.hid hx
  have HA := Lib.hid harr
  have HL := Lib.hid hlow
  have HV := Lib.hid (And.intro hVP hVpos)
  clear hg hx harr hlow hVP hVpos
  unfold RwPost at HG
  go_enter Try.func114, Try.ntmps114
  go_wp2_with fail
  go_quiet ((go_at_call 122; with_reducible exact Calls.quiet_of (HG.out _)))
  go_wp2_with fail
  refine (HS.out _ _ _ (by omega) (by omega) (by omega) (HA.out.drewN _) HX.out).mono ?_
  rintro e w' ⟨s, c, rfl, hp, ha, ho⟩
  rw [hn] at hp ha
  have hlen := Nm.seg_length l s off n hp.1 (by omega)
  have e3 := ha.cell (off + n) (by omega)
  rw [Nm.seg_get l s off n hp.1 z1] at e3
  have e4 := ha.free (off + n)
  have hcW := hp.2.2.1
  have hz2 : off + n ≤ l.length := Nat.le_of_lt z1
  have Hs := Lib.hid hp
  have hon : Only g w w' := ((Only.refl g w).drewN _).trans ho
  clear ho c1 c2 c3 c4 HG HS t1 t2
  generalize l[off + n] = hi at *
  by_cases hc : c ≤ hi
  · have q1 : (c : Int) ≤ (hi : Int) := by omega
    have q2 : IntKind.u64.wrap ((hi : Int) - (c : Int)) = ((hi - c : Nat) : Int) := by
      rw [← wrap_nat (hi - c) (by omega)]
      congr 1
      omega
    have HA2 := ha.set (off + n) (hi - c)
    rw [Nm.seg_set l s off n _ hp.1 z1] at HA2
    have HA3 := Lib.hid HA2
    have Ho := Lib.hid (hon.setCell (off + n) (.int .u64 ((hi - c : Nat) : Int)))
    have Hc := Lib.hid hc
    clear hp ha hon HA2 hlen hc
    go_wp2
    go_ret
    obtain ⟨p1, p2, p3, p4⟩ := Hs.out
    rw [← hn, List.take_length, hn] at p4
    obtain ⟨h1, h2⟩ := dstep_a HL.out p4 Hc.out HD.out.1 HV.out.2
    refine ⟨s ++ [hi - c], by rw [← h1]; rfl, by simp [p1], Nm.dig_append.2 ⟨p2, Nm.dig_cons.2 ⟨by omega, Nm.dig_nil W⟩⟩, ?_, HA3.out, Ho.out⟩
    rw [Nm.val_snoc, p1]
    exact h2
  · have q1 : (hi : Int) < (c : Int) := by omega
    have hlt : hi < c := by omega
    have HC := Lib.hid hlt
    obtain ⟨l1, hl1⟩ : ∃ l1, l1 = l.take off ++ (s ++ l.drop (off + n)) := ⟨_, rfl⟩
    rw [← hl1] at ha hlen
    have HE : Hid (l1.take off = l.take off ∧ l1.drop (off + (n + 1)) = l.drop (off + (n + 1)) ∧ (l1.drop off).take n = s ∧ Nm.Dig W l1) := by
      show _ ∧ _
      rw [hl1]
      exact ⟨seg_take l s off n hz2, seg_drop l s off n (n + 1) hp.1 hz2 (by omega), seg_mid l s off n hp.1 hz2, Nm.dig_append.2 ⟨Nm.dig_take dl _, Nm.dig_append.2 ⟨hp.2.1, Nm.dig_drop dl _⟩⟩⟩
    have dl1 := HE.out.2.2.2
    have hon2 := Lib.hid hon
    have HB := Lib.hid (fun k (hk : k < Y.length) => (hon.cell (p := ⟨b, o + k, none⟩) hb).trans (HX.out k hk))
    clear hl1 hc hp e4 hon
    rw [← hlen] at z1 hl hz2
    go_wp2
    clear e3 q1
    have hn0 : n ≤ Y.length := by omega
    go_loopw [8, 55] (fun cv i wr => ∃ k cn t, k ≤ n ∧ i = .int .i64 (k : Nat) ∧ cv = .int .u64 (cn : Nat) ∧ BackInv l1 Y off k cn t ∧ Arr wr g (l1.take off ++ (t ++ l1.drop (off + k))) ∧ Only g w wr)
      (fun _ i _ => n - (intOf i).toNat)
    case atStart =>
      exact ⟨0, 0, [], Nat.zero_le _, rfl, rfl, ⟨rfl, Nm.dig_nil W, Nat.zero_le _, by simp [Nm.val]⟩, by rw [Nm.seg_all]; exact ha, hon2.out⟩
    case round =>
      clear ha
      obtain ⟨k, cn, t, hk, rfl, rfl, hinv, harr, honly⟩ := hrel
      have hlen2 := Nm.seg_length l1 t off k hinv.1 (by omega)
      by_cases hX : k < n
      · have hY : k < Y.length := by omega
        have e1 := (honly.cell (p := ⟨b, o + k, none⟩) hb).trans (HX.out k hY)
        have hol : off + k < l1.length := by omega
        have e3 := harr.cell (off + k) (by omega)
        rw [Nm.seg_get l1 t off k hinv.1 hol] at e3
        have e4 := harr.free (off + k)
        have ea := add64_run l1[off + k] Y[k] cn hinv.2.2.1
        have Hinv := Lib.hid (hinv.step hol hY (Nm.dig_get dY k hY) (Nm.dig_get dl1 _ hol))
        have Harr := harr.set (off + k) (sm l1[off + k] Y[k] cn)
        rw [Nm.seg_set l1 t off k _ hinv.1 hol] at Harr
        have HA := Lib.hid Harr
        have Ho := Lib.hid (honly.setCell (off + k) (.int .u64 (sm l1[off + k] Y[k] cn)))
        clear hinv harr honly Harr hlen2
        go_wp2
        go_roundw
        case rel => exact ⟨k + 1, _, _, hX, by go_num, rfl, Hinv.out, HA.out, Ho.out⟩
        case measure => simp [intOf]; omega
      · obtain rfl : k = n := by omega
        obtain ⟨u3, e3⟩ := harr.has (off + k) (by omega)
        have e4 := harr.free (off + k)
        have HA2 := harr.set (off + k) 0
        rw [Nm.seg_set l1 t off k _ hinv.1 z1, HE.out.1, HE.out.2.1] at HA2
        have HA3 := Lib.hid HA2
        have Ho := Lib.hid (honly.setCell (off + k) (.int .u64 ((0 : Nat) : Int)))
        have Hinv := Lib.hid hinv
        clear hinv harr honly HA2 hlen2
        go_wp2
        go_ret
        obtain ⟨p1, p2, p3, p4⟩ := Hs.out
        rw [← hn, List.take_length, hn] at p4
        obtain ⟨b1, b2, b3, b4⟩ := Hinv.out
        rw [HE.out.2.2.1] at b4
        have b5 := Nm.val_lt b2
        rw [b1] at b5
        have p5 := Nm.val_lt p2
        rw [p1] at p5
        rw [← hn, List.take_length, hn] at b4
        obtain ⟨h1, h2, h3⟩ := dstep_b HL.out p4 HC.out HD.out.2.1 HV.out.2 p5 b5 HV.out.1 b4
        refine ⟨t ++ [0], by rw [← h2, ← wrap_dec1 d h1 HD.out.2.2]; rfl, by simp [b1], Nm.dig_append.2 ⟨b2, Nm.dig_cons.2 ⟨W0, Nm.dig_nil W⟩⟩, ?_, HA3.out, Ho.out⟩
        rw [Nm.val_snoc, Nat.mul_zero, Nat.add_zero]
        exact h3
end Go.Proofs.Ytlmklhffafcmmaa
