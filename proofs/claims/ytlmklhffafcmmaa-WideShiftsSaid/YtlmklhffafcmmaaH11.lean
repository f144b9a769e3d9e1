/- What the theorem leans on, part 11: RefQuo3, RefQuo4, RefQuo, LShift, LShiftA, LShiftB, LShiftC. -/
import Derived.Test.YtlmklhffafcmmaaH10

/- The reference's Quo: the walk where the first rest is negative. -/
namespace Go.Proofs.Ytlmklhffafcmmaa
open Go.RowKit

set_option maxRecDepth 100000 in
set_option maxHeartbeats 8000000 in
theorem rquo_neg1 (x y : Int) (v1 v2 : Value) (w : World) (k : Nat) (hk : k ≤ 90000) (hx : x.natAbs < D9 ^ k) (hy : y.natAbs < D9 ^ k) (h1 : Rz w v1 x) (h2 : Rz w v2 y) (hs : 0 < y) (hr : x - q0 x y * y < 0) :
    Calls Try.prog 39 #[iV x v1, iV y v2] w (QIPost (q0 x y - 1) (x - (q0 x y - 1) * y) w) := by
  have lx := lenD hx
  have ly := lenD hy
  have H_over := Lib.hid (fun v1 v2 w g1 g2 => rover_any v1 v2 x.natAbs y.natAbs w (by omega) g1 g2 (by omega) (by omega))
  have H_made := Lib.hid (fun v w g => (rmade_any (decide (x < 0) != decide (y < 0)) v (x.natAbs / y.natAbs) w g).mono (made_int (z := q0 x y) rfl))
  have lq := Nat.le_trans (lenD (Nat.lt_of_le_of_lt (q0_le x y) hx)) (by omega : k ≤ 1000000)
  have lqy := Nat.le_trans (lenD (Nat.lt_of_le_of_lt (q0y_le x y) hx)) (by omega : k ≤ 1000000)
  have H_mul := Lib.hid (fun v1 v2 w g1 g2 => rmul_int (q0 x y) y v1 v2 w g1 g2 lq (by omega))
  have H_sub := Lib.hid (fun v1 v2 w g1 g2 => rsub_int x (q0 x y * y) v1 v2 w g1 g2 (by omega) lqy)
  have H_sgn := Lib.hid (fun v w g => rsign_int (x - q0 x y * y) v w g)
  have H_sgy := Lib.hid (fun v w g => rsign_int y v w g)
  rw [Int.sign_eq_one_of_pos hs] at H_sgy
  rw [Int.sign_eq_neg_one_of_neg hr] at H_sgn
  obtain ⟨zi, hzi⟩ : ∃ z : Int, z = 1 := ⟨_, rfl⟩
  have H_n1 : Hid (∀ w, Calls Try.prog 25 #[.int .i64 1] w (IntPost zi w)) := by rw [hzi]; exact fun w => rnum_any 1 w (by decide) (by decide)
  have H_adj0 : ∀ z : Int, z = 1 → ∀ v1 v2 w, Rz w v1 (q0 x y) → Rz w v2 z → Calls Try.prog 33 #[iV (q0 x y) v1, iV z v2] w (IntPost (q0 x y - 1) w) := by
    intro z hz v1 v2 w g1 g2
    subst hz
    exact rsub_int (q0 x y) 1 v1 v2 w g1 g2 lq (Nat.le_trans (lenD (k := 3) (by decide)) (by decide))
  have H_adj := Lib.hid (H_adj0 zi hzi)
  clear H_adj0
  have lq1 : (Nm.dg D9 (q0 x y - 1).natAbs).length ≤ 1000000 := by
    have a1 := q0_le x y
    refine Nat.le_trans (lenD (k := k + 1) (twice ?_)) (by omega)
    have : 0 < D9 ^ k := Nat.pow_pos D90
    omega
  have lqy1 : (Nm.dg D9 ((q0 x y - 1) * y).natAbs).length ≤ 1000000 := by
    have a1 := q0y_le x y
    rw [Int.sub_mul, Int.one_mul]
    refine Nat.le_trans (lenD (k := k + 1) (twice ?_)) (by omega)
    omega
  have H_mul2 := Lib.hid (fun v1 v2 w g1 g2 => rmul_int (q0 x y - 1) y v1 v2 w g1 g2 lq1 (by omega))
  have H_sub2 := Lib.hid (fun v1 v2 w g1 g2 => rsub_int x ((q0 x y - 1) * y) v1 v2 w g1 g2 (by omega) lqy1)
  clear hzi lq1 lqy1
  obtain ⟨sb, hsb⟩ : ∃ sb, (decide (x < 0) != decide (y < 0)) = sb := ⟨_, rfl⟩
  rw [hsb] at H_made
  have HX := Lib.hid h1
  have HY := Lib.hid h2
  clear lq lqy lx ly hx hy hk hr
  clear hs
  unfold IntPost iV at H_made H_mul H_sub H_adj H_mul2 H_sub2
  unfold IntPost at H_n1
  unfold iV at H_n1
  unfold iV at H_sgn
  unfold iV at H_sgy
  unfold SignPost at H_sgn H_sgy
  unfold OverPost at H_over
  unfold QIPost iV
  generalize x.natAbs / y.natAbs = dd at *
  generalize x.natAbs % y.natAbs = de at *
  obtain ⟨bx, hbx⟩ : ∃ b, decide (x < 0) = b := ⟨_, rfl⟩
  obtain ⟨by', hby⟩ : ∃ b, decide (y < 0) = b := ⟨_, rfl⟩
  rw [hbx, hby] at hsb
  have hsb2 : (!(bx == by')) = sb := hsb
  rw [hby] at H_mul H_mul2 H_sgy
  rw [hbx] at H_sub H_sub2 ⊢
  rw [hby]
  clear hbx hby hsb
  generalize hr1 : x - (q0 x y - 1) * y = r1 at *
  generalize (q0 x y - 1) * y = q1y at *
  generalize hq1 : q0 x y - 1 = q1 at *
  clear hr1 hq1
  generalize x - q0 x y * y = r at *
  generalize q0 x y * y = qy at *
  generalize q0 x y = q at *
  generalize decide (qy < 0) = bqy at *
  generalize decide (q1y < 0) = bq1y at *
  generalize decide (zi < 0) = bzi at *
  obtain ⟨bq1, hbq1⟩ : ∃ b, decide (q1 < 0) = b := ⟨_, rfl⟩
  obtain ⟨br1, hbr1⟩ : ∃ b, decide (r1 < 0) = b := ⟨_, rfl⟩
  rw [hbq1] at H_adj H_mul2
  rw [hbr1] at H_sub2
  have HQQ := Lib.hid hbq1
  have HRR := Lib.hid hbr1
  clear hbq1 hbr1
  obtain ⟨bq, hbq⟩ : ∃ b, decide (q < 0) = b := ⟨_, rfl⟩
  rw [hbq] at H_made H_mul H_adj
  obtain ⟨pa, ba, oa, ca, rfl, hra⟩ := h1
  obtain ⟨pb, bb, ob, cb, rfl, hrb⟩ := h2
  clear hra hrb
  generalize (Nm.dg D9 x.natAbs).length = la at *
  generalize (Nm.dg D9 y.natAbs).length = lb at *
  obtain ⟨w0, hw0⟩ : ∃ w0 : World, w0 = (((w.alloc (.cells #[.bool bx, .slice pa la ca] 31)).alloc (.cells #[.bool by', .slice pb lb cb] 31)).alloc (.cells #[.bool false, .slice none 0 0] 31)).alloc (.cells #[.bool false, .slice none 0 0] 31) := ⟨_, rfl⟩
  have hb0 : Hid (Below w.heap.size w w0) := by rw [hw0]; exact ((((Below.refl _ _).alloc (Nat.le_refl _) _).alloc (by simp) _).alloc (by simp; omega) _).alloc (by simp; omega) _
  have I1 : Hid (ZC (.bool bx) (.slice pa la ca) w0 w.heap.size) := by rw [hw0]; exact (((ZC.new rfl).alloc _).alloc _).alloc _
  have I2 : Hid (ZC (.bool by') (.slice pb lb cb) w0 (w.heap.size + 1)) := by rw [hw0]; exact ((ZC.new (by simp)).alloc _).alloc _
  have I3 : Hid (ZC (.bool false) (.slice none 0 0) w0 (w.heap.size + 1 + 1)) := by rw [hw0]; exact (ZC.new (by simp)).alloc _
  have I4 : Hid (ZC (.bool false) (.slice none 0 0) w0 (w.heap.size + 1 + 1 + 1)) := by rw [hw0]; exact ZC.new (by simp)
  have Hsz : Hid (w.heap.size + 4 ≤ w0.heap.size) := by rw [hw0]; show _ ≤ _; simp
  have RX := Lib.hid (Ri.below HX.out hb0.out (Nat.le_refl _))
  have RY := Lib.hid (Ri.below HY.out hb0.out (Nat.le_refl _))
  have Hw0 := Lib.hid hw0
  clear hw0 HX HY
  go_enter Try.func39, Try.ntmps39
  go_wp2_with fail
  rw [← Hw0.out]
  clear Hw0
  refine (H_over.out _ _ _ RX.out RY.out).mono ?_
  rintro e y1 ⟨vq, vr, rfl, rq, rr, b1⟩
  have D := Lib.hid b1
  obtain ⟨k0, k1, _⟩ := I1.out.next D.out
  obtain ⟨k2, k3, _⟩ := I2.out.next D.out
  have RQ := Lib.hid rq
  obtain ⟨pq, bq', oq, cq, rfl, hrq⟩ := rq
  clear b1 rr hrq
  go_wp2_with fail
  refine (H_made.out _ _ RQ.out).mono ?_
  rintro e y2 ⟨v8, rfl, r8, b2⟩
  have D := Lib.hid (chain D.out b2)
  obtain ⟨u2, hu2⟩ : ∃ u : World, u = y2.alloc (.cells #[.bool bq, v8] 31) := ⟨_, rfl⟩
  have R8 : Hid (Rz u2 v8 q) := by rw [hu2]; exact Ri.allocd r8 _
  have T8 : Hid (ZC (.bool bq) v8 u2 y2.heap.size) := by rw [hu2]; exact ZC.new rfl
  have hw8 : Hid (w0.heap.size ≤ y2.heap.size) := D.out.size
  have hy2 : Hid (w.heap.size + 4 ≤ y2.heap.size) := Nat.le_trans Hsz.out D.out.size
  have D : Hid (Below w0.heap.size w0 u2) := by rw [hu2]; exact D.out.alloc D.out.size _
  obtain ⟨p8, bb8, o8, c8, rfl, rr8⟩ := r8
  clear rr8
  generalize (Nm.dg D9 q.natAbs).length = l8 at *
  obtain ⟨k0, k1, _⟩ := I1.out.next D.out
  obtain ⟨k2, k3, _⟩ := I2.out.next D.out
  obtain ⟨k4, k5, _⟩ := T8.out
  have HSB : Hid (w.heap.size + 4 ≤ u2.heap.size) := Nat.le_trans Hsz.out D.out.size
  have hu2g : Hid (y2.heap.size < u2.heap.size) := T8.out.lt
  have Hu2 := Lib.hid hu2
  clear b2 hu2 RQ
  have RXu := Lib.hid (Ri.below RX.out D.out (Nat.le_refl _))
  have RYu := Lib.hid (Ri.below RY.out D.out (Nat.le_refl _))
  go_upto_region 3 with (fail)
  rw [← Hu2.out]
  clear Hu2
  obtain ⟨ja, jb, jc, jd, je, jf, jg, jh, ji, jj, jk, jl⟩ := far8q HSB.out
  have jm := hu2g.out
  have jn : ¬ y2.heap.size = u2.heap.size := Nat.ne_of_lt jm
  have jo : ¬ u2.heap.size = y2.heap.size := Nat.ne_of_gt jm
  go_cut [9] (fun s9 wx => ∃ (g9 : Nat) (p9 : Option Addr) (n9 c9 : Nat), s9 = .pointer (some ⟨g9, 0, none⟩) ∧ Hid (CutO (decide (r < 0)) (.slice p9 n9 c9) (Nm.dg D9 r.natAbs) u2.heap.size u2 wx g9))
  case first =>
    rename_i J0 K0 hRJ hMK
    go_region_held3 (fun W' => W'.cell? ⟨w.heap.size, 0, none⟩ = some (.bool bx) ∧ W'.cell? ⟨w.heap.size, 1, none⟩ = some (.slice pa la ca) ∧ W'.cell? ⟨w.heap.size + 1, 0, none⟩ = some (.bool by') ∧ W'.cell? ⟨w.heap.size + 1, 1, none⟩ = some (.slice pb lb cb) ∧ W'.cell? ⟨y2.heap.size, 0, none⟩ = some (.bool bq) ∧ W'.cell? ⟨y2.heap.size, 1, none⟩ = some (.slice p8 l8 c8)) (go_keep)
      (first
        | (go_at_call 37; (with_reducible refine (H_mul.out _ _ _ (by first | exact Ri.drew R8.out | exact Ri.allocd (Ri.drew R8.out) _ | exact Ri.drew (Ri.allocd R8.out _)) (by first | exact Ri.drew RYu.out | exact Ri.allocd (Ri.drew RYu.out) _ | exact Ri.drew (Ri.allocd RYu.out _))).mono ?_); rintro e w1 ⟨vm, rfl, rz1, bz1⟩; (try (have bz1 := undrew bz1)); have d1 : Below u2.heap.size u2 w1 := chain (by first | exact Below.refl _ _ | exact (Below.refl _ _).drew | exact below_one _ _ | exact ((Below.refl _ _).drew).alloc (Nat.le_refl _) _) bz1; have e1 : Below u2.heap.size u2 w1 := d1; have p0 := keep1 e1 k0; have p1 := keep1 e1 k1; have p2 := keep1 e1 k2; have p3 := keep1 e1 k3; have p4 := keep1 e1 k4; have p5 := keep1 e1 k5; obtain ⟨j1a, j1b, j1c, j1d, j1e, j1f, j1g, j1h, j1i, j1j, j1k, j1l⟩ := far8q (Nat.le_trans HSB.out e1.size); have j1m := Nat.lt_of_lt_of_le hu2g.out e1.size; have j1n : ¬ y2.heap.size = w1.heap.size := Nat.ne_of_lt j1m; have j1o : ¬ w1.heap.size = y2.heap.size := Nat.ne_of_gt j1m; (try (have A0 := Lib.hid (ZC.made (g := u2.heap.size) rfl bz1); obtain ⟨A0a, A0b, A0c, A0d⟩ := A0.out)); (try (have L01 := Lib.hid (apart_b (g := u2.heap.size) rfl bz1); obtain ⟨l01x, l01y, l01z⟩ := L01.out)); have G1 := Lib.hid rz1; obtain ⟨pr1, br1, or1, cr1, rfl, rr1⟩ := rz1; clear rr1)
        | (go_at_call 33; (with_reducible refine (H_sub.out _ _ _ (by first | exact Ri.below RXu.out e1 (Nat.le_refl _) | exact Ri.allocd (Ri.below RXu.out e1 (Nat.le_refl _)) _) (by first | exact G1.out | exact Ri.allocd G1.out _)).mono ?_); rintro e w2 ⟨vs, rfl, rz2, bz2⟩; (try (have bz2 := undrew bz2)); have d2 : Below w1.heap.size w1 w2 := chain (by first | exact Below.refl _ _ | exact (Below.refl _ _).drew | exact below_one _ _ | exact ((Below.refl _ _).drew).alloc (Nat.le_refl _) _) bz2; have e2 : Below u2.heap.size u2 w2 := chain e1 d2; have p0 := keep1 e2 k0; have p1 := keep1 e2 k1; have p2 := keep1 e2 k2; have p3 := keep1 e2 k3; have p4 := keep1 e2 k4; have p5 := keep1 e2 k5; obtain ⟨j2a, j2b, j2c, j2d, j2e, j2f, j2g, j2h, j2i, j2j, j2k, j2l⟩ := far8q (Nat.le_trans HSB.out e2.size); have j2m := Nat.lt_of_lt_of_le hu2g.out e2.size; have j2n : ¬ y2.heap.size = w2.heap.size := Nat.ne_of_lt j2m; have j2o : ¬ w2.heap.size = y2.heap.size := Nat.ne_of_gt j2m; (try (have A1 := Lib.hid (ZC.made (g := w1.heap.size) rfl bz2); obtain ⟨A1a, A1b, A1c, A1d⟩ := A1.out)); (try (have A0 := Lib.hid (A0.out.next d2); obtain ⟨A0a, A0b, A0c, A0d⟩ := A0.out)); (try (have L02 := Lib.hid (apart_t L01.out d2.size); obtain ⟨l02x, l02y, l02z⟩ := L02.out)); (try (have L12 := Lib.hid (apart_b (g := w1.heap.size) rfl bz2); obtain ⟨l12x, l12y, l12z⟩ := L12.out)); have G2 := Lib.hid rz2; obtain ⟨pr2, br2, or2, cr2, rfl, rr2⟩ := rz2; clear rr2)
        | fail)
    all_goals
      refine hMK _ _ (Met.intro (hRJ _ _ ?_))
      (repeat apply Exists.intro)
      refine ⟨?_, rfl⟩
      refine ⟨_, pr2, (Nm.dg D9 r.natAbs).length, cr2, rfl, ?_⟩
      show CutO _ (.slice pr2 _ cr2) _ u2.heap.size u2 _ _
      have sA0 : u2.heap.size ≤ u2.heap.size := Nat.le_refl _
      have sA1 : u2.heap.size ≤ w1.heap.size := e1.size
      have sA2 : u2.heap.size ≤ w2.heap.size := e2.size
      first
        | with_reducible exact CutO.k1 G2.out e2 sA2
        | with_reducible exact CutO.k2 A0.out sA0 G2.out e2
        | with_reducible exact CutO.k2 A1.out sA1 G2.out e2
        | fail
  obtain ⟨g9, p9, n9, c9, rfl, hcut⟩ := hcut
  obtain ⟨hg9, t9, r9, b9⟩ := hcut.out
  have D := Lib.hid (chain D.out b9)
  have T8 := Lib.hid (T8.out.next b9)
  have R8 := Lib.hid (Ri.below R8.out b9 (Nat.le_refl _))
  have T9 := Lib.hid t9
  have R9 := Lib.hid r9
  have hg9' : Hid (w.heap.size + 4 ≤ g9) := Nat.le_trans HSB.out hg9
  have hg9w : Hid (w0.heap.size ≤ g9) := Nat.le_trans hw8.out (Nat.le_of_lt (Nat.lt_of_lt_of_le hu2g.out hg9))
  have hg89 : Hid (y2.heap.size < g9) := Nat.lt_of_lt_of_le hu2g.out hg9
  obtain ⟨k0, k1, _⟩ := T9.out
  clear hcut hg9 t9 r9 b9 ja jb jc jd je jf jg jh ji jj jk jl jm jn jo k2 k3 k4 k5
  obtain ⟨br, hbr⟩ : ∃ b, decide (r < 0) = b := ⟨_, rfl⟩
  rw [hbr] at T9 k0 H_sgn
  go_wp2_with fail
  refine (H_sgn.out _ _ R9.out).mono ?_
  rintro e y3 ⟨rfl, b3⟩
  have D := Lib.hid (chain D.out b3)
  have T8 := Lib.hid (T8.out.next b3)
  have R8 := Lib.hid (Ri.below R8.out b3 (Nat.le_refl _))
  have T9 := Lib.hid (T9.out.next b3)
  have R9 := Lib.hid (Ri.below R9.out b3 (Nat.le_refl _))
  clear b3 k0 k1
  obtain ⟨k2, k3, _⟩ := I2.out.next D.out
  have HRRn := Lib.hid hbr
  clear hbr hbq
  go_wp2_with fail
  refine (H_sgy.out _ _ (Ri.below RY.out D.out (Nat.le_refl _))).mono ?_
  rintro e y4 ⟨rfl, b4⟩
  have D := Lib.hid (chain D.out b4)
  have T8 := Lib.hid (T8.out.next b4)
  have R8 := Lib.hid (Ri.below R8.out b4 (Nat.le_refl _))
  have T9 := Lib.hid (T9.out.next b4)
  clear b4 k2 k3 R9
  obtain ⟨k4, k5, k6, k7⟩ := T8.out
  have R8d := Lib.hid (Ri.drew R8.out)
  go_upto_region 6 with (fail)
  go_cut [38] (fun _ wx => ∃ (p : Option Addr) (n c : Nat), Hid (ZC (.bool bq1) (.slice p n c) wx y2.heap.size) ∧ Hid (Rz wx (.slice p n c) q1) ∧ Hid (ZC (.bool br) (.slice p9 n9 c9) wx g9) ∧ Hid (Below w0.heap.size w0 wx))
  case first =>
    rename_i J0 K0 hRJ hMK
    go_region_with
      (first
        | (go_at_call 25; (with_reducible refine (H_n1.out _).mono ?_); rintro e z1 ⟨v1, rfl, r1, b1⟩; have d1 := chain ((Below.refl y4.heap.size y4).drew) b1; have p4 := keep1 d1 k4; have p5 := keep1 d1 k5; have G1 := Lib.hid (And.intro (Ri.below R8d.out b1 (Nat.le_refl _)) r1); have D1 := Lib.hid d1; obtain ⟨pq1, bb1, oo1, cc1, rfl, rr1⟩ := r1; clear rr1 b1)
        | (go_at_call 33; (with_reducible refine (H_adj.out _ _ _ G1.out.1 G1.out.2).mono ?_); rintro e z2 ⟨v2, rfl, r2, b2⟩; have d2 := chain D1.out b2; have p4 := keep1 d2 k4; have p5 := keep1 d2 k5; have p6 := keepf d2 k4 k6; have p7 := keepf d2 k5 k7; have G2 := Lib.hid r2; have D2 := Lib.hid d2; obtain ⟨pq2, bb2, oo2, cq2, rfl, rr2⟩ := r2; clear rr2 b2)
        | fail)
    all_goals
      have ZZ := Lib.hid (T8.out.next D2.out)
      refine hMK _ _ (Met.intro (hRJ _ _ ?_))
      (repeat apply Exists.intro)
      refine ⟨?_, rfl⟩
      exact ⟨pq2, _, cq2, ZZ.out.set, G2.out.setq ZZ.out _ _, (T9.out.next D2.out).other (Nat.ne_of_gt hg89.out), below_set2 (chain D.out D2.out) (by have := hy2.out; have := Hsz.out; have := hw8.out; omega) _ _⟩
  obtain ⟨p8', n8', c8', T8, R8, T9, D⟩ := hcut
  clear k4 k5 k6 k7 R8d
  have R8d := Lib.hid (Ri.drew R8.out)
  have RXu := Lib.hid (Ri.below RX.out D.out (Nat.le_refl _))
  have RYd := Lib.hid (Ri.drew (Ri.below RY.out D.out (Nat.le_refl _)))
  obtain ⟨k0, k1, _⟩ := I1.out.next D.out
  obtain ⟨k2, k3, _⟩ := I2.out.next D.out
  obtain ⟨k4, k5, _⟩ := T8.out
  obtain ⟨k6, k7, k8, k9⟩ := T9.out
  obtain ⟨y5, hy5⟩ : ∃ y5 : World, y5 = wc := ⟨_, rfl⟩
  subst hy5
  go_upto_region 8 with (fail)
  go_cut [46] (fun _ wx => ∃ (p : Option Addr) (n c : Nat), Hid (ZC (.bool br1) (.slice p n c) wx g9) ∧ Hid (Rz wx (.slice p n c) r1) ∧ Hid (ZC (.bool bq1) (.slice p8' n8' c8') wx y2.heap.size) ∧ Hid (Rz wx (.slice p8' n8' c8') q1) ∧ Hid (Below w0.heap.size w0 wx))
  case first =>
    rename_i J0 K0 hRJ hMK
    go_region_with
      (first
        | (go_at_call 37; (with_reducible refine (H_mul2.out _ _ _ R8d.out RYd.out).mono ?_); rintro e z1 ⟨v1, rfl, rz1, b1⟩; have d1 := chain ((Below.refl y5.heap.size y5).drew) b1; have q0 := keep1 d1 k0; have q1 := keep1 d1 k1; have q2 := keep1 d1 k2; have q3 := keep1 d1 k3; have q4 := keep1 d1 k4; have q5 := keep1 d1 k5; have q6 := keep1 d1 k6; have q7 := keep1 d1 k7; have G1 := Lib.hid (And.intro (Ri.below RXu.out d1 (Nat.le_refl _)) rz1); have D1 := Lib.hid d1; obtain ⟨pq1, bb1, oo1, cc1, rfl, rr1⟩ := rz1; clear rr1 b1)
        | (go_at_call 33; (with_reducible refine (H_sub2.out _ _ _ G1.out.1 G1.out.2).mono ?_); rintro e z2 ⟨v2, rfl, rz2, b2⟩; have d2 := chain D1.out b2; have q0 := keep1 d2 k0; have q1 := keep1 d2 k1; have q2 := keep1 d2 k2; have q3 := keep1 d2 k3; have q4 := keep1 d2 k4; have q5 := keep1 d2 k5; have q6 := keep1 d2 k6; have q7 := keep1 d2 k7; have p8 := keepf d2 k6 k8; have p9' := keepf d2 k7 k9; have G2 := Lib.hid rz2; have D2 := Lib.hid d2; obtain ⟨pq2, bb2, oo2, cq2, rfl, rr2⟩ := rz2; clear rr2 b2)
        | fail)
    all_goals
      have ZZ := Lib.hid (T9.out.next D2.out)
      refine hMK _ _ (Met.intro (hRJ _ _ ?_))
      (repeat apply Exists.intro)
      refine ⟨?_, rfl⟩
      exact ⟨pq2, _, cq2, ZZ.out.set, G2.out.setq ZZ.out _ _, (T8.out.next D2.out).other (Nat.ne_of_lt hg89.out), (Ri.below R8.out D2.out (Nat.le_refl _)).setq ZZ.out _ _, below_set2 (chain D.out D2.out) (by have := hg9w.out; omega) _ _⟩
  obtain ⟨p9', n9', c9', T9, R9, T8, R8, D⟩ := hcut
  clear k0 k1 k2 k3 k4 k5 k6 k7 k8 k9 R8d RXu RYd
  obtain ⟨f0, f1, f2, f3⟩ := T8.out
  obtain ⟨f4, f5, f6, f7⟩ := T9.out
  obtain ⟨m0, m1, m2, m3⟩ := I3.out.next D.out
  obtain ⟨n0, n1, n2, n3⟩ := I4.out.next D.out
  obtain ⟨ja, jb, jc, jd, je, jf, jg, jh, _⟩ := far8q hy2.out
  obtain ⟨qa, qb, qc, qd, qe, qf, qg, qh, _⟩ := far8q hg9'.out
  have i5 := (I4.out.next D.out).other (g2 := w.heap.size + 1 + 1) (u := .bool bq1) (v := (.slice p8' n8' c8')) (by omega)
  have HZ := Lib.hid ((below_set2 (below_set2 (chain hb0.out D.out) (g := w.heap.size + 1 + 1) (by omega) (.bool bq1) (.slice p8' n8' c8')) (g := w.heap.size + 1 + 1 + 1) (by omega) (.bool br1) (.slice p9' n9' c9')).drew)
  have RQf := Lib.hid (Ri.drew ((R8.out.setq (I3.out.next D.out) (.bool bq1) (.slice p8' n8' c8')).setq i5 (.bool br1) (.slice p9' n9' c9')))
  have RRf := Lib.hid (Ri.drew ((R9.out.setq (I3.out.next D.out) (.bool bq1) (.slice p8' n8' c8')).setq i5 (.bool br1) (.slice p9' n9' c9')))
  clear i5
  go_wp2_with fail
  go_region
  go_wp2
  exact bodyPost_ret (v := .tuple #[.agg #[.bool bq1, (.slice p8' n8' c8')], .agg #[.bool br1, (.slice p9' n9' c9')]]) (by simp [results, Try.results39, go_sem, m0, m1, n0, n1]) rfl ⟨_, _, by rw [HQQ.out, HRR.out], RQf.out, RRf.out, HZ.out⟩
end Go.Proofs.Ytlmklhffafcmmaa

/- The reference's Quo: the walk where the first rest and the divisor are negative. -/
namespace Go.Proofs.Ytlmklhffafcmmaa
open Go.RowKit

set_option maxRecDepth 100000 in
set_option maxHeartbeats 8000000 in
theorem rquo_neg2 (x y : Int) (v1 v2 : Value) (w : World) (k : Nat) (hk : k ≤ 90000) (hx : x.natAbs < D9 ^ k) (hy : y.natAbs < D9 ^ k) (h1 : Rz w v1 x) (h2 : Rz w v2 y) (hs : y < 0) (hr : x - q0 x y * y < 0) :
    Calls Try.prog 39 #[iV x v1, iV y v2] w (QIPost (q0 x y + 1) (x - (q0 x y + 1) * y) w) := by
  have lx := lenD hx
  have ly := lenD hy
  have H_over := Lib.hid (fun v1 v2 w g1 g2 => rover_any v1 v2 x.natAbs y.natAbs w (by omega) g1 g2 (by omega) (by omega))
  have H_made := Lib.hid (fun v w g => (rmade_any (decide (x < 0) != decide (y < 0)) v (x.natAbs / y.natAbs) w g).mono (made_int (z := q0 x y) rfl))
  have lq := Nat.le_trans (lenD (Nat.lt_of_le_of_lt (q0_le x y) hx)) (by omega : k ≤ 1000000)
  have lqy := Nat.le_trans (lenD (Nat.lt_of_le_of_lt (q0y_le x y) hx)) (by omega : k ≤ 1000000)
  have H_mul := Lib.hid (fun v1 v2 w g1 g2 => rmul_int (q0 x y) y v1 v2 w g1 g2 lq (by omega))
  have H_sub := Lib.hid (fun v1 v2 w g1 g2 => rsub_int x (q0 x y * y) v1 v2 w g1 g2 (by omega) lqy)
  have H_sgn := Lib.hid (fun v w g => rsign_int (x - q0 x y * y) v w g)
  have H_sgy := Lib.hid (fun v w g => rsign_int y v w g)
  rw [Int.sign_eq_neg_one_of_neg hs] at H_sgy
  rw [Int.sign_eq_neg_one_of_neg hr] at H_sgn
  obtain ⟨zi, hzi⟩ : ∃ z : Int, z = 1 := ⟨_, rfl⟩
  have H_n1 : Hid (∀ w, Calls Try.prog 25 #[.int .i64 1] w (IntPost zi w)) := by rw [hzi]; exact fun w => rnum_any 1 w (by decide) (by decide)
  have H_adj0 : ∀ z : Int, z = 1 → ∀ v1 v2 w, Rz w v1 (q0 x y) → Rz w v2 z → Calls Try.prog 32 #[iV (q0 x y) v1, iV z v2] w (IntPost (q0 x y + 1) w) := by
    intro z hz v1 v2 w g1 g2
    subst hz
    exact radd_int (q0 x y) 1 v1 v2 w g1 g2 lq (Nat.le_trans (lenD (k := 3) (by decide)) (by decide))
  have H_adj := Lib.hid (H_adj0 zi hzi)
  clear H_adj0
  have lq1 : (Nm.dg D9 (q0 x y + 1).natAbs).length ≤ 1000000 := by
    have a1 := q0_le x y
    refine Nat.le_trans (lenD (k := k + 1) (twice ?_)) (by omega)
    have : 0 < D9 ^ k := Nat.pow_pos D90
    omega
  have lqy1 : (Nm.dg D9 ((q0 x y + 1) * y).natAbs).length ≤ 1000000 := by
    have a1 := q0y_le x y
    rw [Int.add_mul, Int.one_mul]
    refine Nat.le_trans (lenD (k := k + 1) (twice ?_)) (by omega)
    omega
  have H_mul2 := Lib.hid (fun v1 v2 w g1 g2 => rmul_int (q0 x y + 1) y v1 v2 w g1 g2 lq1 (by omega))
  have H_sub2 := Lib.hid (fun v1 v2 w g1 g2 => rsub_int x ((q0 x y + 1) * y) v1 v2 w g1 g2 (by omega) lqy1)
  clear hzi lq1 lqy1
  obtain ⟨sb, hsb⟩ : ∃ sb, (decide (x < 0) != decide (y < 0)) = sb := ⟨_, rfl⟩
  rw [hsb] at H_made
  have HX := Lib.hid h1
  have HY := Lib.hid h2
  clear lq lqy lx ly hx hy hk hr
  clear hs
  unfold IntPost iV at H_made H_mul H_sub H_adj H_mul2 H_sub2
  unfold IntPost at H_n1
  unfold iV at H_n1
  unfold iV at H_sgn
  unfold iV at H_sgy
  unfold SignPost at H_sgn H_sgy
  unfold OverPost at H_over
  unfold QIPost iV
  generalize x.natAbs / y.natAbs = dd at *
  generalize x.natAbs % y.natAbs = de at *
  obtain ⟨bx, hbx⟩ : ∃ b, decide (x < 0) = b := ⟨_, rfl⟩
  obtain ⟨by', hby⟩ : ∃ b, decide (y < 0) = b := ⟨_, rfl⟩
  rw [hbx, hby] at hsb
  have hsb2 : (!(bx == by')) = sb := hsb
  rw [hby] at H_mul H_mul2 H_sgy
  rw [hbx] at H_sub H_sub2 ⊢
  rw [hby]
  clear hbx hby hsb
  generalize hr1 : x - (q0 x y + 1) * y = r1 at *
  generalize (q0 x y + 1) * y = q1y at *
  generalize hq1 : q0 x y + 1 = q1 at *
  clear hr1 hq1
  generalize x - q0 x y * y = r at *
  generalize q0 x y * y = qy at *
  generalize q0 x y = q at *
  generalize decide (qy < 0) = bqy at *
  generalize decide (q1y < 0) = bq1y at *
  generalize decide (zi < 0) = bzi at *
  obtain ⟨bq1, hbq1⟩ : ∃ b, decide (q1 < 0) = b := ⟨_, rfl⟩
  obtain ⟨br1, hbr1⟩ : ∃ b, decide (r1 < 0) = b := ⟨_, rfl⟩
  rw [hbq1] at H_adj H_mul2
  rw [hbr1] at H_sub2
  have HQQ := Lib.hid hbq1
  have HRR := Lib.hid hbr1
  clear hbq1 hbr1
  obtain ⟨bq, hbq⟩ : ∃ b, decide (q < 0) = b := ⟨_, rfl⟩
  rw [hbq] at H_made H_mul H_adj
  obtain ⟨pa, ba, oa, ca, rfl, hra⟩ := h1
  obtain ⟨pb, bb, ob, cb, rfl, hrb⟩ := h2
  clear hra hrb
  generalize (Nm.dg D9 x.natAbs).length = la at *
  generalize (Nm.dg D9 y.natAbs).length = lb at *
  obtain ⟨w0, hw0⟩ : ∃ w0 : World, w0 = (((w.alloc (.cells #[.bool bx, .slice pa la ca] 31)).alloc (.cells #[.bool by', .slice pb lb cb] 31)).alloc (.cells #[.bool false, .slice none 0 0] 31)).alloc (.cells #[.bool false, .slice none 0 0] 31) := ⟨_, rfl⟩
  have hb0 : Hid (Below w.heap.size w w0) := by rw [hw0]; exact ((((Below.refl _ _).alloc (Nat.le_refl _) _).alloc (by simp) _).alloc (by simp; omega) _).alloc (by simp; omega) _
  have I1 : Hid (ZC (.bool bx) (.slice pa la ca) w0 w.heap.size) := by rw [hw0]; exact (((ZC.new rfl).alloc _).alloc _).alloc _
  have I2 : Hid (ZC (.bool by') (.slice pb lb cb) w0 (w.heap.size + 1)) := by rw [hw0]; exact ((ZC.new (by simp)).alloc _).alloc _
  have I3 : Hid (ZC (.bool false) (.slice none 0 0) w0 (w.heap.size + 1 + 1)) := by rw [hw0]; exact (ZC.new (by simp)).alloc _
  have I4 : Hid (ZC (.bool false) (.slice none 0 0) w0 (w.heap.size + 1 + 1 + 1)) := by rw [hw0]; exact ZC.new (by simp)
  have Hsz : Hid (w.heap.size + 4 ≤ w0.heap.size) := by rw [hw0]; show _ ≤ _; simp
  have RX := Lib.hid (Ri.below HX.out hb0.out (Nat.le_refl _))
  have RY := Lib.hid (Ri.below HY.out hb0.out (Nat.le_refl _))
  have Hw0 := Lib.hid hw0
  clear hw0 HX HY
  go_enter Try.func39, Try.ntmps39
  go_wp2_with fail
  rw [← Hw0.out]
  clear Hw0
  refine (H_over.out _ _ _ RX.out RY.out).mono ?_
  rintro e y1 ⟨vq, vr, rfl, rq, rr, b1⟩
  have D := Lib.hid b1
  obtain ⟨k0, k1, _⟩ := I1.out.next D.out
  obtain ⟨k2, k3, _⟩ := I2.out.next D.out
  have RQ := Lib.hid rq
  obtain ⟨pq, bq', oq, cq, rfl, hrq⟩ := rq
  clear b1 rr hrq
  go_wp2_with fail
  refine (H_made.out _ _ RQ.out).mono ?_
  rintro e y2 ⟨v8, rfl, r8, b2⟩
  have D := Lib.hid (chain D.out b2)
  obtain ⟨u2, hu2⟩ : ∃ u : World, u = y2.alloc (.cells #[.bool bq, v8] 31) := ⟨_, rfl⟩
  have R8 : Hid (Rz u2 v8 q) := by rw [hu2]; exact Ri.allocd r8 _
  have T8 : Hid (ZC (.bool bq) v8 u2 y2.heap.size) := by rw [hu2]; exact ZC.new rfl
  have hw8 : Hid (w0.heap.size ≤ y2.heap.size) := D.out.size
  have hy2 : Hid (w.heap.size + 4 ≤ y2.heap.size) := Nat.le_trans Hsz.out D.out.size
  have D : Hid (Below w0.heap.size w0 u2) := by rw [hu2]; exact D.out.alloc D.out.size _
  obtain ⟨p8, bb8, o8, c8, rfl, rr8⟩ := r8
  clear rr8
  generalize (Nm.dg D9 q.natAbs).length = l8 at *
  obtain ⟨k0, k1, _⟩ := I1.out.next D.out
  obtain ⟨k2, k3, _⟩ := I2.out.next D.out
  obtain ⟨k4, k5, _⟩ := T8.out
  have HSB : Hid (w.heap.size + 4 ≤ u2.heap.size) := Nat.le_trans Hsz.out D.out.size
  have hu2g : Hid (y2.heap.size < u2.heap.size) := T8.out.lt
  have Hu2 := Lib.hid hu2
  clear b2 hu2 RQ
  have RXu := Lib.hid (Ri.below RX.out D.out (Nat.le_refl _))
  have RYu := Lib.hid (Ri.below RY.out D.out (Nat.le_refl _))
  go_upto_region 3 with (fail)
  rw [← Hu2.out]
  clear Hu2
  obtain ⟨ja, jb, jc, jd, je, jf, jg, jh, ji, jj, jk, jl⟩ := far8q HSB.out
  have jm := hu2g.out
  have jn : ¬ y2.heap.size = u2.heap.size := Nat.ne_of_lt jm
  have jo : ¬ u2.heap.size = y2.heap.size := Nat.ne_of_gt jm
  go_cut [9] (fun s9 wx => ∃ (g9 : Nat) (p9 : Option Addr) (n9 c9 : Nat), s9 = .pointer (some ⟨g9, 0, none⟩) ∧ Hid (CutO (decide (r < 0)) (.slice p9 n9 c9) (Nm.dg D9 r.natAbs) u2.heap.size u2 wx g9))
  case first =>
    rename_i J0 K0 hRJ hMK
    go_region_held3 (fun W' => W'.cell? ⟨w.heap.size, 0, none⟩ = some (.bool bx) ∧ W'.cell? ⟨w.heap.size, 1, none⟩ = some (.slice pa la ca) ∧ W'.cell? ⟨w.heap.size + 1, 0, none⟩ = some (.bool by') ∧ W'.cell? ⟨w.heap.size + 1, 1, none⟩ = some (.slice pb lb cb) ∧ W'.cell? ⟨y2.heap.size, 0, none⟩ = some (.bool bq) ∧ W'.cell? ⟨y2.heap.size, 1, none⟩ = some (.slice p8 l8 c8)) (go_keep)
      (first
        | (go_at_call 37; (with_reducible refine (H_mul.out _ _ _ (by first | exact Ri.drew R8.out | exact Ri.allocd (Ri.drew R8.out) _ | exact Ri.drew (Ri.allocd R8.out _)) (by first | exact Ri.drew RYu.out | exact Ri.allocd (Ri.drew RYu.out) _ | exact Ri.drew (Ri.allocd RYu.out _))).mono ?_); rintro e w1 ⟨vm, rfl, rz1, bz1⟩; (try (have bz1 := undrew bz1)); have d1 : Below u2.heap.size u2 w1 := chain (by first | exact Below.refl _ _ | exact (Below.refl _ _).drew | exact below_one _ _ | exact ((Below.refl _ _).drew).alloc (Nat.le_refl _) _) bz1; have e1 : Below u2.heap.size u2 w1 := d1; have p0 := keep1 e1 k0; have p1 := keep1 e1 k1; have p2 := keep1 e1 k2; have p3 := keep1 e1 k3; have p4 := keep1 e1 k4; have p5 := keep1 e1 k5; obtain ⟨j1a, j1b, j1c, j1d, j1e, j1f, j1g, j1h, j1i, j1j, j1k, j1l⟩ := far8q (Nat.le_trans HSB.out e1.size); have j1m := Nat.lt_of_lt_of_le hu2g.out e1.size; have j1n : ¬ y2.heap.size = w1.heap.size := Nat.ne_of_lt j1m; have j1o : ¬ w1.heap.size = y2.heap.size := Nat.ne_of_gt j1m; (try (have A0 := Lib.hid (ZC.made (g := u2.heap.size) rfl bz1); obtain ⟨A0a, A0b, A0c, A0d⟩ := A0.out)); (try (have L01 := Lib.hid (apart_b (g := u2.heap.size) rfl bz1); obtain ⟨l01x, l01y, l01z⟩ := L01.out)); have G1 := Lib.hid rz1; obtain ⟨pr1, br1, or1, cr1, rfl, rr1⟩ := rz1; clear rr1)
        | (go_at_call 33; (with_reducible refine (H_sub.out _ _ _ (by first | exact Ri.below RXu.out e1 (Nat.le_refl _) | exact Ri.allocd (Ri.below RXu.out e1 (Nat.le_refl _)) _) (by first | exact G1.out | exact Ri.allocd G1.out _)).mono ?_); rintro e w2 ⟨vs, rfl, rz2, bz2⟩; (try (have bz2 := undrew bz2)); have d2 : Below w1.heap.size w1 w2 := chain (by first | exact Below.refl _ _ | exact (Below.refl _ _).drew | exact below_one _ _ | exact ((Below.refl _ _).drew).alloc (Nat.le_refl _) _) bz2; have e2 : Below u2.heap.size u2 w2 := chain e1 d2; have p0 := keep1 e2 k0; have p1 := keep1 e2 k1; have p2 := keep1 e2 k2; have p3 := keep1 e2 k3; have p4 := keep1 e2 k4; have p5 := keep1 e2 k5; obtain ⟨j2a, j2b, j2c, j2d, j2e, j2f, j2g, j2h, j2i, j2j, j2k, j2l⟩ := far8q (Nat.le_trans HSB.out e2.size); have j2m := Nat.lt_of_lt_of_le hu2g.out e2.size; have j2n : ¬ y2.heap.size = w2.heap.size := Nat.ne_of_lt j2m; have j2o : ¬ w2.heap.size = y2.heap.size := Nat.ne_of_gt j2m; (try (have A1 := Lib.hid (ZC.made (g := w1.heap.size) rfl bz2); obtain ⟨A1a, A1b, A1c, A1d⟩ := A1.out)); (try (have A0 := Lib.hid (A0.out.next d2); obtain ⟨A0a, A0b, A0c, A0d⟩ := A0.out)); (try (have L02 := Lib.hid (apart_t L01.out d2.size); obtain ⟨l02x, l02y, l02z⟩ := L02.out)); (try (have L12 := Lib.hid (apart_b (g := w1.heap.size) rfl bz2); obtain ⟨l12x, l12y, l12z⟩ := L12.out)); have G2 := Lib.hid rz2; obtain ⟨pr2, br2, or2, cr2, rfl, rr2⟩ := rz2; clear rr2)
        | fail)
    all_goals
      refine hMK _ _ (Met.intro (hRJ _ _ ?_))
      (repeat apply Exists.intro)
      refine ⟨?_, rfl⟩
      refine ⟨_, pr2, (Nm.dg D9 r.natAbs).length, cr2, rfl, ?_⟩
      show CutO _ (.slice pr2 _ cr2) _ u2.heap.size u2 _ _
      have sA0 : u2.heap.size ≤ u2.heap.size := Nat.le_refl _
      have sA1 : u2.heap.size ≤ w1.heap.size := e1.size
      have sA2 : u2.heap.size ≤ w2.heap.size := e2.size
      first
        | with_reducible exact CutO.k1 G2.out e2 sA2
        | with_reducible exact CutO.k2 A0.out sA0 G2.out e2
        | with_reducible exact CutO.k2 A1.out sA1 G2.out e2
        | fail
  obtain ⟨g9, p9, n9, c9, rfl, hcut⟩ := hcut
  obtain ⟨hg9, t9, r9, b9⟩ := hcut.out
  have D := Lib.hid (chain D.out b9)
  have T8 := Lib.hid (T8.out.next b9)
  have R8 := Lib.hid (Ri.below R8.out b9 (Nat.le_refl _))
  have T9 := Lib.hid t9
  have R9 := Lib.hid r9
  have hg9' : Hid (w.heap.size + 4 ≤ g9) := Nat.le_trans HSB.out hg9
  have hg9w : Hid (w0.heap.size ≤ g9) := Nat.le_trans hw8.out (Nat.le_of_lt (Nat.lt_of_lt_of_le hu2g.out hg9))
  have hg89 : Hid (y2.heap.size < g9) := Nat.lt_of_lt_of_le hu2g.out hg9
  obtain ⟨k0, k1, _⟩ := T9.out
  clear hcut hg9 t9 r9 b9 ja jb jc jd je jf jg jh ji jj jk jl jm jn jo k2 k3 k4 k5
  obtain ⟨br, hbr⟩ : ∃ b, decide (r < 0) = b := ⟨_, rfl⟩
  rw [hbr] at T9 k0 H_sgn
  go_wp2_with fail
  refine (H_sgn.out _ _ R9.out).mono ?_
  rintro e y3 ⟨rfl, b3⟩
  have D := Lib.hid (chain D.out b3)
  have T8 := Lib.hid (T8.out.next b3)
  have R8 := Lib.hid (Ri.below R8.out b3 (Nat.le_refl _))
  have T9 := Lib.hid (T9.out.next b3)
  have R9 := Lib.hid (Ri.below R9.out b3 (Nat.le_refl _))
  clear b3 k0 k1
  obtain ⟨k2, k3, _⟩ := I2.out.next D.out
  have HRRn := Lib.hid hbr
  clear hbr hbq
  go_wp2_with fail
  refine (H_sgy.out _ _ (Ri.below RY.out D.out (Nat.le_refl _))).mono ?_
  rintro e y4 ⟨rfl, b4⟩
  have D := Lib.hid (chain D.out b4)
  have T8 := Lib.hid (T8.out.next b4)
  have R8 := Lib.hid (Ri.below R8.out b4 (Nat.le_refl _))
  have T9 := Lib.hid (T9.out.next b4)
  clear b4 k2 k3 R9
  obtain ⟨k4, k5, k6, k7⟩ := T8.out
  have R8d := Lib.hid (Ri.drew R8.out)
  go_upto_region 7 with (fail)
  go_cut [41] (fun _ wx => ∃ (p : Option Addr) (n c : Nat), Hid (ZC (.bool bq1) (.slice p n c) wx y2.heap.size) ∧ Hid (Rz wx (.slice p n c) q1) ∧ Hid (ZC (.bool br) (.slice p9 n9 c9) wx g9) ∧ Hid (Below w0.heap.size w0 wx))
  case first =>
    rename_i J0 K0 hRJ hMK
    go_region_with
      (first
        | (go_at_call 25; (with_reducible refine (H_n1.out _).mono ?_); rintro e z1 ⟨v1, rfl, r1, b1⟩; have d1 := chain ((Below.refl y4.heap.size y4).drew) b1; have p4 := keep1 d1 k4; have p5 := keep1 d1 k5; have G1 := Lib.hid (And.intro (Ri.below R8d.out b1 (Nat.le_refl _)) r1); have D1 := Lib.hid d1; obtain ⟨pq1, bb1, oo1, cc1, rfl, rr1⟩ := r1; clear rr1 b1)
        | (go_at_call 32; (with_reducible refine (H_adj.out _ _ _ G1.out.1 G1.out.2).mono ?_); rintro e z2 ⟨v2, rfl, r2, b2⟩; have d2 := chain D1.out b2; have p4 := keep1 d2 k4; have p5 := keep1 d2 k5; have p6 := keepf d2 k4 k6; have p7 := keepf d2 k5 k7; have G2 := Lib.hid r2; have D2 := Lib.hid d2; obtain ⟨pq2, bb2, oo2, cq2, rfl, rr2⟩ := r2; clear rr2 b2)
        | fail)
    all_goals
      have ZZ := Lib.hid (T8.out.next D2.out)
      refine hMK _ _ (Met.intro (hRJ _ _ ?_))
      (repeat apply Exists.intro)
      refine ⟨?_, rfl⟩
      exact ⟨pq2, _, cq2, ZZ.out.set, G2.out.setq ZZ.out _ _, (T9.out.next D2.out).other (Nat.ne_of_gt hg89.out), below_set2 (chain D.out D2.out) (by have := hy2.out; have := Hsz.out; have := hw8.out; omega) _ _⟩
  obtain ⟨p8', n8', c8', T8, R8, T9, D⟩ := hcut
  clear k4 k5 k6 k7 R8d
  have R8d := Lib.hid (Ri.drew R8.out)
  have RXu := Lib.hid (Ri.below RX.out D.out (Nat.le_refl _))
  have RYd := Lib.hid (Ri.drew (Ri.below RY.out D.out (Nat.le_refl _)))
  obtain ⟨k0, k1, _⟩ := I1.out.next D.out
  obtain ⟨k2, k3, _⟩ := I2.out.next D.out
  obtain ⟨k4, k5, _⟩ := T8.out
  obtain ⟨k6, k7, k8, k9⟩ := T9.out
  obtain ⟨y5, hy5⟩ : ∃ y5 : World, y5 = wc := ⟨_, rfl⟩
  subst hy5
  go_upto_region 8 with (fail)
  go_cut [46] (fun _ wx => ∃ (p : Option Addr) (n c : Nat), Hid (ZC (.bool br1) (.slice p n c) wx g9) ∧ Hid (Rz wx (.slice p n c) r1) ∧ Hid (ZC (.bool bq1) (.slice p8' n8' c8') wx y2.heap.size) ∧ Hid (Rz wx (.slice p8' n8' c8') q1) ∧ Hid (Below w0.heap.size w0 wx))
  case first =>
    rename_i J0 K0 hRJ hMK
    go_region_with
      (first
        | (go_at_call 37; (with_reducible refine (H_mul2.out _ _ _ R8d.out RYd.out).mono ?_); rintro e z1 ⟨v1, rfl, rz1, b1⟩; have d1 := chain ((Below.refl y5.heap.size y5).drew) b1; have q0 := keep1 d1 k0; have q1 := keep1 d1 k1; have q2 := keep1 d1 k2; have q3 := keep1 d1 k3; have q4 := keep1 d1 k4; have q5 := keep1 d1 k5; have q6 := keep1 d1 k6; have q7 := keep1 d1 k7; have G1 := Lib.hid (And.intro (Ri.below RXu.out d1 (Nat.le_refl _)) rz1); have D1 := Lib.hid d1; obtain ⟨pq1, bb1, oo1, cc1, rfl, rr1⟩ := rz1; clear rr1 b1)
        | (go_at_call 33; (with_reducible refine (H_sub2.out _ _ _ G1.out.1 G1.out.2).mono ?_); rintro e z2 ⟨v2, rfl, rz2, b2⟩; have d2 := chain D1.out b2; have q0 := keep1 d2 k0; have q1 := keep1 d2 k1; have q2 := keep1 d2 k2; have q3 := keep1 d2 k3; have q4 := keep1 d2 k4; have q5 := keep1 d2 k5; have q6 := keep1 d2 k6; have q7 := keep1 d2 k7; have p8 := keepf d2 k6 k8; have p9' := keepf d2 k7 k9; have G2 := Lib.hid rz2; have D2 := Lib.hid d2; obtain ⟨pq2, bb2, oo2, cq2, rfl, rr2⟩ := rz2; clear rr2 b2)
        | fail)
    all_goals
      have ZZ := Lib.hid (T9.out.next D2.out)
      refine hMK _ _ (Met.intro (hRJ _ _ ?_))
      (repeat apply Exists.intro)
      refine ⟨?_, rfl⟩
      exact ⟨pq2, _, cq2, ZZ.out.set, G2.out.setq ZZ.out _ _, (T8.out.next D2.out).other (Nat.ne_of_lt hg89.out), (Ri.below R8.out D2.out (Nat.le_refl _)).setq ZZ.out _ _, below_set2 (chain D.out D2.out) (by have := hg9w.out; omega) _ _⟩
  obtain ⟨p9', n9', c9', T9, R9, T8, R8, D⟩ := hcut
  clear k0 k1 k2 k3 k4 k5 k6 k7 k8 k9 R8d RXu RYd
  obtain ⟨f0, f1, f2, f3⟩ := T8.out
  obtain ⟨f4, f5, f6, f7⟩ := T9.out
  obtain ⟨m0, m1, m2, m3⟩ := I3.out.next D.out
  obtain ⟨n0, n1, n2, n3⟩ := I4.out.next D.out
  obtain ⟨ja, jb, jc, jd, je, jf, jg, jh, _⟩ := far8q hy2.out
  obtain ⟨qa, qb, qc, qd, qe, qf, qg, qh, _⟩ := far8q hg9'.out
  have i5 := (I4.out.next D.out).other (g2 := w.heap.size + 1 + 1) (u := .bool bq1) (v := (.slice p8' n8' c8')) (by omega)
  have HZ := Lib.hid ((below_set2 (below_set2 (chain hb0.out D.out) (g := w.heap.size + 1 + 1) (by omega) (.bool bq1) (.slice p8' n8' c8')) (g := w.heap.size + 1 + 1 + 1) (by omega) (.bool br1) (.slice p9' n9' c9')).drew)
  have RQf := Lib.hid (Ri.drew ((R8.out.setq (I3.out.next D.out) (.bool bq1) (.slice p8' n8' c8')).setq i5 (.bool br1) (.slice p9' n9' c9')))
  have RRf := Lib.hid (Ri.drew ((R9.out.setq (I3.out.next D.out) (.bool bq1) (.slice p8' n8' c8')).setq i5 (.bool br1) (.slice p9' n9' c9')))
  clear i5
  go_wp2_with fail
  go_region
  go_wp2
  exact bodyPost_ret (v := .tuple #[.agg #[.bool bq1, (.slice p8' n8' c8')], .agg #[.bool br1, (.slice p9' n9' c9')]]) (by simp [results, Try.results39, go_sem, m0, m1, n0, n1]) rfl ⟨_, _, by rw [HQQ.out, HRR.out], RQf.out, RRf.out, HZ.out⟩
end Go.Proofs.Ytlmklhffafcmmaa

/- The reference's Quo: the Euclidean division of integers. -/
namespace Go.Proofs.Ytlmklhffafcmmaa
open Go.RowKit

theorem rquo_int (x y : Int) (v1 v2 : Value) (w : World) (k : Nat) (hk : k ≤ 90000) (hx : x.natAbs < D9 ^ k) (hy : y.natAbs < D9 ^ k) (h1 : Rz w v1 x) (h2 : Rz w v2 y) (hy0 : y ≠ 0) :
    Calls Try.prog 39 #[iV x v1, iV y v2] w (QIPost (x / y) (x % y) w) := by
  rcases Int.lt_or_le (x - q0 x y * y) 0 with hr | hr
  · rcases Int.lt_or_gt_of_ne hy0 with hs | hs
    · have h := rquo_neg2 x y v1 v2 w k hk hx hy h1 h2 hs hr
      obtain ⟨e1, e2⟩ := quo_neg2 hs hr
      rwa [e2, e1] at h
    · have h := rquo_neg1 x y v1 v2 w k hk hx hy h1 h2 hs hr
      obtain ⟨e1, e2⟩ := quo_neg1 hs hr
      rwa [e2, e1] at h
  · have h := rquo_pos x y v1 v2 w k hk hx hy h1 h2 hy0 hr
    obtain ⟨e1, e2⟩ := quo_pos hy0 hr
    rwa [e2, e1] at h
end Go.Proofs.Ytlmklhffafcmmaa

/- The law WideShifts gives true. -/
namespace Go.Proofs.Ytlmklhffafcmmaa
open Go.RowKit

theorem sg_shd (a : Bool) (m k : Nat) (h : a = true → 0 < m) : sg a (shd a m k) = sg a m / 2 ^ k := by
  have hp : (0 : Int) < ((2 ^ k : Nat) : Int) := by have := Nat.pow_pos (n := k) (show 0 < 2 by decide); omega
  have e2 : ((2 ^ k : Nat) : Int) = (2 : Int) ^ k := by simp
  rw [← e2]
  unfold sg shd
  cases a with
  | false => simp
  | true =>
    have hm := h rfl
    simp only [if_true]
    have hd := Nat.div_add_mod (m - 1) (2 ^ k)
    have hr := Nat.mod_lt (m - 1) (Nat.pow_pos (n := k) (show 0 < 2 by decide))
    generalize (m - 1) / 2 ^ k = q at *
    generalize (m - 1) % 2 ^ k = r at *
    generalize 2 ^ k = p at *
    have h3 : -(m : Int) = ((p : Int) - 1 - r) + p * (-((q + 1 : Nat) : Int)) := by
      have : ((p * q : Nat) : Int) = (p : Int) * (q : Int) := Int.natCast_mul _ _
      have h4 : (p : Int) * (-((q + 1 : Nat) : Int)) = -((p * q : Nat) : Int) - p := by push_cast; grind
      rw [h4]
      omega
    rw [h3, Int.add_mul_ediv_left _ _ (by omega), Int.ediv_eq_zero_of_lt (by omega) (by omega), Int.zero_add]
theorem shd_le (a : Bool) (m k : Nat) (h : a = true → 0 < m) : shd a m k ≤ m := by
  unfold shd
  split
  · next g =>
    have := h g
    have h2 := Nat.div_le_self (m - 1) (2 ^ k)
    omega
  · exact Nat.div_le_self _ _
theorem pos_sgn {a : Bool} {s : ByteArray} (h : vld a s = true) : a = true → 0 < bv s := by
  intro ha
  subst ha
  have hc := vld_can h
  rcases Nat.eq_zero_or_pos (bv s) with g | g
  · have h0 := (bv_zero_iff hc).1 g
    unfold vld at h
    rw [dif_neg (by omega)] at h
    simp at h
  · exact g
/-- Shift to the right, as integers. -/
theorem shr_z {a : Bool} {s : ByteArray} (hv : vld a s = true) (k : Nat) (y : Int) (hy : -y = (k : Int)) (hk : 1 ≤ k) (hk2 : k ≤ 65536) (w : World) :
    Calls Try.prog 40 #[.agg #[.bool a, .string s], .int .i64 y] w (fun e w' => e = .returned (.tuple #[.agg #[.bool (zb (sg a (bv s) / 2 ^ k)), .string (zs (sg a (bv s) / 2 ^ k))], .int .i64 0]) ∧ Below w.heap.size w w') := by
  have h := Shift_down a s k y hy hk hk2 w hv
  have ht : shd a (bv s) k < Top := Nat.lt_of_le_of_lt (shd_le a _ k (pos_sgn hv)) (bv_lt hv)
  unfold WPost at h
  rwa [wres_ok _ ht, werr_ok ht, wd_sg, sg_shd a _ k (pos_sgn hv)] at h
theorem sg_mul (a : Bool) (m k : Nat) : sg a (m * 2 ^ k) = sg a m * 2 ^ k := by
  cases a <;> simp [sg]
  rw [Int.neg_mul]
/-- Shift to the left, as integers. -/
theorem shl_z {a : Bool} {s : ByteArray} (hv : vld a s = true) (k : Nat) (hk2 : k ≤ 65536) (ht : bv s * 2 ^ k < Top) (w : World) :
    Calls Try.prog 40 #[.agg #[.bool a, .string s], .int .i64 (k : Int)] w (fun e w' => e = .returned (.tuple #[.agg #[.bool (zb (sg a (bv s) * 2 ^ k)), .string (zs (sg a (bv s) * 2 ^ k))], .int .i64 0]) ∧ Below w.heap.size w w') := by
  have h := Shift_up a s k hk2 w hv
  unfold WPost at h
  rwa [wres_ok _ ht, werr_ok ht, wd_sg, sg_mul] at h

set_option maxRecDepth 100000 in
set_option maxHeartbeats 8000000 in
theorem shifts_long (a : Bool) (s : ByteArray) (y : Int) (w : World) (hs : ¬ s.size ≤ 60) :
    Calls Try.prog 7 #[.agg #[.bool a, .string s], .int .i64 y] w (Ret (.bool true) w) := by
  have H_known := Lib.hid known_true
  obtain ⟨w0, hw0⟩ : ∃ w0 : World, w0 = (w.alloc (.cells #[.bool a, .string s] 23)).alloc (.cells #[.bool a, .string s] 23) := ⟨_, rfl⟩
  have hb0 : Hid (Below w.heap.size w w0) := by rw [hw0]; exact ((Below.refl _ _).alloc (Nat.le_refl _) _).alloc (by simp) _
  have I1 : Hid (ZC (.bool a) (.string s) w0 w.heap.size) := by rw [hw0]; exact (ZC.new rfl).alloc _
  have Hsz : Hid (w.heap.size + 2 ≤ w0.heap.size) := by rw [hw0]; show _ ≤ _; simp
  have HSH := short_any [(a, s)] 1 (w.heap.size + 1) w0 rfl (by decide) (by rw [hw0]; have := WL.one (w.alloc (.cells #[.bool a, .string s] 23)) a s 23; simpa using this)
  rw [short_false hs] at HSH
  have HSh := Lib.hid HSH
  have Hw0 := Lib.hid hw0
  clear HSH hw0
  unfold Ret at *
  unfold BPost at HSh
  go_enter Try.func7, Try.ntmps7
  go_wp2_with fail
  rw [← Hw0.out]
  refine HSh.out.mono ?_
  rintro e x0 ⟨rfl, b0⟩
  have D := Lib.hid b0
  clear b0
  obtain ⟨k0, k1, _⟩ := I1.out.next D.out
  go_wp2_with fail
  refine (H_known.out _).mono ?_
  rintro e x1 ⟨rfl, b1⟩
  have HZ := Lib.hid (chain hb0.out (chain D.out b1))
  clear b1
  go_wp2
  go_ret
  exact ⟨rfl, HZ.out⟩

set_option maxRecDepth 100000 in
set_option maxHeartbeats 8000000 in
theorem shifts_invalid (a : Bool) (s : ByteArray) (y : Int) (w : World) (z1 : s.size ≤ 60) (hv : vld a s = false) :
    Calls Try.prog 7 #[.agg #[.bool a, .string s], .int .i64 y] w (Ret (.bool true) w) := by
  have H_known := Lib.hid known_true
  obtain ⟨w0, hw0⟩ : ∃ w0 : World, w0 = (w.alloc (.cells #[.bool a, .string s] 23)).alloc (.cells #[.bool a, .string s] 23) := ⟨_, rfl⟩
  have hb0 : Hid (Below w.heap.size w w0) := by rw [hw0]; exact ((Below.refl _ _).alloc (Nat.le_refl _) _).alloc (by simp) _
  have I1 : Hid (ZC (.bool a) (.string s) w0 w.heap.size) := by rw [hw0]; exact (ZC.new rfl).alloc _
  have Hsz : Hid (w.heap.size + 2 ≤ w0.heap.size) := by rw [hw0]; show _ ≤ _; simp
  have HSH := short_any [(a, s)] 1 (w.heap.size + 1) w0 rfl (by decide) (by rw [hw0]; have := WL.one (w.alloc (.cells #[.bool a, .string s] 23)) a s 23; simpa using this)
  rw [short_true z1] at HSH
  have H_val := Lib.hid (fun g w h => valid_any [(a, s)] 1 g w rfl (by decide) h (by intro x hx; simp at hx; subst hx; show _ ≤ _; simp; omega))
  have v1 : validL [(a, s)] = false := by simp [validL, hv]
  rw [v1] at H_val
  unfold BPost at H_val
  have H_sh := Lib.hid (fun w => Shift_wrong a s y w (by omega) (Or.inl hv))
  rw [hv, if_neg (by simp), wd_none] at H_sh
  unfold WPost at H_sh
  clear hv v1
  have HSh := Lib.hid HSH
  have Hw0 := Lib.hid hw0
  clear HSH hw0
  unfold Ret at *
  unfold BPost at HSh
  go_enter Try.func7, Try.ntmps7
  go_wp2_with fail
  rw [← Hw0.out]
  refine HSh.out.mono ?_
  rintro e x0 ⟨rfl, b0⟩
  have D := Lib.hid b0
  clear b0
  obtain ⟨k0, k1, _⟩ := I1.out.next D.out
  go_wp2_with fail
  refine (H_sh.out _).mono ?_
  rintro e y4 ⟨rfl, b9⟩
  obtain ⟨n0, n1, _⟩ := I1.out.next (chain D.out b9)
  have j1 : w.heap.size < y4.heap.size := World.block_lt_of_cell? _ _ n0
  have j3 : ¬ w.heap.size = y4.heap.size := Nat.ne_of_lt j1
  obtain ⟨u4, hu4⟩ : ∃ u : World, u = y4.alloc (.cells #[.bool false, .string ⟨#[]⟩] 23) := ⟨_, rfl⟩
  have E : Hid (Below x0.heap.size x0 u4) := by rw [hu4]; exact b9.alloc b9.size _
  have D := Lib.hid (chain D.out E.out)
  have T4 : Hid (ZC (.bool false) (.string ⟨#[]⟩) u4 y4.heap.size) := by rw [hu4]; exact ZC.new rfl
  have HW4 : Hid (WL (u4.alloc (.cells #[.bool a, .string s] 23)) (y4.heap.size + 1) [(a, s)]) := by have := WL.one u4 a s 23; rwa [show u4.heap.size = y4.heap.size + 1 by rw [hu4]; simp] at this
  have Hu4 := Lib.hid hu4
  clear hu4 b9 E k0 k1
  obtain ⟨k0, k1, _⟩ := I1.out.next D.out
  obtain ⟨k2, k3, _⟩ := T4.out
  go_wp2_with fail
  rw [← Hu4.out]
  clear Hu4
  refine (H_val.out _ _ HW4.out).mono ?_
  rintro e y5 ⟨rfl, b9⟩
  have E := Lib.hid (chain (below_one u4 _) b9)
  have D := Lib.hid (chain D.out E.out)
  have T4 := Lib.hid (T4.out.next E.out)
  clear b9 E k0 k1 k2 k3 n0 n1 j1 j3
  obtain ⟨k0, k1, _⟩ := I1.out.next D.out
  obtain ⟨k2, k3, _⟩ := T4.out
  go_wp2_with fail
  refine (H_known.out _).mono ?_
  rintro e x1 ⟨rfl, b1⟩
  have HZ := Lib.hid (chain hb0.out (chain D.out b1))
  clear b1
  go_wp2
  go_ret
  exact ⟨rfl, HZ.out⟩

set_option maxRecDepth 100000 in
set_option maxHeartbeats 8000000 in
theorem shifts_range (a : Bool) (s : ByteArray) (y : Int) (w : World) (z1 : s.size ≤ 60) (hv : vld a s = true) (hy : y < -65536 ∨ 65536 < y) :
    Calls Try.prog 7 #[.agg #[.bool a, .string s], .int .i64 y] w (Ret (.bool true) w) := by
  have H_known := Lib.hid known_true
  obtain ⟨w0, hw0⟩ : ∃ w0 : World, w0 = (w.alloc (.cells #[.bool a, .string s] 23)).alloc (.cells #[.bool a, .string s] 23) := ⟨_, rfl⟩
  have hb0 : Hid (Below w.heap.size w w0) := by rw [hw0]; exact ((Below.refl _ _).alloc (Nat.le_refl _) _).alloc (by simp) _
  have I1 : Hid (ZC (.bool a) (.string s) w0 w.heap.size) := by rw [hw0]; exact (ZC.new rfl).alloc _
  have Hsz : Hid (w.heap.size + 2 ≤ w0.heap.size) := by rw [hw0]; show _ ≤ _; simp
  have HSH := short_any [(a, s)] 1 (w.heap.size + 1) w0 rfl (by decide) (by rw [hw0]; have := WL.one (w.alloc (.cells #[.bool a, .string s] 23)) a s 23; simpa using this)
  rw [short_true z1] at HSH
  have H_val := Lib.hid (fun g w h => valid_any [(a, s)] 1 g w rfl (by decide) h (by intro x hx; simp at hx; subst hx; show _ ≤ _; simp; omega))
  have v1 : validL [(a, s)] = true := by simp [validL, hv]
  rw [v1] at H_val
  unfold BPost at H_val
  have H_sh := Lib.hid (fun w => Shift_wrong a s y w (by omega) (Or.inr ⟨hv, hy⟩))
  rw [hv, if_pos rfl, wd_none] at H_sh
  unfold WPost at H_sh
  clear hv v1
  rcases hy with hy | hy
  · skip
    have HSh := Lib.hid HSH
    have Hw0 := Lib.hid hw0
    clear HSH hw0
    unfold Ret at *
    unfold BPost at HSh
    go_enter Try.func7, Try.ntmps7
    go_wp2_with fail
    rw [← Hw0.out]
    refine HSh.out.mono ?_
    rintro e x0 ⟨rfl, b0⟩
    have D := Lib.hid b0
    clear b0
    obtain ⟨k0, k1, _⟩ := I1.out.next D.out
    go_wp2_with fail
    refine (H_sh.out _).mono ?_
    rintro e y4 ⟨rfl, b9⟩
    obtain ⟨n0, n1, _⟩ := I1.out.next (chain D.out b9)
    have j1 : w.heap.size < y4.heap.size := World.block_lt_of_cell? _ _ n0
    have j3 : ¬ w.heap.size = y4.heap.size := Nat.ne_of_lt j1
    obtain ⟨u4, hu4⟩ : ∃ u : World, u = y4.alloc (.cells #[.bool false, .string ⟨#[]⟩] 23) := ⟨_, rfl⟩
    have E : Hid (Below x0.heap.size x0 u4) := by rw [hu4]; exact b9.alloc b9.size _
    have D := Lib.hid (chain D.out E.out)
    have T4 : Hid (ZC (.bool false) (.string ⟨#[]⟩) u4 y4.heap.size) := by rw [hu4]; exact ZC.new rfl
    have HW4 : Hid (WL (u4.alloc (.cells #[.bool a, .string s] 23)) (y4.heap.size + 1) [(a, s)]) := by have := WL.one u4 a s 23; rwa [show u4.heap.size = y4.heap.size + 1 by rw [hu4]; simp] at this
    have Hu4 := Lib.hid hu4
    clear hu4 b9 E k0 k1
    obtain ⟨k0, k1, _⟩ := I1.out.next D.out
    obtain ⟨k2, k3, _⟩ := T4.out
    go_wp2_with fail
    rw [← Hu4.out]
    clear Hu4
    refine (H_val.out _ _ HW4.out).mono ?_
    rintro e y5 ⟨rfl, b9⟩
    have E := Lib.hid (chain (below_one u4 _) b9)
    have D := Lib.hid (chain D.out E.out)
    have T4 := Lib.hid (T4.out.next E.out)
    clear b9 E k0 k1 k2 k3 n0 n1 j1 j3
    obtain ⟨k0, k1, _⟩ := I1.out.next D.out
    obtain ⟨k2, k3, _⟩ := T4.out
    go_wp2_with fail
    refine (H_known.out _).mono ?_
    rintro e x1 ⟨rfl, b1⟩
    have HZ := Lib.hid (chain hb0.out (chain D.out b1))
    clear b1
    go_wp2
    go_ret
    exact ⟨rfl, HZ.out⟩
  · have hy2 : ¬ y < -65536 := by omega
    have HSh := Lib.hid HSH
    have Hw0 := Lib.hid hw0
    clear HSH hw0
    unfold Ret at *
    unfold BPost at HSh
    go_enter Try.func7, Try.ntmps7
    go_wp2_with fail
    rw [← Hw0.out]
    refine HSh.out.mono ?_
    rintro e x0 ⟨rfl, b0⟩
    have D := Lib.hid b0
    clear b0
    obtain ⟨k0, k1, _⟩ := I1.out.next D.out
    go_wp2_with fail
    refine (H_sh.out _).mono ?_
    rintro e y4 ⟨rfl, b9⟩
    obtain ⟨n0, n1, _⟩ := I1.out.next (chain D.out b9)
    have j1 : w.heap.size < y4.heap.size := World.block_lt_of_cell? _ _ n0
    have j3 : ¬ w.heap.size = y4.heap.size := Nat.ne_of_lt j1
    obtain ⟨u4, hu4⟩ : ∃ u : World, u = y4.alloc (.cells #[.bool false, .string ⟨#[]⟩] 23) := ⟨_, rfl⟩
    have E : Hid (Below x0.heap.size x0 u4) := by rw [hu4]; exact b9.alloc b9.size _
    have D := Lib.hid (chain D.out E.out)
    have T4 : Hid (ZC (.bool false) (.string ⟨#[]⟩) u4 y4.heap.size) := by rw [hu4]; exact ZC.new rfl
    have HW4 : Hid (WL (u4.alloc (.cells #[.bool a, .string s] 23)) (y4.heap.size + 1) [(a, s)]) := by have := WL.one u4 a s 23; rwa [show u4.heap.size = y4.heap.size + 1 by rw [hu4]; simp] at this
    have Hu4 := Lib.hid hu4
    clear hu4 b9 E k0 k1
    obtain ⟨k0, k1, _⟩ := I1.out.next D.out
    obtain ⟨k2, k3, _⟩ := T4.out
    go_wp2_with fail
    rw [← Hu4.out]
    clear Hu4
    refine (H_val.out _ _ HW4.out).mono ?_
    rintro e y5 ⟨rfl, b9⟩
    have E := Lib.hid (chain (below_one u4 _) b9)
    have D := Lib.hid (chain D.out E.out)
    have T4 := Lib.hid (T4.out.next E.out)
    clear b9 E k0 k1 k2 k3 n0 n1 j1 j3
    obtain ⟨k0, k1, _⟩ := I1.out.next D.out
    obtain ⟨k2, k3, _⟩ := T4.out
    go_wp2_with fail
    refine (H_known.out _).mono ?_
    rintro e x1 ⟨rfl, b1⟩
    have HZ := Lib.hid (chain hb0.out (chain D.out b1))
    clear b1
    go_wp2
    go_ret
    exact ⟨rfl, HZ.out⟩
end Go.Proofs.Ytlmklhffafcmmaa

/- The law WideShifts gives true: to the right. -/
namespace Go.Proofs.Ytlmklhffafcmmaa
open Go.RowKit

theorem D9_2 (n k : Nat) (h : n ≤ 29 * k) : 2 ^ n ≤ D9 ^ k := by
  refine Nat.le_trans (Nat.pow_le_pow_right (by decide) h) ?_
  rw [Nat.pow_mul]
  exact Nat.pow_le_pow_left (by decide) k
theorem D9_3 {n m k : Nat} (h : n < m) (h2 : m = 29 * k) : 2 ^ n < D9 ^ k := Nat.lt_of_lt_of_le (Nat.pow_lt_pow_right (by decide : 1 < 2) h) (D9_2 m k (Nat.le_of_eq h2))
theorem D9_4 {n j k : Nat} (h : n < 256 ^ j) (hj : j ≤ k) : n < D9 ^ k := Nat.lt_of_lt_of_le h (Nat.le_trans (Nat.pow_le_pow_left (by decide) j) (Nat.pow_le_pow_right D90 hj))
theorem x_D9 {s : ByteArray} {k : Nat} (z1 : s.size ≤ 60) (hk : 60 ≤ k) (a : Bool) : (sg a (bv s)).natAbs < D9 ^ k := by
  rw [sg_abs]
  exact D9_4 (bv60 rfl z1) hk
theorem p_D9 {j k : Nat} (h : j < 29 * k) : ((2 : Int) ^ j).natAbs < D9 ^ k := by
  have e : ((2 : Int) ^ j) = ((2 ^ j : Nat) : Int) := by simp
  rw [e, Int.natAbs_natCast]
  exact D9_3 h rfl
/-- The box of a struct of two cells that a region has made, among what else. -/
theorem far1 {g x : Nat} (h : g < x) : ¬ g = x ∧ ¬ x = g ∧ g < x ∧ ¬ x + 1 = g ∧ ¬ g = x + 1 := ⟨by omega, by omega, h, by omega, by omega⟩

set_option maxRecDepth 100000 in
set_option maxHeartbeats 8000000 in
theorem shifts_down (a : Bool) (s : ByteArray) (y : Int) (w : World) (z1 : s.size ≤ 60) (hv : vld a s = true) (k j : Nat) (hy : -y = (k : Int)) (hk : 1 ≤ k) (hk2 : k ≤ 65536) (hj : j ≤ 2000) (hjk : sg a (bv s) / 2 ^ j = sg a (bv s) / 2 ^ k) (hjy : k = j) :
    Calls Try.prog 7 #[.agg #[.bool a, .string s], .int .i64 y] w (Ret (.bool true) w) := by
  have H_known := Lib.hid known_true
  obtain ⟨w0, hw0⟩ : ∃ w0 : World, w0 = (w.alloc (.cells #[.bool a, .string s] 23)).alloc (.cells #[.bool a, .string s] 23) := ⟨_, rfl⟩
  have hb0 : Hid (Below w.heap.size w w0) := by rw [hw0]; exact ((Below.refl _ _).alloc (Nat.le_refl _) _).alloc (by simp) _
  have I1 : Hid (ZC (.bool a) (.string s) w0 w.heap.size) := by rw [hw0]; exact (ZC.new rfl).alloc _
  have Hsz : Hid (w.heap.size + 2 ≤ w0.heap.size) := by rw [hw0]; show _ ≤ _; simp
  have HSH := short_any [(a, s)] 1 (w.heap.size + 1) w0 rfl (by decide) (by rw [hw0]; have := WL.one (w.alloc (.cells #[.bool a, .string s] 23)) a s 23; simpa using this)
  rw [short_true z1] at HSH
  have H_val := Lib.hid (fun g w h => valid_any [(a, s)] 1 g w rfl (by decide) h (by intro x hx; simp at hx; subst hx; show _ ≤ _; simp; omega))
  have v1 : validL [(a, s)] = true := by simp [validL, hv]
  rw [v1] at H_val
  unfold BPost at H_val
  have H_sh := Lib.hid (fun w => shr_z hv k y hy hk hk2 w)
  have H_from := Lib.hid (fun w => rfrom_any a s w (by omega))
  obtain ⟨k9, hk9⟩ : ∃ k9 : Nat, k9 = 300 := ⟨_, rfl⟩
  have H_pow : Hid (∀ (n : Int) w, n = (j : Int) → Calls Try.prog 41 #[.int .i64 n] w (PPost (2 ^ j) w)) := fun n w h => by rw [h]; exact rpower_any j (by omega) w
  have hp0 : (0 : Int) < 2 ^ j := Int.pow_pos (by decide)
  have H_quo := Lib.hid (fun v1 v2 w h1 h2 => rquo_int (sg a (bv s)) (2 ^ j) v1 v2 w k9 (by omega) (x_D9 z1 (by omega) a) (p_D9 (by omega)) h1 h2 (by omega))
  have H_is := Lib.hid (fun v w h => is_z (a := a) (b := a) z1 z1 (sg a (bv s) / 2 ^ k) (by have := Int.natAbs_ediv_le_natAbs (sg a (bv s)) (2 ^ k); have := sg_abs a (bv s); omega) v w h)
  rw [hjk] at H_quo
  unfold BPost at H_is
  unfold QIPost at H_quo
  unfold IntPost at H_from
  unfold PPost at H_pow
  unfold iV at H_from H_quo H_is
  rw [decide_eq_false (show ¬ (2 : Int) ^ j < 0 by omega)] at H_quo
  clear hv v1 hp0 hjk hk9
  generalize sg a (bv s) / 2 ^ k = z at *
  generalize sg a (bv s) % 2 ^ j = zr at *
  generalize sg a (bv s) = x at *
  generalize (2 : Int) ^ j = pj at *
  generalize zb z = cb at *
  generalize zs z = cs at *
  generalize decide (z < 0) = bz at *
  generalize decide (zr < 0) = bzr at *
  generalize decide (x < 0) = bx at *
  have HSh := Lib.hid HSH
  have Hw0 := Lib.hid hw0
  clear HSH hw0
  unfold Ret at *
  unfold BPost at HSh
  go_enter Try.func7, Try.ntmps7
  go_wp2_with fail
  rw [← Hw0.out]
  refine HSh.out.mono ?_
  rintro e x0 ⟨rfl, b0⟩
  have D := Lib.hid b0
  clear b0
  obtain ⟨k0, k1, _⟩ := I1.out.next D.out
  go_wp2_with fail
  refine (H_sh.out _).mono ?_
  rintro e y4 ⟨rfl, b9⟩
  obtain ⟨n0, n1, _⟩ := I1.out.next (chain D.out b9)
  have j1 : w.heap.size < y4.heap.size := World.block_lt_of_cell? _ _ n0
  have j3 : ¬ w.heap.size = y4.heap.size := Nat.ne_of_lt j1
  obtain ⟨u4, hu4⟩ : ∃ u : World, u = y4.alloc (.cells #[.bool cb, .string cs] 23) := ⟨_, rfl⟩
  have E : Hid (Below x0.heap.size x0 u4) := by rw [hu4]; exact b9.alloc b9.size _
  have D := Lib.hid (chain D.out E.out)
  have T4 : Hid (ZC (.bool cb) (.string cs) u4 y4.heap.size) := by rw [hu4]; exact ZC.new rfl
  have HW4 : Hid (WL (u4.alloc (.cells #[.bool a, .string s] 23)) (y4.heap.size + 1) [(a, s)]) := by have := WL.one u4 a s 23; rwa [show u4.heap.size = y4.heap.size + 1 by rw [hu4]; simp] at this
  have Hu4 := Lib.hid hu4
  clear hu4 b9 E k0 k1
  obtain ⟨k0, k1, _⟩ := I1.out.next D.out
  obtain ⟨k2, k3, _⟩ := T4.out
  go_wp2_with fail
  rw [← Hu4.out]
  clear Hu4
  refine (H_val.out _ _ HW4.out).mono ?_
  rintro e y5 ⟨rfl, b9⟩
  have E := Lib.hid (chain (below_one u4 _) b9)
  have D := Lib.hid (chain D.out E.out)
  have T4 := Lib.hid (T4.out.next E.out)
  clear b9 E k0 k1 k2 k3 n0 n1 j1 j3
  obtain ⟨k0, k1, _⟩ := I1.out.next D.out
  obtain ⟨k2, k3, _⟩ := T4.out
  have hyj : -y = (j : Int) := by omega
  have hwj : IntKind.i64.wrap (-y) = (j : Int) := by simp only [IntKind.wrap_i64]; omega
  have hwk : IntKind.i64.wrap (j : Int) = (j : Int) := by simp only [IntKind.wrap_i64]; omega
  go_wp2_with fail
  refine (H_from.out _).mono ?_
  rintro e y6 ⟨vx, rfl, rx, b9⟩
  have RX := Lib.hid rx
  obtain ⟨px, bx', ox, cx, rfl, hrx⟩ := rx
  clear hrx
  generalize (Nm.dg D9 x.natAbs).length = lx at *
  obtain ⟨u6, hu6⟩ : ∃ u : World, u = y6.alloc (.cells #[.bool bx, .slice px lx cx] 31) := ⟨_, rfl⟩
  have E : Hid (Below y5.heap.size y5 u6) := by rw [hu6]; exact b9.alloc b9.size _
  have D := Lib.hid (chain D.out E.out)
  have T4 := Lib.hid (T4.out.next E.out)
  have T6 : Hid (ZC (.bool bx) (.slice px lx cx) u6 y6.heap.size) := by rw [hu6]; exact ZC.new rfl
  have RX : Hid (Rz u6 (.slice px lx cx) x) := by rw [hu6]; exact Ri.allocd RX.out _
  have HG6 : Hid (y6.heap.size < u6.heap.size) := T6.out.lt
  have Hu6 := Lib.hid hu6
  clear hu6 b9 E k0 k1 k2 k3
  obtain ⟨k0, k1, _⟩ := T6.out
  go_upto_region 12 with (fail)
  rw [← Hu6.out]
  clear Hu6
  obtain ⟨j0a, j0b, j0c, j0d, j0e⟩ := far1 HG6.out
  go_cut [8, 9] (fun sd se wx => ∃ (gd ge : Nat) (pd pe : Option Addr) (nd cd ne ce : Nat), sd = .pointer (some ⟨gd, 0, none⟩) ∧ se = .pointer (some ⟨ge, 0, none⟩) ∧ Hid (CutI (.bool bz) (.bool bzr) (.slice pd nd cd) (.slice pe ne ce) (Nm.dg D9 z.natAbs) (Nm.dg D9 zr.natAbs) u6.heap.size u6 wx gd ge))
  case first =>
    rename_i J0 K0 hRJ hMK
    go_region_held3 (fun W' => W'.cell? ⟨y6.heap.size, 0, none⟩ = some (.bool bx) ∧ W'.cell? ⟨y6.heap.size, 1, none⟩ = some (.slice px lx cx)) (go_keep)
      (first
        | (go_at_call 41; (with_reducible refine (H_pow.out _ _ (by first | exact hwk | exact hyj | exact hwj | rfl)).mono ?_); rintro e w1 ⟨vp, rfl, rz1, bz1⟩; (try (have bz1 := undrew bz1)); have d1 : Below u6.heap.size u6 w1 := chain (by first | exact Below.refl _ _ | exact (Below.refl _ _).drew | exact below_one _ _ | exact below_two _ _ _ | exact ((Below.refl _ _).drew).alloc (Nat.le_refl _) _ | exact (((Below.refl _ _).drew).alloc (Nat.le_refl _) _).alloc (by simp) _) bz1; have e1 : Below u6.heap.size u6 w1 := d1; have p0 := keep1 e1 k0; have p1 := keep1 e1 k1; obtain ⟨j1a, j1b, j1c, j1d, j1e⟩ := far1 (Nat.lt_of_lt_of_le HG6.out e1.size); (try (have A0 := Lib.hid (ZC.made (g := u6.heap.size) rfl bz1); obtain ⟨A0a, A0b, A0c, A0d⟩ := A0.out)); (try (have A0 := Lib.hid (ZC.made1 (g := u6.heap.size) rfl bz1); have B0 := Lib.hid (ZC.made (g := u6.heap.size + 1) (by simp) bz1); obtain ⟨A0a, A0b, A0c, A0d⟩ := A0.out; obtain ⟨B0a, B0b, B0c, B0d⟩ := B0.out)); (try (have L01 := Lib.hid (apart_b (g := u6.heap.size) rfl bz1); obtain ⟨l01x, l01y, l01z⟩ := L01.out)); (try (have MM := Lib.hid (apart_b2 (g := u6.heap.size) rfl bz1); have L01 := Lib.hid MM.out.1; have M01 := Lib.hid MM.out.2; clear MM; obtain ⟨l01x, l01y, l01z⟩ := L01.out; obtain ⟨m01x, m01y, m01z⟩ := M01.out)); have G1 := Lib.hid rz1; obtain ⟨pr1, br1, or1, cr1, rfl, rr1⟩ := rz1; clear rr1)
        | (go_at_call 39; (with_reducible refine (H_quo.out _ _ _ (by first | exact Ri.below RX.out e1 (Nat.le_refl _) | exact Ri.allocd (Ri.below RX.out e1 (Nat.le_refl _)) _ | exact Ri.allocd (Ri.allocd (Ri.below RX.out e1 (Nat.le_refl _)) _) _) (by first | exact G1.out | exact Ri.allocd G1.out _ | exact Ri.allocd (Ri.allocd G1.out _) _)).mono ?_); rintro e w2 ⟨vq, vr, rfl, rz2, rzr, bz2⟩; (try (have bz2 := undrew bz2)); have d2 : Below w1.heap.size w1 w2 := chain (by first | exact Below.refl _ _ | exact (Below.refl _ _).drew | exact below_one _ _ | exact below_two _ _ _ | exact ((Below.refl _ _).drew).alloc (Nat.le_refl _) _ | exact (((Below.refl _ _).drew).alloc (Nat.le_refl _) _).alloc (by simp) _) bz2; have e2 : Below u6.heap.size u6 w2 := chain e1 d2; have p0 := keep1 e2 k0; have p1 := keep1 e2 k1; obtain ⟨j2a, j2b, j2c, j2d, j2e⟩ := far1 (Nat.lt_of_lt_of_le HG6.out e2.size); (try (have A1 := Lib.hid (ZC.made (g := w1.heap.size) rfl bz2); obtain ⟨A1a, A1b, A1c, A1d⟩ := A1.out)); (try (have A1 := Lib.hid (ZC.made1 (g := w1.heap.size) rfl bz2); have B1 := Lib.hid (ZC.made (g := w1.heap.size + 1) (by simp) bz2); obtain ⟨A1a, A1b, A1c, A1d⟩ := A1.out; obtain ⟨B1a, B1b, B1c, B1d⟩ := B1.out)); (try (have A0 := Lib.hid (A0.out.next d2); obtain ⟨A0a, A0b, A0c, A0d⟩ := A0.out)); (try (have B0 := Lib.hid (B0.out.next d2); obtain ⟨B0a, B0b, B0c, B0d⟩ := B0.out)); (try (have L02 := Lib.hid (apart_t L01.out d2.size); obtain ⟨l02x, l02y, l02z⟩ := L02.out)); (try (have M02 := Lib.hid (apart_t M01.out d2.size); obtain ⟨m02x, m02y, m02z⟩ := M02.out)); (try (have L12 := Lib.hid (apart_b (g := w1.heap.size) rfl bz2); obtain ⟨l12x, l12y, l12z⟩ := L12.out)); (try (have MM := Lib.hid (apart_b2 (g := w1.heap.size) rfl bz2); have L12 := Lib.hid MM.out.1; have M12 := Lib.hid MM.out.2; clear MM; obtain ⟨l12x, l12y, l12z⟩ := L12.out; obtain ⟨m12x, m12y, m12z⟩ := M12.out)); have G2 := Lib.hid (And.intro rz2 rzr); obtain ⟨pr2, br2, or2, cr2, rfl, rr2⟩ := rz2; clear rr2; obtain ⟨pr3, br3, or3, cr3, rfl, rr3⟩ := rzr; clear rr3)
        | fail)
    all_goals
      refine hMK _ _ (Met.intro (hRJ _ _ ?_))
      (repeat apply Exists.intro)
      refine ⟨?_, rfl⟩
      refine ⟨_, _, pr2, pr3, (Nm.dg D9 z.natAbs).length, cr2, (Nm.dg D9 zr.natAbs).length, cr3, rfl, rfl, ?_⟩
      show CutI (.bool bz) (.bool bzr) (.slice pr2 _ cr2) (.slice pr3 _ cr3) (Nm.dg D9 z.natAbs) (Nm.dg D9 zr.natAbs) u6.heap.size u6 _ _ _
      obtain ⟨r1, r2⟩ := G2.out
      have sA0 : u6.heap.size ≤ u6.heap.size := Nat.le_refl _
      have sB0 : u6.heap.size ≤ u6.heap.size + 1 := Nat.le_succ _
      have n0 : ¬ u6.heap.size = u6.heap.size + 1 := Nat.ne_of_lt (Nat.lt_succ_self _)
      have m0 : ¬ u6.heap.size + 1 = u6.heap.size := fun e => n0 e.symm
      have sA1 : u6.heap.size ≤ w1.heap.size := e1.size
      have sB1 : u6.heap.size ≤ w1.heap.size + 1 := Nat.le_succ_of_le sA1
      have n1 : ¬ w1.heap.size = w1.heap.size + 1 := Nat.ne_of_lt (Nat.lt_succ_self _)
      have m1 : ¬ w1.heap.size + 1 = w1.heap.size := fun e => n1 e.symm
      have sA2 : u6.heap.size ≤ w2.heap.size := e2.size
      have sB2 : u6.heap.size ≤ w2.heap.size + 1 := Nat.le_succ_of_le sA2
      have n2 : ¬ w2.heap.size = w2.heap.size + 1 := Nat.ne_of_lt (Nat.lt_succ_self _)
      have m2 : ¬ w2.heap.size + 1 = w2.heap.size := fun e => n2 e.symm
      first
        | with_reducible exact CutI.s1 r1 r2 e2 sA2
        | with_reducible exact CutI.s2 r1 r2 e2 sA2
        | with_reducible exact CutI.s3 A0.out sA0 r1 r2 e2 sA2
        | with_reducible exact CutI.s4 A0.out sA0 r1 r2 e2 sA2
        | with_reducible exact CutI.s3 B0.out sB0 r1 r2 e2 sA2
        | with_reducible exact CutI.s4 B0.out sB0 r1 r2 e2 sA2
        | with_reducible exact CutI.s3 A1.out sA1 r1 r2 e2 sA2
        | with_reducible exact CutI.s4 A1.out sA1 r1 r2 e2 sA2
        | with_reducible exact CutI.s3 B1.out sB1 r1 r2 e2 sA2
        | with_reducible exact CutI.s4 B1.out sB1 r1 r2 e2 sA2
        | with_reducible exact CutI.s5 A0.out sA0 B0.out sB0 n0 r1 r2 e2
        | with_reducible exact CutI.s5 B0.out sB0 A0.out sA0 m0 r1 r2 e2
        | with_reducible exact CutI.s5 A1.out sA1 B1.out sB1 n1 r1 r2 e2
        | with_reducible exact CutI.s5 B1.out sB1 A1.out sA1 m1 r1 r2 e2
        | with_reducible exact CutI.s5 A0.out sA0 A1.out sA1 l01x r1 r2 e2
        | with_reducible exact CutI.s5 A1.out sA1 A0.out sA0 l01y r1 r2 e2
        | fail
  obtain ⟨gd, ge, pd, pe, nd, cd, ne, ce, rfl, rfl, hcut⟩ := hcut
  obtain ⟨_, T8, _, R8, _, bxx⟩ := hcut.out
  have D := Lib.hid (chain D.out bxx)
  have T4 := Lib.hid (T4.out.next bxx)
  have R8 := Lib.hid R8
  have T8 := Lib.hid T8
  clear bxx hcut k0 k1 j0a j0b j0c j0d j0e
  obtain ⟨k0, k1, _⟩ := T4.out
  obtain ⟨k2, k3, _⟩ := T8.out
  obtain ⟨y8, hy8⟩ : ∃ y : World, y = wc := ⟨_, rfl⟩
  subst hy8
  go_wp2_with fail
  refine (H_is.out _ _ R8.out).mono ?_
  rintro e y9 ⟨rfl, b9⟩
  have D := Lib.hid (chain D.out b9)
  clear b9
  go_wp2_with fail
  refine (H_known.out _).mono ?_
  rintro e x1 ⟨rfl, b1⟩
  have HZ := Lib.hid (chain hb0.out (chain D.out b1))
  clear b1
  go_wp2
  go_ret
  exact ⟨rfl, HZ.out⟩
end Go.Proofs.Ytlmklhffafcmmaa

/- The law WideShifts gives true: far to the right. -/
namespace Go.Proofs.Ytlmklhffafcmmaa
open Go.RowKit

set_option maxRecDepth 100000 in
set_option maxHeartbeats 8000000 in
theorem shifts_far (a : Bool) (s : ByteArray) (y : Int) (w : World) (z1 : s.size ≤ 60) (hv : vld a s = true) (k j : Nat) (hy : -y = (k : Int)) (hk : 1 ≤ k) (hk2 : k ≤ 65536) (hj : j ≤ 2000) (hjk : sg a (bv s) / 2 ^ j = sg a (bv s) / 2 ^ k) (hjy : 2000 < k) (hj0 : j = 2000) :
    Calls Try.prog 7 #[.agg #[.bool a, .string s], .int .i64 y] w (Ret (.bool true) w) := by
  have H_known := Lib.hid known_true
  obtain ⟨w0, hw0⟩ : ∃ w0 : World, w0 = (w.alloc (.cells #[.bool a, .string s] 23)).alloc (.cells #[.bool a, .string s] 23) := ⟨_, rfl⟩
  have hb0 : Hid (Below w.heap.size w w0) := by rw [hw0]; exact ((Below.refl _ _).alloc (Nat.le_refl _) _).alloc (by simp) _
  have I1 : Hid (ZC (.bool a) (.string s) w0 w.heap.size) := by rw [hw0]; exact (ZC.new rfl).alloc _
  have Hsz : Hid (w.heap.size + 2 ≤ w0.heap.size) := by rw [hw0]; show _ ≤ _; simp
  have HSH := short_any [(a, s)] 1 (w.heap.size + 1) w0 rfl (by decide) (by rw [hw0]; have := WL.one (w.alloc (.cells #[.bool a, .string s] 23)) a s 23; simpa using this)
  rw [short_true z1] at HSH
  have H_val := Lib.hid (fun g w h => valid_any [(a, s)] 1 g w rfl (by decide) h (by intro x hx; simp at hx; subst hx; show _ ≤ _; simp; omega))
  have v1 : validL [(a, s)] = true := by simp [validL, hv]
  rw [v1] at H_val
  unfold BPost at H_val
  have H_sh := Lib.hid (fun w => shr_z hv k y hy hk hk2 w)
  have H_from := Lib.hid (fun w => rfrom_any a s w (by omega))
  obtain ⟨k9, hk9⟩ : ∃ k9 : Nat, k9 = 300 := ⟨_, rfl⟩
  have H_pow : Hid (∀ (n : Int) w, n = (j : Int) → Calls Try.prog 41 #[.int .i64 n] w (PPost (2 ^ j) w)) := fun n w h => by rw [h]; exact rpower_any j (by omega) w
  have hp0 : (0 : Int) < 2 ^ j := Int.pow_pos (by decide)
  have H_quo := Lib.hid (fun v1 v2 w h1 h2 => rquo_int (sg a (bv s)) (2 ^ j) v1 v2 w k9 (by omega) (x_D9 z1 (by omega) a) (p_D9 (by omega)) h1 h2 (by omega))
  have H_is := Lib.hid (fun v w h => is_z (a := a) (b := a) z1 z1 (sg a (bv s) / 2 ^ k) (by have := Int.natAbs_ediv_le_natAbs (sg a (bv s)) (2 ^ k); have := sg_abs a (bv s); omega) v w h)
  rw [hjk] at H_quo
  unfold BPost at H_is
  unfold QIPost at H_quo
  unfold IntPost at H_from
  unfold PPost at H_pow
  unfold iV at H_from H_quo H_is
  rw [decide_eq_false (show ¬ (2 : Int) ^ j < 0 by omega)] at H_quo
  clear hv v1 hp0 hjk hk9
  generalize sg a (bv s) / 2 ^ k = z at *
  generalize sg a (bv s) % 2 ^ j = zr at *
  generalize sg a (bv s) = x at *
  generalize (2 : Int) ^ j = pj at *
  generalize zb z = cb at *
  generalize zs z = cs at *
  generalize decide (z < 0) = bz at *
  generalize decide (zr < 0) = bzr at *
  generalize decide (x < 0) = bx at *
  have HSh := Lib.hid HSH
  have Hw0 := Lib.hid hw0
  clear HSH hw0
  unfold Ret at *
  unfold BPost at HSh
  go_enter Try.func7, Try.ntmps7
  go_wp2_with fail
  rw [← Hw0.out]
  refine HSh.out.mono ?_
  rintro e x0 ⟨rfl, b0⟩
  have D := Lib.hid b0
  clear b0
  obtain ⟨k0, k1, _⟩ := I1.out.next D.out
  go_wp2_with fail
  refine (H_sh.out _).mono ?_
  rintro e y4 ⟨rfl, b9⟩
  obtain ⟨n0, n1, _⟩ := I1.out.next (chain D.out b9)
  have j1 : w.heap.size < y4.heap.size := World.block_lt_of_cell? _ _ n0
  have j3 : ¬ w.heap.size = y4.heap.size := Nat.ne_of_lt j1
  obtain ⟨u4, hu4⟩ : ∃ u : World, u = y4.alloc (.cells #[.bool cb, .string cs] 23) := ⟨_, rfl⟩
  have E : Hid (Below x0.heap.size x0 u4) := by rw [hu4]; exact b9.alloc b9.size _
  have D := Lib.hid (chain D.out E.out)
  have T4 : Hid (ZC (.bool cb) (.string cs) u4 y4.heap.size) := by rw [hu4]; exact ZC.new rfl
  have HW4 : Hid (WL (u4.alloc (.cells #[.bool a, .string s] 23)) (y4.heap.size + 1) [(a, s)]) := by have := WL.one u4 a s 23; rwa [show u4.heap.size = y4.heap.size + 1 by rw [hu4]; simp] at this
  have Hu4 := Lib.hid hu4
  clear hu4 b9 E k0 k1
  obtain ⟨k0, k1, _⟩ := I1.out.next D.out
  obtain ⟨k2, k3, _⟩ := T4.out
  go_wp2_with fail
  rw [← Hu4.out]
  clear Hu4
  refine (H_val.out _ _ HW4.out).mono ?_
  rintro e y5 ⟨rfl, b9⟩
  have E := Lib.hid (chain (below_one u4 _) b9)
  have D := Lib.hid (chain D.out E.out)
  have T4 := Lib.hid (T4.out.next E.out)
  clear b9 E k0 k1 k2 k3 n0 n1 j1 j3
  obtain ⟨k0, k1, _⟩ := I1.out.next D.out
  obtain ⟨k2, k3, _⟩ := T4.out
  have hyj : y < -2000 := by omega
  have Hwj : Hid (IntKind.i64.wrap 2000 = (j : Int)) := by rw [hj0]; rfl
  have Hwk : Hid ((2000 : Int) = (j : Int)) := by rw [hj0]; rfl
  clear hj0
  go_wp2_with fail
  refine (H_from.out _).mono ?_
  rintro e y6 ⟨vx, rfl, rx, b9⟩
  have RX := Lib.hid rx
  obtain ⟨px, bx', ox, cx, rfl, hrx⟩ := rx
  clear hrx
  generalize (Nm.dg D9 x.natAbs).length = lx at *
  obtain ⟨u6, hu6⟩ : ∃ u : World, u = y6.alloc (.cells #[.bool bx, .slice px lx cx] 31) := ⟨_, rfl⟩
  have E : Hid (Below y5.heap.size y5 u6) := by rw [hu6]; exact b9.alloc b9.size _
  have D := Lib.hid (chain D.out E.out)
  have T4 := Lib.hid (T4.out.next E.out)
  have T6 : Hid (ZC (.bool bx) (.slice px lx cx) u6 y6.heap.size) := by rw [hu6]; exact ZC.new rfl
  have RX : Hid (Rz u6 (.slice px lx cx) x) := by rw [hu6]; exact Ri.allocd RX.out _
  have HG6 : Hid (y6.heap.size < u6.heap.size) := T6.out.lt
  have Hu6 := Lib.hid hu6
  clear hu6 b9 E k0 k1 k2 k3
  obtain ⟨k0, k1, _⟩ := T6.out
  go_upto_region 12 with (fail)
  rw [← Hu6.out]
  clear Hu6
  obtain ⟨j0a, j0b, j0c, j0d, j0e⟩ := far1 HG6.out
  go_cut [8, 9] (fun sd se wx => ∃ (gd ge : Nat) (pd pe : Option Addr) (nd cd ne ce : Nat), sd = .pointer (some ⟨gd, 0, none⟩) ∧ se = .pointer (some ⟨ge, 0, none⟩) ∧ Hid (CutI (.bool bz) (.bool bzr) (.slice pd nd cd) (.slice pe ne ce) (Nm.dg D9 z.natAbs) (Nm.dg D9 zr.natAbs) u6.heap.size u6 wx gd ge))
  case first =>
    rename_i J0 K0 hRJ hMK
    go_region_held3 (fun W' => W'.cell? ⟨y6.heap.size, 0, none⟩ = some (.bool bx) ∧ W'.cell? ⟨y6.heap.size, 1, none⟩ = some (.slice px lx cx)) (go_keep)
      (first
        | (go_at_call 41; (with_reducible refine (H_pow.out _ _ (by first | exact Hwk.out | exact Hwj.out | rfl)).mono ?_); rintro e w1 ⟨vp, rfl, rz1, bz1⟩; (try (have bz1 := undrew bz1)); have d1 : Below u6.heap.size u6 w1 := chain (by first | exact Below.refl _ _ | exact (Below.refl _ _).drew | exact below_one _ _ | exact below_two _ _ _ | exact ((Below.refl _ _).drew).alloc (Nat.le_refl _) _ | exact (((Below.refl _ _).drew).alloc (Nat.le_refl _) _).alloc (by simp) _) bz1; have e1 : Below u6.heap.size u6 w1 := d1; have p0 := keep1 e1 k0; have p1 := keep1 e1 k1; obtain ⟨j1a, j1b, j1c, j1d, j1e⟩ := far1 (Nat.lt_of_lt_of_le HG6.out e1.size); (try (have A0 := Lib.hid (ZC.made (g := u6.heap.size) rfl bz1); obtain ⟨A0a, A0b, A0c, A0d⟩ := A0.out)); (try (have A0 := Lib.hid (ZC.made1 (g := u6.heap.size) rfl bz1); have B0 := Lib.hid (ZC.made (g := u6.heap.size + 1) (by simp) bz1); obtain ⟨A0a, A0b, A0c, A0d⟩ := A0.out; obtain ⟨B0a, B0b, B0c, B0d⟩ := B0.out)); (try (have L01 := Lib.hid (apart_b (g := u6.heap.size) rfl bz1); obtain ⟨l01x, l01y, l01z⟩ := L01.out)); (try (have MM := Lib.hid (apart_b2 (g := u6.heap.size) rfl bz1); have L01 := Lib.hid MM.out.1; have M01 := Lib.hid MM.out.2; clear MM; obtain ⟨l01x, l01y, l01z⟩ := L01.out; obtain ⟨m01x, m01y, m01z⟩ := M01.out)); have G1 := Lib.hid rz1; obtain ⟨pr1, br1, or1, cr1, rfl, rr1⟩ := rz1; clear rr1)
        | (go_at_call 39; (with_reducible refine (H_quo.out _ _ _ (by first | exact Ri.below RX.out e1 (Nat.le_refl _) | exact Ri.allocd (Ri.below RX.out e1 (Nat.le_refl _)) _ | exact Ri.allocd (Ri.allocd (Ri.below RX.out e1 (Nat.le_refl _)) _) _) (by first | exact G1.out | exact Ri.allocd G1.out _ | exact Ri.allocd (Ri.allocd G1.out _) _)).mono ?_); rintro e w2 ⟨vq, vr, rfl, rz2, rzr, bz2⟩; (try (have bz2 := undrew bz2)); have d2 : Below w1.heap.size w1 w2 := chain (by first | exact Below.refl _ _ | exact (Below.refl _ _).drew | exact below_one _ _ | exact below_two _ _ _ | exact ((Below.refl _ _).drew).alloc (Nat.le_refl _) _ | exact (((Below.refl _ _).drew).alloc (Nat.le_refl _) _).alloc (by simp) _) bz2; have e2 : Below u6.heap.size u6 w2 := chain e1 d2; have p0 := keep1 e2 k0; have p1 := keep1 e2 k1; obtain ⟨j2a, j2b, j2c, j2d, j2e⟩ := far1 (Nat.lt_of_lt_of_le HG6.out e2.size); (try (have A1 := Lib.hid (ZC.made (g := w1.heap.size) rfl bz2); obtain ⟨A1a, A1b, A1c, A1d⟩ := A1.out)); (try (have A1 := Lib.hid (ZC.made1 (g := w1.heap.size) rfl bz2); have B1 := Lib.hid (ZC.made (g := w1.heap.size + 1) (by simp) bz2); obtain ⟨A1a, A1b, A1c, A1d⟩ := A1.out; obtain ⟨B1a, B1b, B1c, B1d⟩ := B1.out)); (try (have A0 := Lib.hid (A0.out.next d2); obtain ⟨A0a, A0b, A0c, A0d⟩ := A0.out)); (try (have B0 := Lib.hid (B0.out.next d2); obtain ⟨B0a, B0b, B0c, B0d⟩ := B0.out)); (try (have L02 := Lib.hid (apart_t L01.out d2.size); obtain ⟨l02x, l02y, l02z⟩ := L02.out)); (try (have M02 := Lib.hid (apart_t M01.out d2.size); obtain ⟨m02x, m02y, m02z⟩ := M02.out)); (try (have L12 := Lib.hid (apart_b (g := w1.heap.size) rfl bz2); obtain ⟨l12x, l12y, l12z⟩ := L12.out)); (try (have MM := Lib.hid (apart_b2 (g := w1.heap.size) rfl bz2); have L12 := Lib.hid MM.out.1; have M12 := Lib.hid MM.out.2; clear MM; obtain ⟨l12x, l12y, l12z⟩ := L12.out; obtain ⟨m12x, m12y, m12z⟩ := M12.out)); have G2 := Lib.hid (And.intro rz2 rzr); obtain ⟨pr2, br2, or2, cr2, rfl, rr2⟩ := rz2; clear rr2; obtain ⟨pr3, br3, or3, cr3, rfl, rr3⟩ := rzr; clear rr3)
        | fail)
    all_goals
      refine hMK _ _ (Met.intro (hRJ _ _ ?_))
      (repeat apply Exists.intro)
      refine ⟨?_, rfl⟩
      refine ⟨_, _, pr2, pr3, (Nm.dg D9 z.natAbs).length, cr2, (Nm.dg D9 zr.natAbs).length, cr3, rfl, rfl, ?_⟩
      show CutI (.bool bz) (.bool bzr) (.slice pr2 _ cr2) (.slice pr3 _ cr3) (Nm.dg D9 z.natAbs) (Nm.dg D9 zr.natAbs) u6.heap.size u6 _ _ _
      obtain ⟨r1, r2⟩ := G2.out
      have sA0 : u6.heap.size ≤ u6.heap.size := Nat.le_refl _
      have sB0 : u6.heap.size ≤ u6.heap.size + 1 := Nat.le_succ _
      have n0 : ¬ u6.heap.size = u6.heap.size + 1 := Nat.ne_of_lt (Nat.lt_succ_self _)
      have m0 : ¬ u6.heap.size + 1 = u6.heap.size := fun e => n0 e.symm
      have sA1 : u6.heap.size ≤ w1.heap.size := e1.size
      have sB1 : u6.heap.size ≤ w1.heap.size + 1 := Nat.le_succ_of_le sA1
      have n1 : ¬ w1.heap.size = w1.heap.size + 1 := Nat.ne_of_lt (Nat.lt_succ_self _)
      have m1 : ¬ w1.heap.size + 1 = w1.heap.size := fun e => n1 e.symm
      have sA2 : u6.heap.size ≤ w2.heap.size := e2.size
      have sB2 : u6.heap.size ≤ w2.heap.size + 1 := Nat.le_succ_of_le sA2
      have n2 : ¬ w2.heap.size = w2.heap.size + 1 := Nat.ne_of_lt (Nat.lt_succ_self _)
      have m2 : ¬ w2.heap.size + 1 = w2.heap.size := fun e => n2 e.symm
      first
        | with_reducible exact CutI.s1 r1 r2 e2 sA2
        | with_reducible exact CutI.s2 r1 r2 e2 sA2
        | with_reducible exact CutI.s3 A0.out sA0 r1 r2 e2 sA2
        | with_reducible exact CutI.s4 A0.out sA0 r1 r2 e2 sA2
        | with_reducible exact CutI.s3 B0.out sB0 r1 r2 e2 sA2
        | with_reducible exact CutI.s4 B0.out sB0 r1 r2 e2 sA2
        | with_reducible exact CutI.s3 A1.out sA1 r1 r2 e2 sA2
        | with_reducible exact CutI.s4 A1.out sA1 r1 r2 e2 sA2
        | with_reducible exact CutI.s3 B1.out sB1 r1 r2 e2 sA2
        | with_reducible exact CutI.s4 B1.out sB1 r1 r2 e2 sA2
        | with_reducible exact CutI.s5 A0.out sA0 B0.out sB0 n0 r1 r2 e2
        | with_reducible exact CutI.s5 B0.out sB0 A0.out sA0 m0 r1 r2 e2
        | with_reducible exact CutI.s5 A1.out sA1 B1.out sB1 n1 r1 r2 e2
        | with_reducible exact CutI.s5 B1.out sB1 A1.out sA1 m1 r1 r2 e2
        | with_reducible exact CutI.s5 A0.out sA0 A1.out sA1 l01x r1 r2 e2
        | with_reducible exact CutI.s5 A1.out sA1 A0.out sA0 l01y r1 r2 e2
        | fail
  obtain ⟨gd, ge, pd, pe, nd, cd, ne, ce, rfl, rfl, hcut⟩ := hcut
  obtain ⟨_, T8, _, R8, _, bxx⟩ := hcut.out
  have D := Lib.hid (chain D.out bxx)
  have T4 := Lib.hid (T4.out.next bxx)
  have R8 := Lib.hid R8
  have T8 := Lib.hid T8
  clear bxx hcut k0 k1 j0a j0b j0c j0d j0e
  obtain ⟨k0, k1, _⟩ := T4.out
  obtain ⟨k2, k3, _⟩ := T8.out
  obtain ⟨y8, hy8⟩ : ∃ y : World, y = wc := ⟨_, rfl⟩
  subst hy8
  go_wp2_with fail
  refine (H_is.out _ _ R8.out).mono ?_
  rintro e y9 ⟨rfl, b9⟩
  have D := Lib.hid (chain D.out b9)
  clear b9
  go_wp2_with fail
  refine (H_known.out _).mono ?_
  rintro e x1 ⟨rfl, b1⟩
  have HZ := Lib.hid (chain hb0.out (chain D.out b1))
  clear b1
  go_wp2
  go_ret
  exact ⟨rfl, HZ.out⟩
end Go.Proofs.Ytlmklhffafcmmaa

/- The law WideShifts gives true: to the left. -/
namespace Go.Proofs.Ytlmklhffafcmmaa
open Go.RowKit

theorem Top_pow {n : Nat} (h : n ≤ 65536) : 2 ^ n ≤ Top := Nat.pow_le_pow_right (by decide) (by rw [TopBits_eq]; exact h)
theorem Top_pow2 {n : Nat} (h : 65536 ≤ n) : Top ≤ 2 ^ n := Nat.pow_le_pow_right (by decide) (by rw [TopBits_eq]; exact h)
theorem shl_full {s : ByteArray} (hc : Can s) (k : Nat) (h0 : 0 < lenB s) (h : 65536 < lenB s + k) : Top ≤ bv s * 2 ^ k := by
  rcases Nat.eq_zero_or_pos s.size with g | g
  · unfold lenB at h0; rw [dif_neg (by omega)] at h0; omega
  · obtain ⟨l, e1, l1, a1, a2⟩ := lenB_spec hc g
    have h1 : Top ≤ 2 ^ (l - 1 + k) := Top_pow2 (by omega)
    have h2 : 2 ^ (l - 1) * 2 ^ k ≤ bv s * 2 ^ k := Nat.mul_le_mul_right _ a1
    rw [← Nat.pow_add] at h2
    omega
theorem shl_fits {s : ByteArray} (hc : Can s) (k : Nat) (h : ¬ (0 < lenB s ∧ 65536 < lenB s + k)) : bv s * 2 ^ k < Top := by
  rcases Nat.eq_zero_or_pos s.size with g | g
  · rw [(bv_zero_iff hc).2 g, Nat.zero_mul]
    exact Nat.lt_of_lt_of_le W0 W_Top
  · obtain ⟨l, e1, l1, a1, a2⟩ := lenB_spec hc g
    have h1 : 2 ^ (l + k) ≤ Top := Top_pow (by omega)
    have h2 : bv s * 2 ^ k < 2 ^ l * 2 ^ k := Nat.mul_lt_mul_of_pos_right a2 (Nat.pow_pos (by decide))
    rw [← Nat.pow_add] at h2
    omega
theorem pow_between {m i j : Nat} (h1 : 2 ^ i ≤ m) (h2 : m < 2 ^ j) : i < j := (Nat.pow_lt_pow_iff_right (by decide)).1 (Nat.lt_of_le_of_lt h1 h2)
/-- The bits of the integer shifted to the left. -/
theorem lenB_shl {a : Bool} {s : ByteArray} (hv : vld a s = true) (k : Nat) (ht : bv s * 2 ^ k < Top) (h0 : sgV a s ≠ 0) : lenB (zs (sg a (bv s) * 2 ^ k)) = lenB s + k := by
  have hc := vld_can hv
  have hz : (sg a (bv s) * 2 ^ k).natAbs = bv s * 2 ^ k := by rw [← sg_mul, sg_abs]
  have hs : 0 < s.size := by
    rcases Nat.eq_zero_or_pos s.size with g | g
    · exfalso
      apply h0
      rw [sgV_sg hv, (bv_zero_iff hc).2 g]
      cases a <;> rfl
    · exact g
  have hb0 : 0 < bv s := by
    rcases Nat.eq_zero_or_pos (bv s) with g | g
    · have := (bv_zero_iff hc).1 g; omega
    · exact g
  have hv2 := zb_zs_valid (z := sg a (bv s) * 2 ^ k) (by rw [hz]; exact ht)
  have hc2 := vld_can hv2
  have hb2 : bv (zs (sg a (bv s) * 2 ^ k)) = bv s * 2 ^ k := by rw [bv_zs, hz]
  have hp : 0 < 2 ^ k := Nat.pow_pos (by decide)
  have hs2 : 0 < (zs (sg a (bv s) * 2 ^ k)).size := by
    rcases Nat.eq_zero_or_pos (zs (sg a (bv s) * 2 ^ k)).size with g | g
    · exfalso
      have := (bv_zero_iff hc2).2 g
      rw [hb2] at this
      have := Nat.mul_pos hb0 hp
      omega
    · exact g
  obtain ⟨l, e1, l1, a1, a2⟩ := lenB_spec hc hs
  obtain ⟨l', e1', l1', a1', a2'⟩ := lenB_spec hc2 hs2
  rw [hb2] at a1' a2'
  have u1 : bv s * 2 ^ k < 2 ^ (l + k) := by rw [Nat.pow_add]; exact Nat.mul_lt_mul_of_pos_right a2 hp
  have u2 : 2 ^ (l - 1 + k) ≤ bv s * 2 ^ k := by rw [Nat.pow_add]; exact Nat.mul_le_mul_right _ a1
  have c1 := pow_between a1' u1
  have c2 := pow_between u2 a2'
  rw [e1, e1']
  omega
theorem shl_full_z {a : Bool} {s : ByteArray} (hv : vld a s = true) (k : Nat) (hk2 : k ≤ 65536) (ht : Top ≤ bv s * 2 ^ k) (w : World) :
    Calls Try.prog 40 #[.agg #[.bool a, .string s], .int .i64 (k : Int)] w (fun e w' => e = .returned (.tuple #[.agg #[.bool false, .string ⟨#[]⟩], .int .i64 7]) ∧ Below w.heap.size w w') := by
  have h := Shift_up a s k hk2 w hv
  unfold WPost at h
  rwa [wres_full _ ht, werr_full ht, wd_none] at h
/-- The way back. -/
theorem back_z {a : Bool} {s : ByteArray} (hv : vld a s = true) (k : Nat) (y : Int) (hy : -y = (k : Int)) (hk : 1 ≤ k) (hk2 : k ≤ 65536) (ht : bv s * 2 ^ k < Top) (w : World) :
    Calls Try.prog 40 #[.agg #[.bool (zb (sg a (bv s) * 2 ^ k)), .string (zs (sg a (bv s) * 2 ^ k))], .int .i64 y] w (fun e w' => e = .returned (.tuple #[.agg #[.bool a, .string s], .int .i64 0]) ∧ Below w.heap.size w w') := by
  have hz : (sg a (bv s) * 2 ^ k).natAbs = bv s * 2 ^ k := by rw [← sg_mul, sg_abs]
  have h := shr_z (zb_zs_valid (z := sg a (bv s) * 2 ^ k) (by rw [hz]; exact ht)) k y hy hk hk2 w
  have e : sg (zb (sg a (bv s) * 2 ^ k)) (bv (zs (sg a (bv s) * 2 ^ k))) = sg a (bv s) * 2 ^ k := by rw [bv_zs, sg_z]
  have hp : (2 : Int) ^ k ≠ 0 := Int.ne_of_gt (Int.pow_pos (by decide))
  rw [e, Int.mul_ediv_cancel _ hp, (zb_sg hv).1, (zb_sg hv).2] at h
  exact h

set_option maxRecDepth 100000 in
set_option maxHeartbeats 8000000 in
theorem shifts_upfull (a : Bool) (s : ByteArray) (y : Int) (w : World) (z1 : s.size ≤ 60) (hv : vld a s = true) (k : Nat) (hy : y = (k : Int)) (hk2 : k ≤ 65536) (h0 : 0 < lenB s) (h1 : 65536 < lenB s + k) :
    Calls Try.prog 7 #[.agg #[.bool a, .string s], .int .i64 y] w (Ret (.bool true) w) := by
  have H_known := Lib.hid known_true
  obtain ⟨w0, hw0⟩ : ∃ w0 : World, w0 = (w.alloc (.cells #[.bool a, .string s] 23)).alloc (.cells #[.bool a, .string s] 23) := ⟨_, rfl⟩
  have hb0 : Hid (Below w.heap.size w w0) := by rw [hw0]; exact ((Below.refl _ _).alloc (Nat.le_refl _) _).alloc (by simp) _
  have I1 : Hid (ZC (.bool a) (.string s) w0 w.heap.size) := by rw [hw0]; exact (ZC.new rfl).alloc _
  have Hsz : Hid (w.heap.size + 2 ≤ w0.heap.size) := by rw [hw0]; show _ ≤ _; simp
  have HSH := short_any [(a, s)] 1 (w.heap.size + 1) w0 rfl (by decide) (by rw [hw0]; have := WL.one (w.alloc (.cells #[.bool a, .string s] 23)) a s 23; simpa using this)
  rw [short_true z1] at HSH
  have H_val := Lib.hid (fun g w h => valid_any [(a, s)] 1 g w rfl (by decide) h (by intro x hx; simp at hx; subst hx; show _ ≤ _; simp; omega))
  have v1 : validL [(a, s)] = true := by simp [validL, hv]
  rw [v1] at H_val
  unfold BPost at H_val
  have H_from := Lib.hid (fun w => rfrom_any a s w (by omega))
  have H_bits := Lib.hid (fun v w h => rbits60 hv z1 v w h)
  have hlb := lenB_bd s (by omega)
  have hlb2 := lenB_le (s := s) (by omega)
  unfold IPost at H_bits
  have H_sh : Hid (∀ w, Calls Try.prog 40 #[.agg #[.bool a, .string s], .int .i64 y] w _) := fun w => by rw [hy]; exact shl_full_z hv k hk2 (shl_full (vld_can hv) k h0 h1) w
  clear hv v1
  unfold IntPost at H_from
  unfold iV at H_from H_bits
  generalize sg a (bv s) = x at *
  generalize decide (x < 0) = bx at *
  generalize lenB s = nb at *
  have hy1 : 0 ≤ y := by omega
  have hy2 : y ≤ 65536 := by omega
  have hny : 65536 < nb + y := by omega
  clear hy h1 hk2
  have HSh := Lib.hid HSH
  have Hw0 := Lib.hid hw0
  clear HSH hw0
  unfold Ret at *
  unfold BPost at HSh
  go_enter Try.func7, Try.ntmps7
  go_wp2_with fail
  rw [← Hw0.out]
  refine HSh.out.mono ?_
  rintro e x0 ⟨rfl, b0⟩
  have D := Lib.hid b0
  clear b0
  obtain ⟨k0, k1, _⟩ := I1.out.next D.out
  go_wp2_with fail
  refine (H_sh.out _).mono ?_
  rintro e y4 ⟨rfl, b9⟩
  obtain ⟨n0, n1, _⟩ := I1.out.next (chain D.out b9)
  have j1 : w.heap.size < y4.heap.size := World.block_lt_of_cell? _ _ n0
  have j3 : ¬ w.heap.size = y4.heap.size := Nat.ne_of_lt j1
  obtain ⟨u4, hu4⟩ : ∃ u : World, u = y4.alloc (.cells #[.bool false, .string ⟨#[]⟩] 23) := ⟨_, rfl⟩
  have E : Hid (Below x0.heap.size x0 u4) := by rw [hu4]; exact b9.alloc b9.size _
  have D := Lib.hid (chain D.out E.out)
  have T4 : Hid (ZC (.bool false) (.string ⟨#[]⟩) u4 y4.heap.size) := by rw [hu4]; exact ZC.new rfl
  have HW4 : Hid (WL (u4.alloc (.cells #[.bool a, .string s] 23)) (y4.heap.size + 1) [(a, s)]) := by have := WL.one u4 a s 23; rwa [show u4.heap.size = y4.heap.size + 1 by rw [hu4]; simp] at this
  have Hu4 := Lib.hid hu4
  clear hu4 b9 E k0 k1
  obtain ⟨k0, k1, _⟩ := I1.out.next D.out
  obtain ⟨k2, k3, _⟩ := T4.out
  go_wp2_with fail
  rw [← Hu4.out]
  clear Hu4
  refine (H_val.out _ _ HW4.out).mono ?_
  rintro e y5 ⟨rfl, b9⟩
  have E := Lib.hid (chain (below_one u4 _) b9)
  have D := Lib.hid (chain D.out E.out)
  have T4 := Lib.hid (T4.out.next E.out)
  clear b9 E k0 k1 k2 k3 n0 n1 j1 j3
  obtain ⟨k0, k1, _⟩ := I1.out.next D.out
  obtain ⟨k2, k3, _⟩ := T4.out
  go_wp2_with fail
  refine (H_from.out _).mono ?_
  rintro e y6 ⟨vx, rfl, rx, b9⟩
  have RX := Lib.hid rx
  obtain ⟨px, bx', ox, cx, rfl, hrx⟩ := rx
  clear hrx
  generalize (Nm.dg D9 x.natAbs).length = lx at *
  obtain ⟨u6, hu6⟩ : ∃ u : World, u = y6.alloc (.cells #[.bool bx, .slice px lx cx] 31) := ⟨_, rfl⟩
  have E : Hid (Below y5.heap.size y5 u6) := by rw [hu6]; exact b9.alloc b9.size _
  have D := Lib.hid (chain D.out E.out)
  have T4 := Lib.hid (T4.out.next E.out)
  have T6 : Hid (ZC (.bool bx) (.slice px lx cx) u6 y6.heap.size) := by rw [hu6]; exact ZC.new rfl
  have RX : Hid (Rz u6 (.slice px lx cx) x) := by rw [hu6]; exact Ri.allocd RX.out _
  have Hu6 := Lib.hid hu6
  clear hu6 b9 E k0 k1 k2 k3
  obtain ⟨k0, k1, _⟩ := I1.out.next D.out
  obtain ⟨k2, k3, _⟩ := T4.out
  obtain ⟨k4, k5, _⟩ := T6.out
  go_wp2_with fail
  rw [← Hu6.out]
  clear Hu6
  refine (H_bits.out _ _ RX.out).mono ?_
  rintro e y7 ⟨rfl, b9⟩
  have D := Lib.hid (chain D.out b9)
  have T4 := Lib.hid (T4.out.next b9)
  have T6 := Lib.hid (T6.out.next b9)
  have RX := Lib.hid (Ri.below RX.out b9 (Nat.le_refl _))
  clear b9 k0 k1 k2 k3 k4 k5
  obtain ⟨k0, k1, _⟩ := I1.out.next D.out
  obtain ⟨k2, k3, _⟩ := T4.out
  obtain ⟨k4, k5, _⟩ := T6.out
  go_wp2_with fail
  refine (H_known.out _).mono ?_
  rintro e x1 ⟨rfl, b1⟩
  have HZ := Lib.hid (chain hb0.out (chain D.out b1))
  clear b1
  go_wp2
  go_ret
  exact ⟨rfl, HZ.out⟩
end Go.Proofs.Ytlmklhffafcmmaa
