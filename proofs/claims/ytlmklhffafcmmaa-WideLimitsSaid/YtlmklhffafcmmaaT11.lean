/- What the theorem leans on, part 11: RefQuo3, RefQuo4, RefQuo, LShift, Txt1, Knuth, DivA. -/
import Derived.Test.YtlmklhffafcmmaaT10
import Derived.Test.YtlmklhffafcmmaaT1

/- The reference's Quo: the walk where the first rest is negative. -/
namespace Go.Proofs.Ytlmklhffafcmmaa
open Go.RowKit

set_option maxRecDepth 100000 in
set_option maxHeartbeats 8000000 in
theorem rquo_neg1 (x y : Int) (v1 v2 : Value) (w : World) (k : Nat) (hk : k ≤ 90000) (hx : x.natAbs < D9 ^ k) (hy : y.natAbs < D9 ^ k) (h1 : Rz w v1 x) (h2 : Rz w v2 y) (hs : 0 < y) (hr : x - q0 x y * y < 0) :
    Calls Try.prog 39 #[iV x v1, iV y v2] w (QIPost (q0 x y - 1) (x - (q0 x y - 1) * y) w) := by
  have lx := lenD hx
  have ly := lenD hy
  have H_over := Lib.hid (fun v1 v2 w g1 g2 => rover_any v1 v2 x.natAbs y.natAbs w (by omega) g1 g2 (by omega) (by omega))
  have H_made := Lib.hid (fun v w g => (rmade_any (decide (x < 0) != decide (y < 0)) v (x.natAbs / y.natAbs) w g).mono (made_int (z := q0 x y) rfl))
  have lq := Nat.le_trans (lenD (Nat.lt_of_le_of_lt (q0_le x y) hx)) (by omega : k ≤ 1000000)
  have lqy := Nat.le_trans (lenD (Nat.lt_of_le_of_lt (q0y_le x y) hx)) (by omega : k ≤ 1000000)
  have H_mul := Lib.hid (fun v1 v2 w g1 g2 => rmul_int (q0 x y) y v1 v2 w g1 g2 lq (by omega))
  have H_sub := Lib.hid (fun v1 v2 w g1 g2 => rsub_int x (q0 x y * y) v1 v2 w g1 g2 (by omega) lqy)
  have H_sgn := Lib.hid (fun v w g => rsign_int (x - q0 x y * y) v w g)
  have H_sgy := Lib.hid (fun v w g => rsign_int y v w g)
  rw [Int.sign_eq_one_of_pos hs] at H_sgy
  rw [Int.sign_eq_neg_one_of_neg hr] at H_sgn
  obtain ⟨zi, hzi⟩ : ∃ z : Int, z = 1 := ⟨_, rfl⟩
  have H_n1 : Hid (∀ w, Calls Try.prog 25 #[.int .i64 1] w (IntPost zi w)) := by rw [hzi]; exact fun w => rnum_any 1 w (by decide) (by decide)
  have H_adj0 : ∀ z : Int, z = 1 → ∀ v1 v2 w, Rz w v1 (q0 x y) → Rz w v2 z → Calls Try.prog 33 #[iV (q0 x y) v1, iV z v2] w (IntPost (q0 x y - 1) w) := by
    intro z hz v1 v2 w g1 g2
    subst hz
    exact rsub_int (q0 x y) 1 v1 v2 w g1 g2 lq (Nat.le_trans (lenD (k := 3) (by decide)) (by decide))
  have H_adj := Lib.hid (H_adj0 zi hzi)
  clear H_adj0
  have lq1 : (Nm.dg D9 (q0 x y - 1).natAbs).length ≤ 1000000 := by
    have a1 := q0_le x y
    refine Nat.le_trans (lenD (k := k + 1) (twice ?_)) (by omega)
    have : 0 < D9 ^ k := Nat.pow_pos D90
    omega
  have lqy1 : (Nm.dg D9 ((q0 x y - 1) * y).natAbs).length ≤ 1000000 := by
    have a1 := q0y_le x y
    rw [Int.sub_mul, Int.one_mul]
    refine Nat.le_trans (lenD (k := k + 1) (twice ?_)) (by omega)
    omega
  have H_mul2 := Lib.hid (fun v1 v2 w g1 g2 => rmul_int (q0 x y - 1) y v1 v2 w g1 g2 lq1 (by omega))
  have H_sub2 := Lib.hid (fun v1 v2 w g1 g2 => rsub_int x ((q0 x y - 1) * y) v1 v2 w g1 g2 (by omega) lqy1)
  clear hzi lq1 lqy1
  obtain ⟨sb, hsb⟩ : ∃ sb, (decide (x < 0) != decide (y < 0)) = sb := ⟨_, rfl⟩
  rw [hsb] at H_made
  have HX := Lib.hid h1
  have HY := Lib.hid h2
  clear lq lqy lx ly hx hy hk hr
  clear hs
  unfold IntPost iV at H_made H_mul H_sub H_adj H_mul2 H_sub2
  unfold IntPost at H_n1
  unfold iV at H_n1
  unfold iV at H_sgn
  unfold iV at H_sgy
  unfold SignPost at H_sgn H_sgy
  unfold OverPost at H_over
  unfold QIPost iV
  generalize x.natAbs / y.natAbs = dd at *
  generalize x.natAbs % y.natAbs = de at *
  obtain ⟨bx, hbx⟩ : ∃ b, decide (x < 0) = b := ⟨_, rfl⟩
  obtain ⟨by', hby⟩ : ∃ b, decide (y < 0) = b := ⟨_, rfl⟩
  rw [hbx, hby] at hsb
  have hsb2 : (!(bx == by')) = sb := hsb
  rw [hby] at H_mul H_mul2 H_sgy
  rw [hbx] at H_sub H_sub2 ⊢
  rw [hby]
  clear hbx hby hsb
  generalize hr1 : x - (q0 x y - 1) * y = r1 at *
  generalize (q0 x y - 1) * y = q1y at *
  generalize hq1 : q0 x y - 1 = q1 at *
  clear hr1 hq1
  generalize x - q0 x y * y = r at *
  generalize q0 x y * y = qy at *
  generalize q0 x y = q at *
  generalize decide (qy < 0) = bqy at *
  generalize decide (q1y < 0) = bq1y at *
  generalize decide (zi < 0) = bzi at *
  obtain ⟨bq1, hbq1⟩ : ∃ b, decide (q1 < 0) = b := ⟨_, rfl⟩
  obtain ⟨br1, hbr1⟩ : ∃ b, decide (r1 < 0) = b := ⟨_, rfl⟩
  rw [hbq1] at H_adj H_mul2
  rw [hbr1] at H_sub2
  have HQQ := Lib.hid hbq1
  have HRR := Lib.hid hbr1
  clear hbq1 hbr1
  obtain ⟨bq, hbq⟩ : ∃ b, decide (q < 0) = b := ⟨_, rfl⟩
  rw [hbq] at H_made H_mul H_adj
  obtain ⟨pa, ba, oa, ca, rfl, hra⟩ := h1
  obtain ⟨pb, bb, ob, cb, rfl, hrb⟩ := h2
  clear hra hrb
  generalize (Nm.dg D9 x.natAbs).length = la at *
  generalize (Nm.dg D9 y.natAbs).length = lb at *
  obtain ⟨w0, hw0⟩ : ∃ w0 : World, w0 = (((w.alloc (.cells #[.bool bx, .slice pa la ca] 31)).alloc (.cells #[.bool by', .slice pb lb cb] 31)).alloc (.cells #[.bool false, .slice none 0 0] 31)).alloc (.cells #[.bool false, .slice none 0 0] 31) := ⟨_, rfl⟩
  have hb0 : Hid (Below w.heap.size w w0) := by rw [hw0]; exact ((((Below.refl _ _).alloc (Nat.le_refl _) _).alloc (by simp) _).alloc (by simp; omega) _).alloc (by simp; omega) _
  have I1 : Hid (ZC (.bool bx) (.slice pa la ca) w0 w.heap.size) := by rw [hw0]; exact (((ZC.new rfl).alloc _).alloc _).alloc _
  have I2 : Hid (ZC (.bool by') (.slice pb lb cb) w0 (w.heap.size + 1)) := by rw [hw0]; exact ((ZC.new (by simp)).alloc _).alloc _
  have I3 : Hid (ZC (.bool false) (.slice none 0 0) w0 (w.heap.size + 1 + 1)) := by rw [hw0]; exact (ZC.new (by simp)).alloc _
  have I4 : Hid (ZC (.bool false) (.slice none 0 0) w0 (w.heap.size + 1 + 1 + 1)) := by rw [hw0]; exact ZC.new (by simp)
  have Hsz : Hid (w.heap.size + 4 ≤ w0.heap.size) := by rw [hw0]; show _ ≤ _; simp
  have RX := Lib.hid (Ri.below HX.out hb0.out (Nat.le_refl _))
  have RY := Lib.hid (Ri.below HY.out hb0.out (Nat.le_refl _))
  have Hw0 := Lib.hid hw0
  clear hw0 HX HY
  go_enter Try.func39, Try.ntmps39
  go_wp2_with fail
  rw [← Hw0.out]
  clear Hw0
  refine (H_over.out _ _ _ RX.out RY.out).mono ?_
  rintro e y1 ⟨vq, vr, rfl, rq, rr, b1⟩
  have D := Lib.hid b1
  obtain ⟨k0, k1, _⟩ := I1.out.next D.out
  obtain ⟨k2, k3, _⟩ := I2.out.next D.out
  have RQ := Lib.hid rq
  obtain ⟨pq, bq', oq, cq, rfl, hrq⟩ := rq
  clear b1 rr hrq
  go_wp2_with fail
  refine (H_made.out _ _ RQ.out).mono ?_
  rintro e y2 ⟨v8, rfl, r8, b2⟩
  have D := Lib.hid (chain D.out b2)
  obtain ⟨u2, hu2⟩ : ∃ u : World, u = y2.alloc (.cells #[.bool bq, v8] 31) := ⟨_, rfl⟩
  have R8 : Hid (Rz u2 v8 q) := by rw [hu2]; exact Ri.allocd r8 _
  have T8 : Hid (ZC (.bool bq) v8 u2 y2.heap.size) := by rw [hu2]; exact ZC.new rfl
  have hw8 : Hid (w0.heap.size ≤ y2.heap.size) := D.out.size
  have hy2 : Hid (w.heap.size + 4 ≤ y2.heap.size) := Nat.le_trans Hsz.out D.out.size
  have D : Hid (Below w0.heap.size w0 u2) := by rw [hu2]; exact D.out.alloc D.out.size _
  obtain ⟨p8, bb8, o8, c8, rfl, rr8⟩ := r8
  clear rr8
  generalize (Nm.dg D9 q.natAbs).length = l8 at *
  obtain ⟨k0, k1, _⟩ := I1.out.next D.out
  obtain ⟨k2, k3, _⟩ := I2.out.next D.out
  obtain ⟨k4, k5, _⟩ := T8.out
  have HSB : Hid (w.heap.size + 4 ≤ u2.heap.size) := Nat.le_trans Hsz.out D.out.size
  have hu2g : Hid (y2.heap.size < u2.heap.size) := T8.out.lt
  have Hu2 := Lib.hid hu2
  clear b2 hu2 RQ
  have RXu := Lib.hid (Ri.below RX.out D.out (Nat.le_refl _))
  have RYu := Lib.hid (Ri.below RY.out D.out (Nat.le_refl _))
  go_upto_region 3 with (fail)
  rw [← Hu2.out]
  clear Hu2
  obtain ⟨ja, jb, jc, jd, je, jf, jg, jh, ji, jj, jk, jl⟩ := far8q HSB.out
  have jm := hu2g.out
  have jn : ¬ y2.heap.size = u2.heap.size := Nat.ne_of_lt jm
  have jo : ¬ u2.heap.size = y2.heap.size := Nat.ne_of_gt jm
  go_cut [9] (fun s9 wx => ∃ (g9 : Nat) (p9 : Option Addr) (n9 c9 : Nat), s9 = .pointer (some ⟨g9, 0, none⟩) ∧ Hid (CutO (decide (r < 0)) (.slice p9 n9 c9) (Nm.dg D9 r.natAbs) u2.heap.size u2 wx g9))
  case first =>
    rename_i J0 K0 hRJ hMK
    go_region_held3 (fun W' => W'.cell? ⟨w.heap.size, 0, none⟩ = some (.bool bx) ∧ W'.cell? ⟨w.heap.size, 1, none⟩ = some (.slice pa la ca) ∧ W'.cell? ⟨w.heap.size + 1, 0, none⟩ = some (.bool by') ∧ W'.cell? ⟨w.heap.size + 1, 1, none⟩ = some (.slice pb lb cb) ∧ W'.cell? ⟨y2.heap.size, 0, none⟩ = some (.bool bq) ∧ W'.cell? ⟨y2.heap.size, 1, none⟩ = some (.slice p8 l8 c8)) (go_keep)
      (first
        | (go_at_call 37; (with_reducible refine (H_mul.out _ _ _ (by first | exact Ri.drew R8.out | exact Ri.allocd (Ri.drew R8.out) _ | exact Ri.drew (Ri.allocd R8.out _)) (by first | exact Ri.drew RYu.out | exact Ri.allocd (Ri.drew RYu.out) _ | exact Ri.drew (Ri.allocd RYu.out _))).mono ?_); rintro e w1 ⟨vm, rfl, rz1, bz1⟩; (try (have bz1 := undrew bz1)); have d1 : Below u2.heap.size u2 w1 := chain (by first | exact Below.refl _ _ | exact (Below.refl _ _).drew | exact below_one _ _ | exact ((Below.refl _ _).drew).alloc (Nat.le_refl _) _) bz1; have e1 : Below u2.heap.size u2 w1 := d1; have p0 := keep1 e1 k0; have p1 := keep1 e1 k1; have p2 := keep1 e1 k2; have p3 := keep1 e1 k3; have p4 := keep1 e1 k4; have p5 := keep1 e1 k5; obtain ⟨j1a, j1b, j1c, j1d, j1e, j1f, j1g, j1h, j1i, j1j, j1k, j1l⟩ := far8q (Nat.le_trans HSB.out e1.size); have j1m := Nat.lt_of_lt_of_le hu2g.out e1.size; have j1n : ¬ y2.heap.size = w1.heap.size := Nat.ne_of_lt j1m; have j1o : ¬ w1.heap.size = y2.heap.size := Nat.ne_of_gt j1m; (try (have A0 := Lib.hid (ZC.made (g := u2.heap.size) rfl bz1); obtain ⟨A0a, A0b, A0c, A0d⟩ := A0.out)); (try (have L01 := Lib.hid (apart_b (g := u2.heap.size) rfl bz1); obtain ⟨l01x, l01y, l01z⟩ := L01.out)); have G1 := Lib.hid rz1; obtain ⟨pr1, br1, or1, cr1, rfl, rr1⟩ := rz1; clear rr1)
        | (go_at_call 33; (with_reducible refine (H_sub.out _ _ _ (by first | exact Ri.below RXu.out e1 (Nat.le_refl _) | exact Ri.allocd (Ri.below RXu.out e1 (Nat.le_refl _)) _) (by first | exact G1.out | exact Ri.allocd G1.out _)).mono ?_); rintro e w2 ⟨vs, rfl, rz2, bz2⟩; (try (have bz2 := undrew bz2)); have d2 : Below w1.heap.size w1 w2 := chain (by first | exact Below.refl _ _ | exact (Below.refl _ _).drew | exact below_one _ _ | exact ((Below.refl _ _).drew).alloc (Nat.le_refl _) _) bz2; have e2 : Below u2.heap.size u2 w2 := chain e1 d2; have p0 := keep1 e2 k0; have p1 := keep1 e2 k1; have p2 := keep1 e2 k2; have p3 := keep1 e2 k3; have p4 := keep1 e2 k4; have p5 := keep1 e2 k5; obtain ⟨j2a, j2b, j2c, j2d, j2e, j2f, j2g, j2h, j2i, j2j, j2k, j2l⟩ := far8q (Nat.le_trans HSB.out e2.size); have j2m := Nat.lt_of_lt_of_le hu2g.out e2.size; have j2n : ¬ y2.heap.size = w2.heap.size := Nat.ne_of_lt j2m; have j2o : ¬ w2.heap.size = y2.heap.size := Nat.ne_of_gt j2m; (try (have A1 := Lib.hid (ZC.made (g := w1.heap.size) rfl bz2); obtain ⟨A1a, A1b, A1c, A1d⟩ := A1.out)); (try (have A0 := Lib.hid (A0.out.next d2); obtain ⟨A0a, A0b, A0c, A0d⟩ := A0.out)); (try (have L02 := Lib.hid (apart_t L01.out d2.size); obtain ⟨l02x, l02y, l02z⟩ := L02.out)); (try (have L12 := Lib.hid (apart_b (g := w1.heap.size) rfl bz2); obtain ⟨l12x, l12y, l12z⟩ := L12.out)); have G2 := Lib.hid rz2; obtain ⟨pr2, br2, or2, cr2, rfl, rr2⟩ := rz2; clear rr2)
        | fail)
    all_goals
      refine hMK _ _ (Met.intro (hRJ _ _ ?_))
      (repeat apply Exists.intro)
      refine ⟨?_, rfl⟩
      refine ⟨_, pr2, (Nm.dg D9 r.natAbs).length, cr2, rfl, ?_⟩
      show CutO _ (.slice pr2 _ cr2) _ u2.heap.size u2 _ _
      have sA0 : u2.heap.size ≤ u2.heap.size := Nat.le_refl _
      have sA1 : u2.heap.size ≤ w1.heap.size := e1.size
      have sA2 : u2.heap.size ≤ w2.heap.size := e2.size
      first
        | with_reducible exact CutO.k1 G2.out e2 sA2
        | with_reducible exact CutO.k2 A0.out sA0 G2.out e2
        | with_reducible exact CutO.k2 A1.out sA1 G2.out e2
        | fail
  obtain ⟨g9, p9, n9, c9, rfl, hcut⟩ := hcut
  obtain ⟨hg9, t9, r9, b9⟩ := hcut.out
  have D := Lib.hid (chain D.out b9)
  have T8 := Lib.hid (T8.out.next b9)
  have R8 := Lib.hid (Ri.below R8.out b9 (Nat.le_refl _))
  have T9 := Lib.hid t9
  have R9 := Lib.hid r9
  have hg9' : Hid (w.heap.size + 4 ≤ g9) := Nat.le_trans HSB.out hg9
  have hg9w : Hid (w0.heap.size ≤ g9) := Nat.le_trans hw8.out (Nat.le_of_lt (Nat.lt_of_lt_of_le hu2g.out hg9))
  have hg89 : Hid (y2.heap.size < g9) := Nat.lt_of_lt_of_le hu2g.out hg9
  obtain ⟨k0, k1, _⟩ := T9.out
  clear hcut hg9 t9 r9 b9 ja jb jc jd je jf jg jh ji jj jk jl jm jn jo k2 k3 k4 k5
  obtain ⟨br, hbr⟩ : ∃ b, decide (r < 0) = b := ⟨_, rfl⟩
  rw [hbr] at T9 k0 H_sgn
  go_wp2_with fail
  refine (H_sgn.out _ _ R9.out).mono ?_
  rintro e y3 ⟨rfl, b3⟩
  have D := Lib.hid (chain D.out b3)
  have T8 := Lib.hid (T8.out.next b3)
  have R8 := Lib.hid (Ri.below R8.out b3 (Nat.le_refl _))
  have T9 := Lib.hid (T9.out.next b3)
  have R9 := Lib.hid (Ri.below R9.out b3 (Nat.le_refl _))
  clear b3 k0 k1
  obtain ⟨k2, k3, _⟩ := I2.out.next D.out
  have HRRn := Lib.hid hbr
  clear hbr hbq
  go_wp2_with fail
  refine (H_sgy.out _ _ (Ri.below RY.out D.out (Nat.le_refl _))).mono ?_
  rintro e y4 ⟨rfl, b4⟩
  have D := Lib.hid (chain D.out b4)
  have T8 := Lib.hid (T8.out.next b4)
  have R8 := Lib.hid (Ri.below R8.out b4 (Nat.le_refl _))
  have T9 := Lib.hid (T9.out.next b4)
  clear b4 k2 k3 R9
  obtain ⟨k4, k5, k6, k7⟩ := T8.out
  have R8d := Lib.hid (Ri.drew R8.out)
  go_upto_region 6 with (fail)
  go_cut [38] (fun _ wx => ∃ (p : Option Addr) (n c : Nat), Hid (ZC (.bool bq1) (.slice p n c) wx y2.heap.size) ∧ Hid (Rz wx (.slice p n c) q1) ∧ Hid (ZC (.bool br) (.slice p9 n9 c9) wx g9) ∧ Hid (Below w0.heap.size w0 wx))
  case first =>
    rename_i J0 K0 hRJ hMK
    go_region_with
      (first
        | (go_at_call 25; (with_reducible refine (H_n1.out _).mono ?_); rintro e z1 ⟨v1, rfl, r1, b1⟩; have d1 := chain ((Below.refl y4.heap.size y4).drew) b1; have p4 := keep1 d1 k4; have p5 := keep1 d1 k5; have G1 := Lib.hid (And.intro (Ri.below R8d.out b1 (Nat.le_refl _)) r1); have D1 := Lib.hid d1; obtain ⟨pq1, bb1, oo1, cc1, rfl, rr1⟩ := r1; clear rr1 b1)
        | (go_at_call 33; (with_reducible refine (H_adj.out _ _ _ G1.out.1 G1.out.2).mono ?_); rintro e z2 ⟨v2, rfl, r2, b2⟩; have d2 := chain D1.out b2; have p4 := keep1 d2 k4; have p5 := keep1 d2 k5; have p6 := keepf d2 k4 k6; have p7 := keepf d2 k5 k7; have G2 := Lib.hid r2; have D2 := Lib.hid d2; obtain ⟨pq2, bb2, oo2, cq2, rfl, rr2⟩ := r2; clear rr2 b2)
        | fail)
    all_goals
      have ZZ := Lib.hid (T8.out.next D2.out)
      refine hMK _ _ (Met.intro (hRJ _ _ ?_))
      (repeat apply Exists.intro)
      refine ⟨?_, rfl⟩
      exact ⟨pq2, _, cq2, ZZ.out.set, G2.out.setq ZZ.out _ _, (T9.out.next D2.out).other (Nat.ne_of_gt hg89.out), below_set2 (chain D.out D2.out) (by have := hy2.out; have := Hsz.out; have := hw8.out; omega) _ _⟩
  obtain ⟨p8', n8', c8', T8, R8, T9, D⟩ := hcut
  clear k4 k5 k6 k7 R8d
  have R8d := Lib.hid (Ri.drew R8.out)
  have RXu := Lib.hid (Ri.below RX.out D.out (Nat.le_refl _))
  have RYd := Lib.hid (Ri.drew (Ri.below RY.out D.out (Nat.le_refl _)))
  obtain ⟨k0, k1, _⟩ := I1.out.next D.out
  obtain ⟨k2, k3, _⟩ := I2.out.next D.out
  obtain ⟨k4, k5, _⟩ := T8.out
  obtain ⟨k6, k7, k8, k9⟩ := T9.out
  obtain ⟨y5, hy5⟩ : ∃ y5 : World, y5 = wc := ⟨_, rfl⟩
  subst hy5
  go_upto_region 8 with (fail)
  go_cut [46] (fun _ wx => ∃ (p : Option Addr) (n c : Nat), Hid (ZC (.bool br1) (.slice p n c) wx g9) ∧ Hid (Rz wx (.slice p n c) r1) ∧ Hid (ZC (.bool bq1) (.slice p8' n8' c8') wx y2.heap.size) ∧ Hid (Rz wx (.slice p8' n8' c8') q1) ∧ Hid (Below w0.heap.size w0 wx))
  case first =>
    rename_i J0 K0 hRJ hMK
    go_region_with
      (first
        | (go_at_call 37; (with_reducible refine (H_mul2.out _ _ _ R8d.out RYd.out).mono ?_); rintro e z1 ⟨v1, rfl, rz1, b1⟩; have d1 := chain ((Below.refl y5.heap.size y5).drew) b1; have q0 := keep1 d1 k0; have q1 := keep1 d1 k1; have q2 := keep1 d1 k2; have q3 := keep1 d1 k3; have q4 := keep1 d1 k4; have q5 := keep1 d1 k5; have q6 := keep1 d1 k6; have q7 := keep1 d1 k7; have G1 := Lib.hid (And.intro (Ri.below RXu.out d1 (Nat.le_refl _)) rz1); have D1 := Lib.hid d1; obtain ⟨pq1, bb1, oo1, cc1, rfl, rr1⟩ := rz1; clear rr1 b1)
        | (go_at_call 33; (with_reducible refine (H_sub2.out _ _ _ G1.out.1 G1.out.2).mono ?_); rintro e z2 ⟨v2, rfl, rz2, b2⟩; have d2 := chain D1.out b2; have q0 := keep1 d2 k0; have q1 := keep1 d2 k1; have q2 := keep1 d2 k2; have q3 := keep1 d2 k3; have q4 := keep1 d2 k4; have q5 := keep1 d2 k5; have q6 := keep1 d2 k6; have q7 := keep1 d2 k7; have p8 := keepf d2 k6 k8; have p9' := keepf d2 k7 k9; have G2 := Lib.hid rz2; have D2 := Lib.hid d2; obtain ⟨pq2, bb2, oo2, cq2, rfl, rr2⟩ := rz2; clear rr2 b2)
        | fail)
    all_goals
      have ZZ := Lib.hid (T9.out.next D2.out)
      refine hMK _ _ (Met.intro (hRJ _ _ ?_))
      (repeat apply Exists.intro)
      refine ⟨?_, rfl⟩
      exact ⟨pq2, _, cq2, ZZ.out.set, G2.out.setq ZZ.out _ _, (T8.out.next D2.out).other (Nat.ne_of_lt hg89.out), (Ri.below R8.out D2.out (Nat.le_refl _)).setq ZZ.out _ _, below_set2 (chain D.out D2.out) (by have := hg9w.out; omega) _ _⟩
  obtain ⟨p9', n9', c9', T9, R9, T8, R8, D⟩ := hcut
  clear k0 k1 k2 k3 k4 k5 k6 k7 k8 k9 R8d RXu RYd
  obtain ⟨f0, f1, f2, f3⟩ := T8.out
  obtain ⟨f4, f5, f6, f7⟩ := T9.out
  obtain ⟨m0, m1, m2, m3⟩ := I3.out.next D.out
  obtain ⟨n0, n1, n2, n3⟩ := I4.out.next D.out
  obtain ⟨ja, jb, jc, jd, je, jf, jg, jh, _⟩ := far8q hy2.out
  obtain ⟨qa, qb, qc, qd, qe, qf, qg, qh, _⟩ := far8q hg9'.out
  have i5 := (I4.out.next D.out).other (g2 := w.heap.size + 1 + 1) (u := .bool bq1) (v := (.slice p8' n8' c8')) (by omega)
  have HZ := Lib.hid ((below_set2 (below_set2 (chain hb0.out D.out) (g := w.heap.size + 1 + 1) (by omega) (.bool bq1) (.slice p8' n8' c8')) (g := w.heap.size + 1 + 1 + 1) (by omega) (.bool br1) (.slice p9' n9' c9')).drew)
  have RQf := Lib.hid (Ri.drew ((R8.out.setq (I3.out.next D.out) (.bool bq1) (.slice p8' n8' c8')).setq i5 (.bool br1) (.slice p9' n9' c9')))
  have RRf := Lib.hid (Ri.drew ((R9.out.setq (I3.out.next D.out) (.bool bq1) (.slice p8' n8' c8')).setq i5 (.bool br1) (.slice p9' n9' c9')))
  clear i5
  go_wp2_with fail
  go_region
  go_wp2
  exact bodyPost_ret (v := .tuple #[.agg #[.bool bq1, (.slice p8' n8' c8')], .agg #[.bool br1, (.slice p9' n9' c9')]]) (by simp [results, Try.results39, go_sem, m0, m1, n0, n1]) rfl ⟨_, _, by rw [HQQ.out, HRR.out], RQf.out, RRf.out, HZ.out⟩
end Go.Proofs.Ytlmklhffafcmmaa

/- The reference's Quo: the walk where the first rest and the divisor are negative. -/
namespace Go.Proofs.Ytlmklhffafcmmaa
open Go.RowKit

set_option maxRecDepth 100000 in
set_option maxHeartbeats 8000000 in
theorem rquo_neg2 (x y : Int) (v1 v2 : Value) (w : World) (k : Nat) (hk : k ≤ 90000) (hx : x.natAbs < D9 ^ k) (hy : y.natAbs < D9 ^ k) (h1 : Rz w v1 x) (h2 : Rz w v2 y) (hs : y < 0) (hr : x - q0 x y * y < 0) :
    Calls Try.prog 39 #[iV x v1, iV y v2] w (QIPost (q0 x y + 1) (x - (q0 x y + 1) * y) w) := by
  have lx := lenD hx
  have ly := lenD hy
  have H_over := Lib.hid (fun v1 v2 w g1 g2 => rover_any v1 v2 x.natAbs y.natAbs w (by omega) g1 g2 (by omega) (by omega))
  have H_made := Lib.hid (fun v w g => (rmade_any (decide (x < 0) != decide (y < 0)) v (x.natAbs / y.natAbs) w g).mono (made_int (z := q0 x y) rfl))
  have lq := Nat.le_trans (lenD (Nat.lt_of_le_of_lt (q0_le x y) hx)) (by omega : k ≤ 1000000)
  have lqy := Nat.le_trans (lenD (Nat.lt_of_le_of_lt (q0y_le x y) hx)) (by omega : k ≤ 1000000)
  have H_mul := Lib.hid (fun v1 v2 w g1 g2 => rmul_int (q0 x y) y v1 v2 w g1 g2 lq (by omega))
  have H_sub := Lib.hid (fun v1 v2 w g1 g2 => rsub_int x (q0 x y * y) v1 v2 w g1 g2 (by omega) lqy)
  have H_sgn := Lib.hid (fun v w g => rsign_int (x - q0 x y * y) v w g)
  have H_sgy := Lib.hid (fun v w g => rsign_int y v w g)
  rw [Int.sign_eq_neg_one_of_neg hs] at H_sgy
  rw [Int.sign_eq_neg_one_of_neg hr] at H_sgn
  obtain ⟨zi, hzi⟩ : ∃ z : Int, z = 1 := ⟨_, rfl⟩
  have H_n1 : Hid (∀ w, Calls Try.prog 25 #[.int .i64 1] w (IntPost zi w)) := by rw [hzi]; exact fun w => rnum_any 1 w (by decide) (by decide)
  have H_adj0 : ∀ z : Int, z = 1 → ∀ v1 v2 w, Rz w v1 (q0 x y) → Rz w v2 z → Calls Try.prog 32 #[iV (q0 x y) v1, iV z v2] w (IntPost (q0 x y + 1) w) := by
    intro z hz v1 v2 w g1 g2
    subst hz
    exact radd_int (q0 x y) 1 v1 v2 w g1 g2 lq (Nat.le_trans (lenD (k := 3) (by decide)) (by decide))
  have H_adj := Lib.hid (H_adj0 zi hzi)
  clear H_adj0
  have lq1 : (Nm.dg D9 (q0 x y + 1).natAbs).length ≤ 1000000 := by
    have a1 := q0_le x y
    refine Nat.le_trans (lenD (k := k + 1) (twice ?_)) (by omega)
    have : 0 < D9 ^ k := Nat.pow_pos D90
    omega
  have lqy1 : (Nm.dg D9 ((q0 x y + 1) * y).natAbs).length ≤ 1000000 := by
    have a1 := q0y_le x y
    rw [Int.add_mul, Int.one_mul]
    refine Nat.le_trans (lenD (k := k + 1) (twice ?_)) (by omega)
    omega
  have H_mul2 := Lib.hid (fun v1 v2 w g1 g2 => rmul_int (q0 x y + 1) y v1 v2 w g1 g2 lq1 (by omega))
  have H_sub2 := Lib.hid (fun v1 v2 w g1 g2 => rsub_int x ((q0 x y + 1) * y) v1 v2 w g1 g2 (by omega) lqy1)
  clear hzi lq1 lqy1
  obtain ⟨sb, hsb⟩ : ∃ sb, (decide (x < 0) != decide (y < 0)) = sb := ⟨_, rfl⟩
  rw [hsb] at H_made
  have HX := Lib.hid h1
  have HY := Lib.hid h2
  clear lq lqy lx ly hx hy hk hr
  clear hs
  unfold IntPost iV at H_made H_mul H_sub H_adj H_mul2 H_sub2
  unfold IntPost at H_n1
  unfold iV at H_n1
  unfold iV at H_sgn
  unfold iV at H_sgy
  unfold SignPost at H_sgn H_sgy
  unfold OverPost at H_over
  unfold QIPost iV
  generalize x.natAbs / y.natAbs = dd at *
  generalize x.natAbs % y.natAbs = de at *
  obtain ⟨bx, hbx⟩ : ∃ b, decide (x < 0) = b := ⟨_, rfl⟩
  obtain ⟨by', hby⟩ : ∃ b, decide (y < 0) = b := ⟨_, rfl⟩
  rw [hbx, hby] at hsb
  have hsb2 : (!(bx == by')) = sb := hsb
  rw [hby] at H_mul H_mul2 H_sgy
  rw [hbx] at H_sub H_sub2 ⊢
  rw [hby]
  clear hbx hby hsb
  generalize hr1 : x - (q0 x y + 1) * y = r1 at *
  generalize (q0 x y + 1) * y = q1y at *
  generalize hq1 : q0 x y + 1 = q1 at *
  clear hr1 hq1
  generalize x - q0 x y * y = r at *
  generalize q0 x y * y = qy at *
  generalize q0 x y = q at *
  generalize decide (qy < 0) = bqy at *
  generalize decide (q1y < 0) = bq1y at *
  generalize decide (zi < 0) = bzi at *
  obtain ⟨bq1, hbq1⟩ : ∃ b, decide (q1 < 0) = b := ⟨_, rfl⟩
  obtain ⟨br1, hbr1⟩ : ∃ b, decide (r1 < 0) = b := ⟨_, rfl⟩
  rw [hbq1] at H_adj H_mul2
  rw [hbr1] at H_sub2
  have HQQ := Lib.hid hbq1
  have HRR := Lib.hid hbr1
  clear hbq1 hbr1
  obtain ⟨bq, hbq⟩ : ∃ b, decide (q < 0) = b := ⟨_, rfl⟩
  rw [hbq] at H_made H_mul H_adj
  obtain ⟨pa, ba, oa, ca, rfl, hra⟩ := h1
  obtain ⟨pb, bb, ob, cb, rfl, hrb⟩ := h2
  clear hra hrb
  generalize (Nm.dg D9 x.natAbs).length = la at *
  generalize (Nm.dg D9 y.natAbs).length = lb at *
  obtain ⟨w0, hw0⟩ : ∃ w0 : World, w0 = (((w.alloc (.cells #[.bool bx, .slice pa la ca] 31)).alloc (.cells #[.bool by', .slice pb lb cb] 31)).alloc (.cells #[.bool false, .slice none 0 0] 31)).alloc (.cells #[.bool false, .slice none 0 0] 31) := ⟨_, rfl⟩
  have hb0 : Hid (Below w.heap.size w w0) := by rw [hw0]; exact ((((Below.refl _ _).alloc (Nat.le_refl _) _).alloc (by simp) _).alloc (by simp; omega) _).alloc (by simp; omega) _
  have I1 : Hid (ZC (.bool bx) (.slice pa la ca) w0 w.heap.size) := by rw [hw0]; exact (((ZC.new rfl).alloc _).alloc _).alloc _
  have I2 : Hid (ZC (.bool by') (.slice pb lb cb) w0 (w.heap.size + 1)) := by rw [hw0]; exact ((ZC.new (by simp)).alloc _).alloc _
  have I3 : Hid (ZC (.bool false) (.slice none 0 0) w0 (w.heap.size + 1 + 1)) := by rw [hw0]; exact (ZC.new (by simp)).alloc _
  have I4 : Hid (ZC (.bool false) (.slice none 0 0) w0 (w.heap.size + 1 + 1 + 1)) := by rw [hw0]; exact ZC.new (by simp)
  have Hsz : Hid (w.heap.size + 4 ≤ w0.heap.size) := by rw [hw0]; show _ ≤ _; simp
  have RX := Lib.hid (Ri.below HX.out hb0.out (Nat.le_refl _))
  have RY := Lib.hid (Ri.below HY.out hb0.out (Nat.le_refl _))
  have Hw0 := Lib.hid hw0
  clear hw0 HX HY
  go_enter Try.func39, Try.ntmps39
  go_wp2_with fail
  rw [← Hw0.out]
  clear Hw0
  refine (H_over.out _ _ _ RX.out RY.out).mono ?_
  rintro e y1 ⟨vq, vr, rfl, rq, rr, b1⟩
  have D := Lib.hid b1
  obtain ⟨k0, k1, _⟩ := I1.out.next D.out
  obtain ⟨k2, k3, _⟩ := I2.out.next D.out
  have RQ := Lib.hid rq
  obtain ⟨pq, bq', oq, cq, rfl, hrq⟩ := rq
  clear b1 rr hrq
  go_wp2_with fail
  refine (H_made.out _ _ RQ.out).mono ?_
  rintro e y2 ⟨v8, rfl, r8, b2⟩
  have D := Lib.hid (chain D.out b2)
  obtain ⟨u2, hu2⟩ : ∃ u : World, u = y2.alloc (.cells #[.bool bq, v8] 31) := ⟨_, rfl⟩
  have R8 : Hid (Rz u2 v8 q) := by rw [hu2]; exact Ri.allocd r8 _
  have T8 : Hid (ZC (.bool bq) v8 u2 y2.heap.size) := by rw [hu2]; exact ZC.new rfl
  have hw8 : Hid (w0.heap.size ≤ y2.heap.size) := D.out.size
  have hy2 : Hid (w.heap.size + 4 ≤ y2.heap.size) := Nat.le_trans Hsz.out D.out.size
  have D : Hid (Below w0.heap.size w0 u2) := by rw [hu2]; exact D.out.alloc D.out.size _
  obtain ⟨p8, bb8, o8, c8, rfl, rr8⟩ := r8
  clear rr8
  generalize (Nm.dg D9 q.natAbs).length = l8 at *
  obtain ⟨k0, k1, _⟩ := I1.out.next D.out
  obtain ⟨k2, k3, _⟩ := I2.out.next D.out
  obtain ⟨k4, k5, _⟩ := T8.out
  have HSB : Hid (w.heap.size + 4 ≤ u2.heap.size) := Nat.le_trans Hsz.out D.out.size
  have hu2g : Hid (y2.heap.size < u2.heap.size) := T8.out.lt
  have Hu2 := Lib.hid hu2
  clear b2 hu2 RQ
  have RXu := Lib.hid (Ri.below RX.out D.out (Nat.le_refl _))
  have RYu := Lib.hid (Ri.below RY.out D.out (Nat.le_refl _))
  go_upto_region 3 with (fail)
  rw [← Hu2.out]
  clear Hu2
  obtain ⟨ja, jb, jc, jd, je, jf, jg, jh, ji, jj, jk, jl⟩ := far8q HSB.out
  have jm := hu2g.out
  have jn : ¬ y2.heap.size = u2.heap.size := Nat.ne_of_lt jm
  have jo : ¬ u2.heap.size = y2.heap.size := Nat.ne_of_gt jm
  go_cut [9] (fun s9 wx => ∃ (g9 : Nat) (p9 : Option Addr) (n9 c9 : Nat), s9 = .pointer (some ⟨g9, 0, none⟩) ∧ Hid (CutO (decide (r < 0)) (.slice p9 n9 c9) (Nm.dg D9 r.natAbs) u2.heap.size u2 wx g9))
  case first =>
    rename_i J0 K0 hRJ hMK
    go_region_held3 (fun W' => W'.cell? ⟨w.heap.size, 0, none⟩ = some (.bool bx) ∧ W'.cell? ⟨w.heap.size, 1, none⟩ = some (.slice pa la ca) ∧ W'.cell? ⟨w.heap.size + 1, 0, none⟩ = some (.bool by') ∧ W'.cell? ⟨w.heap.size + 1, 1, none⟩ = some (.slice pb lb cb) ∧ W'.cell? ⟨y2.heap.size, 0, none⟩ = some (.bool bq) ∧ W'.cell? ⟨y2.heap.size, 1, none⟩ = some (.slice p8 l8 c8)) (go_keep)
      (first
        | (go_at_call 37; (with_reducible refine (H_mul.out _ _ _ (by first | exact Ri.drew R8.out | exact Ri.allocd (Ri.drew R8.out) _ | exact Ri.drew (Ri.allocd R8.out _)) (by first | exact Ri.drew RYu.out | exact Ri.allocd (Ri.drew RYu.out) _ | exact Ri.drew (Ri.allocd RYu.out _))).mono ?_); rintro e w1 ⟨vm, rfl, rz1, bz1⟩; (try (have bz1 := undrew bz1)); have d1 : Below u2.heap.size u2 w1 := chain (by first | exact Below.refl _ _ | exact (Below.refl _ _).drew | exact below_one _ _ | exact ((Below.refl _ _).drew).alloc (Nat.le_refl _) _) bz1; have e1 : Below u2.heap.size u2 w1 := d1; have p0 := keep1 e1 k0; have p1 := keep1 e1 k1; have p2 := keep1 e1 k2; have p3 := keep1 e1 k3; have p4 := keep1 e1 k4; have p5 := keep1 e1 k5; obtain ⟨j1a, j1b, j1c, j1d, j1e, j1f, j1g, j1h, j1i, j1j, j1k, j1l⟩ := far8q (Nat.le_trans HSB.out e1.size); have j1m := Nat.lt_of_lt_of_le hu2g.out e1.size; have j1n : ¬ y2.heap.size = w1.heap.size := Nat.ne_of_lt j1m; have j1o : ¬ w1.heap.size = y2.heap.size := Nat.ne_of_gt j1m; (try (have A0 := Lib.hid (ZC.made (g := u2.heap.size) rfl bz1); obtain ⟨A0a, A0b, A0c, A0d⟩ := A0.out)); (try (have L01 := Lib.hid (apart_b (g := u2.heap.size) rfl bz1); obtain ⟨l01x, l01y, l01z⟩ := L01.out)); have G1 := Lib.hid rz1; obtain ⟨pr1, br1, or1, cr1, rfl, rr1⟩ := rz1; clear rr1)
        | (go_at_call 33; (with_reducible refine (H_sub.out _ _ _ (by first | exact Ri.below RXu.out e1 (Nat.le_refl _) | exact Ri.allocd (Ri.below RXu.out e1 (Nat.le_refl _)) _) (by first | exact G1.out | exact Ri.allocd G1.out _)).mono ?_); rintro e w2 ⟨vs, rfl, rz2, bz2⟩; (try (have bz2 := undrew bz2)); have d2 : Below w1.heap.size w1 w2 := chain (by first | exact Below.refl _ _ | exact (Below.refl _ _).drew | exact below_one _ _ | exact ((Below.refl _ _).drew).alloc (Nat.le_refl _) _) bz2; have e2 : Below u2.heap.size u2 w2 := chain e1 d2; have p0 := keep1 e2 k0; have p1 := keep1 e2 k1; have p2 := keep1 e2 k2; have p3 := keep1 e2 k3; have p4 := keep1 e2 k4; have p5 := keep1 e2 k5; obtain ⟨j2a, j2b, j2c, j2d, j2e, j2f, j2g, j2h, j2i, j2j, j2k, j2l⟩ := far8q (Nat.le_trans HSB.out e2.size); have j2m := Nat.lt_of_lt_of_le hu2g.out e2.size; have j2n : ¬ y2.heap.size = w2.heap.size := Nat.ne_of_lt j2m; have j2o : ¬ w2.heap.size = y2.heap.size := Nat.ne_of_gt j2m; (try (have A1 := Lib.hid (ZC.made (g := w1.heap.size) rfl bz2); obtain ⟨A1a, A1b, A1c, A1d⟩ := A1.out)); (try (have A0 := Lib.hid (A0.out.next d2); obtain ⟨A0a, A0b, A0c, A0d⟩ := A0.out)); (try (have L02 := Lib.hid (apart_t L01.out d2.size); obtain ⟨l02x, l02y, l02z⟩ := L02.out)); (try (have L12 := Lib.hid (apart_b (g := w1.heap.size) rfl bz2); obtain ⟨l12x, l12y, l12z⟩ := L12.out)); have G2 := Lib.hid rz2; obtain ⟨pr2, br2, or2, cr2, rfl, rr2⟩ := rz2; clear rr2)
        | fail)
    all_goals
      refine hMK _ _ (Met.intro (hRJ _ _ ?_))
      (repeat apply Exists.intro)
      refine ⟨?_, rfl⟩
      refine ⟨_, pr2, (Nm.dg D9 r.natAbs).length, cr2, rfl, ?_⟩
      show CutO _ (.slice pr2 _ cr2) _ u2.heap.size u2 _ _
      have sA0 : u2.heap.size ≤ u2.heap.size := Nat.le_refl _
      have sA1 : u2.heap.size ≤ w1.heap.size := e1.size
      have sA2 : u2.heap.size ≤ w2.heap.size := e2.size
      first
        | with_reducible exact CutO.k1 G2.out e2 sA2
        | with_reducible exact CutO.k2 A0.out sA0 G2.out e2
        | with_reducible exact CutO.k2 A1.out sA1 G2.out e2
        | fail
  obtain ⟨g9, p9, n9, c9, rfl, hcut⟩ := hcut
  obtain ⟨hg9, t9, r9, b9⟩ := hcut.out
  have D := Lib.hid (chain D.out b9)
  have T8 := Lib.hid (T8.out.next b9)
  have R8 := Lib.hid (Ri.below R8.out b9 (Nat.le_refl _))
  have T9 := Lib.hid t9
  have R9 := Lib.hid r9
  have hg9' : Hid (w.heap.size + 4 ≤ g9) := Nat.le_trans HSB.out hg9
  have hg9w : Hid (w0.heap.size ≤ g9) := Nat.le_trans hw8.out (Nat.le_of_lt (Nat.lt_of_lt_of_le hu2g.out hg9))
  have hg89 : Hid (y2.heap.size < g9) := Nat.lt_of_lt_of_le hu2g.out hg9
  obtain ⟨k0, k1, _⟩ := T9.out
  clear hcut hg9 t9 r9 b9 ja jb jc jd je jf jg jh ji jj jk jl jm jn jo k2 k3 k4 k5
  obtain ⟨br, hbr⟩ : ∃ b, decide (r < 0) = b := ⟨_, rfl⟩
  rw [hbr] at T9 k0 H_sgn
  go_wp2_with fail
  refine (H_sgn.out _ _ R9.out).mono ?_
  rintro e y3 ⟨rfl, b3⟩
  have D := Lib.hid (chain D.out b3)
  have T8 := Lib.hid (T8.out.next b3)
  have R8 := Lib.hid (Ri.below R8.out b3 (Nat.le_refl _))
  have T9 := Lib.hid (T9.out.next b3)
  have R9 := Lib.hid (Ri.below R9.out b3 (Nat.le_refl _))
  clear b3 k0 k1
  obtain ⟨k2, k3, _⟩ := I2.out.next D.out
  have HRRn := Lib.hid hbr
  clear hbr hbq
  go_wp2_with fail
  refine (H_sgy.out _ _ (Ri.below RY.out D.out (Nat.le_refl _))).mono ?_
  rintro e y4 ⟨rfl, b4⟩
  have D := Lib.hid (chain D.out b4)
  have T8 := Lib.hid (T8.out.next b4)
  have R8 := Lib.hid (Ri.below R8.out b4 (Nat.le_refl _))
  have T9 := Lib.hid (T9.out.next b4)
  clear b4 k2 k3 R9
  obtain ⟨k4, k5, k6, k7⟩ := T8.out
  have R8d := Lib.hid (Ri.drew R8.out)
  go_upto_region 7 with (fail)
  go_cut [41] (fun _ wx => ∃ (p : Option Addr) (n c : Nat), Hid (ZC (.bool bq1) (.slice p n c) wx y2.heap.size) ∧ Hid (Rz wx (.slice p n c) q1) ∧ Hid (ZC (.bool br) (.slice p9 n9 c9) wx g9) ∧ Hid (Below w0.heap.size w0 wx))
  case first =>
    rename_i J0 K0 hRJ hMK
    go_region_with
      (first
        | (go_at_call 25; (with_reducible refine (H_n1.out _).mono ?_); rintro e z1 ⟨v1, rfl, r1, b1⟩; have d1 := chain ((Below.refl y4.heap.size y4).drew) b1; have p4 := keep1 d1 k4; have p5 := keep1 d1 k5; have G1 := Lib.hid (And.intro (Ri.below R8d.out b1 (Nat.le_refl _)) r1); have D1 := Lib.hid d1; obtain ⟨pq1, bb1, oo1, cc1, rfl, rr1⟩ := r1; clear rr1 b1)
        | (go_at_call 32; (with_reducible refine (H_adj.out _ _ _ G1.out.1 G1.out.2).mono ?_); rintro e z2 ⟨v2, rfl, r2, b2⟩; have d2 := chain D1.out b2; have p4 := keep1 d2 k4; have p5 := keep1 d2 k5; have p6 := keepf d2 k4 k6; have p7 := keepf d2 k5 k7; have G2 := Lib.hid r2; have D2 := Lib.hid d2; obtain ⟨pq2, bb2, oo2, cq2, rfl, rr2⟩ := r2; clear rr2 b2)
        | fail)
    all_goals
      have ZZ := Lib.hid (T8.out.next D2.out)
      refine hMK _ _ (Met.intro (hRJ _ _ ?_))
      (repeat apply Exists.intro)
      refine ⟨?_, rfl⟩
      exact ⟨pq2, _, cq2, ZZ.out.set, G2.out.setq ZZ.out _ _, (T9.out.next D2.out).other (Nat.ne_of_gt hg89.out), below_set2 (chain D.out D2.out) (by have := hy2.out; have := Hsz.out; have := hw8.out; omega) _ _⟩
  obtain ⟨p8', n8', c8', T8, R8, T9, D⟩ := hcut
  clear k4 k5 k6 k7 R8d
  have R8d := Lib.hid (Ri.drew R8.out)
  have RXu := Lib.hid (Ri.below RX.out D.out (Nat.le_refl _))
  have RYd := Lib.hid (Ri.drew (Ri.below RY.out D.out (Nat.le_refl _)))
  obtain ⟨k0, k1, _⟩ := I1.out.next D.out
  obtain ⟨k2, k3, _⟩ := I2.out.next D.out
  obtain ⟨k4, k5, _⟩ := T8.out
  obtain ⟨k6, k7, k8, k9⟩ := T9.out
  obtain ⟨y5, hy5⟩ : ∃ y5 : World, y5 = wc := ⟨_, rfl⟩
  subst hy5
  go_upto_region 8 with (fail)
  go_cut [46] (fun _ wx => ∃ (p : Option Addr) (n c : Nat), Hid (ZC (.bool br1) (.slice p n c) wx g9) ∧ Hid (Rz wx (.slice p n c) r1) ∧ Hid (ZC (.bool bq1) (.slice p8' n8' c8') wx y2.heap.size) ∧ Hid (Rz wx (.slice p8' n8' c8') q1) ∧ Hid (Below w0.heap.size w0 wx))
  case first =>
    rename_i J0 K0 hRJ hMK
    go_region_with
      (first
        | (go_at_call 37; (with_reducible refine (H_mul2.out _ _ _ R8d.out RYd.out).mono ?_); rintro e z1 ⟨v1, rfl, rz1, b1⟩; have d1 := chain ((Below.refl y5.heap.size y5).drew) b1; have q0 := keep1 d1 k0; have q1 := keep1 d1 k1; have q2 := keep1 d1 k2; have q3 := keep1 d1 k3; have q4 := keep1 d1 k4; have q5 := keep1 d1 k5; have q6 := keep1 d1 k6; have q7 := keep1 d1 k7; have G1 := Lib.hid (And.intro (Ri.below RXu.out d1 (Nat.le_refl _)) rz1); have D1 := Lib.hid d1; obtain ⟨pq1, bb1, oo1, cc1, rfl, rr1⟩ := rz1; clear rr1 b1)
        | (go_at_call 33; (with_reducible refine (H_sub2.out _ _ _ G1.out.1 G1.out.2).mono ?_); rintro e z2 ⟨v2, rfl, rz2, b2⟩; have d2 := chain D1.out b2; have q0 := keep1 d2 k0; have q1 := keep1 d2 k1; have q2 := keep1 d2 k2; have q3 := keep1 d2 k3; have q4 := keep1 d2 k4; have q5 := keep1 d2 k5; have q6 := keep1 d2 k6; have q7 := keep1 d2 k7; have p8 := keepf d2 k6 k8; have p9' := keepf d2 k7 k9; have G2 := Lib.hid rz2; have D2 := Lib.hid d2; obtain ⟨pq2, bb2, oo2, cq2, rfl, rr2⟩ := rz2; clear rr2 b2)
        | fail)
    all_goals
      have ZZ := Lib.hid (T9.out.next D2.out)
      refine hMK _ _ (Met.intro (hRJ _ _ ?_))
      (repeat apply Exists.intro)
      refine ⟨?_, rfl⟩
      exact ⟨pq2, _, cq2, ZZ.out.set, G2.out.setq ZZ.out _ _, (T8.out.next D2.out).other (Nat.ne_of_lt hg89.out), (Ri.below R8.out D2.out (Nat.le_refl _)).setq ZZ.out _ _, below_set2 (chain D.out D2.out) (by have := hg9w.out; omega) _ _⟩
  obtain ⟨p9', n9', c9', T9, R9, T8, R8, D⟩ := hcut
  clear k0 k1 k2 k3 k4 k5 k6 k7 k8 k9 R8d RXu RYd
  obtain ⟨f0, f1, f2, f3⟩ := T8.out
  obtain ⟨f4, f5, f6, f7⟩ := T9.out
  obtain ⟨m0, m1, m2, m3⟩ := I3.out.next D.out
  obtain ⟨n0, n1, n2, n3⟩ := I4.out.next D.out
  obtain ⟨ja, jb, jc, jd, je, jf, jg, jh, _⟩ := far8q hy2.out
  obtain ⟨qa, qb, qc, qd, qe, qf, qg, qh, _⟩ := far8q hg9'.out
  have i5 := (I4.out.next D.out).other (g2 := w.heap.size + 1 + 1) (u := .bool bq1) (v := (.slice p8' n8' c8')) (by omega)
  have HZ := Lib.hid ((below_set2 (below_set2 (chain hb0.out D.out) (g := w.heap.size + 1 + 1) (by omega) (.bool bq1) (.slice p8' n8' c8')) (g := w.heap.size + 1 + 1 + 1) (by omega) (.bool br1) (.slice p9' n9' c9')).drew)
  have RQf := Lib.hid (Ri.drew ((R8.out.setq (I3.out.next D.out) (.bool bq1) (.slice p8' n8' c8')).setq i5 (.bool br1) (.slice p9' n9' c9')))
  have RRf := Lib.hid (Ri.drew ((R9.out.setq (I3.out.next D.out) (.bool bq1) (.slice p8' n8' c8')).setq i5 (.bool br1) (.slice p9' n9' c9')))
  clear i5
  go_wp2_with fail
  go_region
  go_wp2
  exact bodyPost_ret (v := .tuple #[.agg #[.bool bq1, (.slice p8' n8' c8')], .agg #[.bool br1, (.slice p9' n9' c9')]]) (by simp [results, Try.results39, go_sem, m0, m1, n0, n1]) rfl ⟨_, _, by rw [HQQ.out, HRR.out], RQf.out, RRf.out, HZ.out⟩
end Go.Proofs.Ytlmklhffafcmmaa

/- The reference's Quo: the Euclidean division of integers. -/
namespace Go.Proofs.Ytlmklhffafcmmaa
open Go.RowKit

theorem rquo_int (x y : Int) (v1 v2 : Value) (w : World) (k : Nat) (hk : k ≤ 90000) (hx : x.natAbs < D9 ^ k) (hy : y.natAbs < D9 ^ k) (h1 : Rz w v1 x) (h2 : Rz w v2 y) (hy0 : y ≠ 0) :
    Calls Try.prog 39 #[iV x v1, iV y v2] w (QIPost (x / y) (x % y) w) := by
  rcases Int.lt_or_le (x - q0 x y * y) 0 with hr | hr
  · rcases Int.lt_or_gt_of_ne hy0 with hs | hs
    · have h := rquo_neg2 x y v1 v2 w k hk hx hy h1 h2 hs hr
      obtain ⟨e1, e2⟩ := quo_neg2 hs hr
      rwa [e2, e1] at h
    · have h := rquo_neg1 x y v1 v2 w k hk hx hy h1 h2 hs hr
      obtain ⟨e1, e2⟩ := quo_neg1 hs hr
      rwa [e2, e1] at h
  · have h := rquo_pos x y v1 v2 w k hk hx hy h1 h2 hy0 hr
    obtain ⟨e1, e2⟩ := quo_pos hy0 hr
    rwa [e2, e1] at h
end Go.Proofs.Ytlmklhffafcmmaa

/- The law WideShifts gives true. -/
namespace Go.Proofs.Ytlmklhffafcmmaa
open Go.RowKit

theorem sg_shd (a : Bool) (m k : Nat) (h : a = true → 0 < m) : sg a (shd a m k) = sg a m / 2 ^ k := by
  have hp : (0 : Int) < ((2 ^ k : Nat) : Int) := by have := Nat.pow_pos (n := k) (show 0 < 2 by decide); omega
  have e2 : ((2 ^ k : Nat) : Int) = (2 : Int) ^ k := by simp
  rw [← e2]
  unfold sg shd
  cases a with
  | false => simp
  | true =>
    have hm := h rfl
    simp only [if_true]
    have hd := Nat.div_add_mod (m - 1) (2 ^ k)
    have hr := Nat.mod_lt (m - 1) (Nat.pow_pos (n := k) (show 0 < 2 by decide))
    generalize (m - 1) / 2 ^ k = q at *
    generalize (m - 1) % 2 ^ k = r at *
    generalize 2 ^ k = p at *
    have h3 : -(m : Int) = ((p : Int) - 1 - r) + p * (-((q + 1 : Nat) : Int)) := by
      have : ((p * q : Nat) : Int) = (p : Int) * (q : Int) := Int.natCast_mul _ _
      have h4 : (p : Int) * (-((q + 1 : Nat) : Int)) = -((p * q : Nat) : Int) - p := by push_cast; grind
      rw [h4]
      omega
    rw [h3, Int.add_mul_ediv_left _ _ (by omega), Int.ediv_eq_zero_of_lt (by omega) (by omega), Int.zero_add]
theorem shd_le (a : Bool) (m k : Nat) (h : a = true → 0 < m) : shd a m k ≤ m := by
  unfold shd
  split
  · next g =>
    have := h g
    have h2 := Nat.div_le_self (m - 1) (2 ^ k)
    omega
  · exact Nat.div_le_self _ _
theorem pos_sgn {a : Bool} {s : ByteArray} (h : vld a s = true) : a = true → 0 < bv s := by
  intro ha
  subst ha
  have hc := vld_can h
  rcases Nat.eq_zero_or_pos (bv s) with g | g
  · have h0 := (bv_zero_iff hc).1 g
    unfold vld at h
    rw [dif_neg (by omega)] at h
    simp at h
  · exact g
/-- Shift to the right, as integers. -/
theorem shr_z {a : Bool} {s : ByteArray} (hv : vld a s = true) (k : Nat) (y : Int) (hy : -y = (k : Int)) (hk : 1 ≤ k) (hk2 : k ≤ 65536) (w : World) :
    Calls Try.prog 40 #[.agg #[.bool a, .string s], .int .i64 y] w (fun e w' => e = .returned (.tuple #[.agg #[.bool (zb (sg a (bv s) / 2 ^ k)), .string (zs (sg a (bv s) / 2 ^ k))], .int .i64 0]) ∧ Below w.heap.size w w') := by
  have h := Shift_down a s k y hy hk hk2 w hv
  have ht : shd a (bv s) k < Top := Nat.lt_of_le_of_lt (shd_le a _ k (pos_sgn hv)) (bv_lt hv)
  unfold WPost at h
  rwa [wres_ok _ ht, werr_ok ht, wd_sg, sg_shd a _ k (pos_sgn hv)] at h
theorem sg_mul (a : Bool) (m k : Nat) : sg a (m * 2 ^ k) = sg a m * 2 ^ k := by
  cases a <;> simp [sg]
  rw [Int.neg_mul]
/-- Shift to the left, as integers. -/
theorem shl_z {a : Bool} {s : ByteArray} (hv : vld a s = true) (k : Nat) (hk2 : k ≤ 65536) (ht : bv s * 2 ^ k < Top) (w : World) :
    Calls Try.prog 40 #[.agg #[.bool a, .string s], .int .i64 (k : Int)] w (fun e w' => e = .returned (.tuple #[.agg #[.bool (zb (sg a (bv s) * 2 ^ k)), .string (zs (sg a (bv s) * 2 ^ k))], .int .i64 0]) ∧ Below w.heap.size w w') := by
  have h := Shift_up a s k hk2 w hv
  unfold WPost at h
  rwa [wres_ok _ ht, werr_ok ht, wd_sg, sg_mul] at h

set_option maxRecDepth 100000 in
set_option maxHeartbeats 8000000 in
theorem shifts_long (a : Bool) (s : ByteArray) (y : Int) (w : World) (hs : ¬ s.size ≤ 60) :
    Calls Try.prog 7 #[.agg #[.bool a, .string s], .int .i64 y] w (Ret (.bool true) w) := by
  have H_known := Lib.hid known_true
  obtain ⟨w0, hw0⟩ : ∃ w0 : World, w0 = (w.alloc (.cells #[.bool a, .string s] 23)).alloc (.cells #[.bool a, .string s] 23) := ⟨_, rfl⟩
  have hb0 : Hid (Below w.heap.size w w0) := by rw [hw0]; exact ((Below.refl _ _).alloc (Nat.le_refl _) _).alloc (by simp) _
  have I1 : Hid (ZC (.bool a) (.string s) w0 w.heap.size) := by rw [hw0]; exact (ZC.new rfl).alloc _
  have Hsz : Hid (w.heap.size + 2 ≤ w0.heap.size) := by rw [hw0]; show _ ≤ _; simp
  have HSH := short_any [(a, s)] 1 (w.heap.size + 1) w0 rfl (by decide) (by rw [hw0]; have := WL.one (w.alloc (.cells #[.bool a, .string s] 23)) a s 23; simpa using this)
  rw [short_false hs] at HSH
  have HSh := Lib.hid HSH
  have Hw0 := Lib.hid hw0
  clear HSH hw0
  unfold Ret at *
  unfold BPost at HSh
  go_enter Try.func7, Try.ntmps7
  go_wp2_with fail
  rw [← Hw0.out]
  refine HSh.out.mono ?_
  rintro e x0 ⟨rfl, b0⟩
  have D := Lib.hid b0
  clear b0
  obtain ⟨k0, k1, _⟩ := I1.out.next D.out
  go_wp2_with fail
  refine (H_known.out _).mono ?_
  rintro e x1 ⟨rfl, b1⟩
  have HZ := Lib.hid (chain hb0.out (chain D.out b1))
  clear b1
  go_wp2
  go_ret
  exact ⟨rfl, HZ.out⟩

set_option maxRecDepth 100000 in
set_option maxHeartbeats 8000000 in
theorem shifts_invalid (a : Bool) (s : ByteArray) (y : Int) (w : World) (z1 : s.size ≤ 60) (hv : vld a s = false) :
    Calls Try.prog 7 #[.agg #[.bool a, .string s], .int .i64 y] w (Ret (.bool true) w) := by
  have H_known := Lib.hid known_true
  obtain ⟨w0, hw0⟩ : ∃ w0 : World, w0 = (w.alloc (.cells #[.bool a, .string s] 23)).alloc (.cells #[.bool a, .string s] 23) := ⟨_, rfl⟩
  have hb0 : Hid (Below w.heap.size w w0) := by rw [hw0]; exact ((Below.refl _ _).alloc (Nat.le_refl _) _).alloc (by simp) _
  have I1 : Hid (ZC (.bool a) (.string s) w0 w.heap.size) := by rw [hw0]; exact (ZC.new rfl).alloc _
  have Hsz : Hid (w.heap.size + 2 ≤ w0.heap.size) := by rw [hw0]; show _ ≤ _; simp
  have HSH := short_any [(a, s)] 1 (w.heap.size + 1) w0 rfl (by decide) (by rw [hw0]; have := WL.one (w.alloc (.cells #[.bool a, .string s] 23)) a s 23; simpa using this)
  rw [short_true z1] at HSH
  have H_val := Lib.hid (fun g w h => valid_any [(a, s)] 1 g w rfl (by decide) h (by intro x hx; simp at hx; subst hx; show _ ≤ _; simp; omega))
  have v1 : validL [(a, s)] = false := by simp [validL, hv]
  rw [v1] at H_val
  unfold BPost at H_val
  have H_sh := Lib.hid (fun w => Shift_wrong a s y w (by omega) (Or.inl hv))
  rw [hv, if_neg (by simp), wd_none] at H_sh
  unfold WPost at H_sh
  clear hv v1
  have HSh := Lib.hid HSH
  have Hw0 := Lib.hid hw0
  clear HSH hw0
  unfold Ret at *
  unfold BPost at HSh
  go_enter Try.func7, Try.ntmps7
  go_wp2_with fail
  rw [← Hw0.out]
  refine HSh.out.mono ?_
  rintro e x0 ⟨rfl, b0⟩
  have D := Lib.hid b0
  clear b0
  obtain ⟨k0, k1, _⟩ := I1.out.next D.out
  go_wp2_with fail
  refine (H_sh.out _).mono ?_
  rintro e y4 ⟨rfl, b9⟩
  obtain ⟨n0, n1, _⟩ := I1.out.next (chain D.out b9)
  have j1 : w.heap.size < y4.heap.size := World.block_lt_of_cell? _ _ n0
  have j3 : ¬ w.heap.size = y4.heap.size := Nat.ne_of_lt j1
  obtain ⟨u4, hu4⟩ : ∃ u : World, u = y4.alloc (.cells #[.bool false, .string ⟨#[]⟩] 23) := ⟨_, rfl⟩
  have E : Hid (Below x0.heap.size x0 u4) := by rw [hu4]; exact b9.alloc b9.size _
  have D := Lib.hid (chain D.out E.out)
  have T4 : Hid (ZC (.bool false) (.string ⟨#[]⟩) u4 y4.heap.size) := by rw [hu4]; exact ZC.new rfl
  have HW4 : Hid (WL (u4.alloc (.cells #[.bool a, .string s] 23)) (y4.heap.size + 1) [(a, s)]) := by have := WL.one u4 a s 23; rwa [show u4.heap.size = y4.heap.size + 1 by rw [hu4]; simp] at this
  have Hu4 := Lib.hid hu4
  clear hu4 b9 E k0 k1
  obtain ⟨k0, k1, _⟩ := I1.out.next D.out
  obtain ⟨k2, k3, _⟩ := T4.out
  go_wp2_with fail
  rw [← Hu4.out]
  clear Hu4
  refine (H_val.out _ _ HW4.out).mono ?_
  rintro e y5 ⟨rfl, b9⟩
  have E := Lib.hid (chain (below_one u4 _) b9)
  have D := Lib.hid (chain D.out E.out)
  have T4 := Lib.hid (T4.out.next E.out)
  clear b9 E k0 k1 k2 k3 n0 n1 j1 j3
  obtain ⟨k0, k1, _⟩ := I1.out.next D.out
  obtain ⟨k2, k3, _⟩ := T4.out
  go_wp2_with fail
  refine (H_known.out _).mono ?_
  rintro e x1 ⟨rfl, b1⟩
  have HZ := Lib.hid (chain hb0.out (chain D.out b1))
  clear b1
  go_wp2
  go_ret
  exact ⟨rfl, HZ.out⟩

set_option maxRecDepth 100000 in
set_option maxHeartbeats 8000000 in
theorem shifts_range (a : Bool) (s : ByteArray) (y : Int) (w : World) (z1 : s.size ≤ 60) (hv : vld a s = true) (hy : y < -65536 ∨ 65536 < y) :
    Calls Try.prog 7 #[.agg #[.bool a, .string s], .int .i64 y] w (Ret (.bool true) w) := by
  have H_known := Lib.hid known_true
  obtain ⟨w0, hw0⟩ : ∃ w0 : World, w0 = (w.alloc (.cells #[.bool a, .string s] 23)).alloc (.cells #[.bool a, .string s] 23) := ⟨_, rfl⟩
  have hb0 : Hid (Below w.heap.size w w0) := by rw [hw0]; exact ((Below.refl _ _).alloc (Nat.le_refl _) _).alloc (by simp) _
  have I1 : Hid (ZC (.bool a) (.string s) w0 w.heap.size) := by rw [hw0]; exact (ZC.new rfl).alloc _
  have Hsz : Hid (w.heap.size + 2 ≤ w0.heap.size) := by rw [hw0]; show _ ≤ _; simp
  have HSH := short_any [(a, s)] 1 (w.heap.size + 1) w0 rfl (by decide) (by rw [hw0]; have := WL.one (w.alloc (.cells #[.bool a, .string s] 23)) a s 23; simpa using this)
  rw [short_true z1] at HSH
  have H_val := Lib.hid (fun g w h => valid_any [(a, s)] 1 g w rfl (by decide) h (by intro x hx; simp at hx; subst hx; show _ ≤ _; simp; omega))
  have v1 : validL [(a, s)] = true := by simp [validL, hv]
  rw [v1] at H_val
  unfold BPost at H_val
  have H_sh := Lib.hid (fun w => Shift_wrong a s y w (by omega) (Or.inr ⟨hv, hy⟩))
  rw [hv, if_pos rfl, wd_none] at H_sh
  unfold WPost at H_sh
  clear hv v1
  rcases hy with hy | hy
  · skip
    have HSh := Lib.hid HSH
    have Hw0 := Lib.hid hw0
    clear HSH hw0
    unfold Ret at *
    unfold BPost at HSh
    go_enter Try.func7, Try.ntmps7
    go_wp2_with fail
    rw [← Hw0.out]
    refine HSh.out.mono ?_
    rintro e x0 ⟨rfl, b0⟩
    have D := Lib.hid b0
    clear b0
    obtain ⟨k0, k1, _⟩ := I1.out.next D.out
    go_wp2_with fail
    refine (H_sh.out _).mono ?_
    rintro e y4 ⟨rfl, b9⟩
    obtain ⟨n0, n1, _⟩ := I1.out.next (chain D.out b9)
    have j1 : w.heap.size < y4.heap.size := World.block_lt_of_cell? _ _ n0
    have j3 : ¬ w.heap.size = y4.heap.size := Nat.ne_of_lt j1
    obtain ⟨u4, hu4⟩ : ∃ u : World, u = y4.alloc (.cells #[.bool false, .string ⟨#[]⟩] 23) := ⟨_, rfl⟩
    have E : Hid (Below x0.heap.size x0 u4) := by rw [hu4]; exact b9.alloc b9.size _
    have D := Lib.hid (chain D.out E.out)
    have T4 : Hid (ZC (.bool false) (.string ⟨#[]⟩) u4 y4.heap.size) := by rw [hu4]; exact ZC.new rfl
    have HW4 : Hid (WL (u4.alloc (.cells #[.bool a, .string s] 23)) (y4.heap.size + 1) [(a, s)]) := by have := WL.one u4 a s 23; rwa [show u4.heap.size = y4.heap.size + 1 by rw [hu4]; simp] at this
    have Hu4 := Lib.hid hu4
    clear hu4 b9 E k0 k1
    obtain ⟨k0, k1, _⟩ := I1.out.next D.out
    obtain ⟨k2, k3, _⟩ := T4.out
    go_wp2_with fail
    rw [← Hu4.out]
    clear Hu4
    refine (H_val.out _ _ HW4.out).mono ?_
    rintro e y5 ⟨rfl, b9⟩
    have E := Lib.hid (chain (below_one u4 _) b9)
    have D := Lib.hid (chain D.out E.out)
    have T4 := Lib.hid (T4.out.next E.out)
    clear b9 E k0 k1 k2 k3 n0 n1 j1 j3
    obtain ⟨k0, k1, _⟩ := I1.out.next D.out
    obtain ⟨k2, k3, _⟩ := T4.out
    go_wp2_with fail
    refine (H_known.out _).mono ?_
    rintro e x1 ⟨rfl, b1⟩
    have HZ := Lib.hid (chain hb0.out (chain D.out b1))
    clear b1
    go_wp2
    go_ret
    exact ⟨rfl, HZ.out⟩
  · have hy2 : ¬ y < -65536 := by omega
    have HSh := Lib.hid HSH
    have Hw0 := Lib.hid hw0
    clear HSH hw0
    unfold Ret at *
    unfold BPost at HSh
    go_enter Try.func7, Try.ntmps7
    go_wp2_with fail
    rw [← Hw0.out]
    refine HSh.out.mono ?_
    rintro e x0 ⟨rfl, b0⟩
    have D := Lib.hid b0
    clear b0
    obtain ⟨k0, k1, _⟩ := I1.out.next D.out
    go_wp2_with fail
    refine (H_sh.out _).mono ?_
    rintro e y4 ⟨rfl, b9⟩
    obtain ⟨n0, n1, _⟩ := I1.out.next (chain D.out b9)
    have j1 : w.heap.size < y4.heap.size := World.block_lt_of_cell? _ _ n0
    have j3 : ¬ w.heap.size = y4.heap.size := Nat.ne_of_lt j1
    obtain ⟨u4, hu4⟩ : ∃ u : World, u = y4.alloc (.cells #[.bool false, .string ⟨#[]⟩] 23) := ⟨_, rfl⟩
    have E : Hid (Below x0.heap.size x0 u4) := by rw [hu4]; exact b9.alloc b9.size _
    have D := Lib.hid (chain D.out E.out)
    have T4 : Hid (ZC (.bool false) (.string ⟨#[]⟩) u4 y4.heap.size) := by rw [hu4]; exact ZC.new rfl
    have HW4 : Hid (WL (u4.alloc (.cells #[.bool a, .string s] 23)) (y4.heap.size + 1) [(a, s)]) := by have := WL.one u4 a s 23; rwa [show u4.heap.size = y4.heap.size + 1 by rw [hu4]; simp] at this
    have Hu4 := Lib.hid hu4
    clear hu4 b9 E k0 k1
    obtain ⟨k0, k1, _⟩ := I1.out.next D.out
    obtain ⟨k2, k3, _⟩ := T4.out
    go_wp2_with fail
    rw [← Hu4.out]
    clear Hu4
    refine (H_val.out _ _ HW4.out).mono ?_
    rintro e y5 ⟨rfl, b9⟩
    have E := Lib.hid (chain (below_one u4 _) b9)
    have D := Lib.hid (chain D.out E.out)
    have T4 := Lib.hid (T4.out.next E.out)
    clear b9 E k0 k1 k2 k3 n0 n1 j1 j3
    obtain ⟨k0, k1, _⟩ := I1.out.next D.out
    obtain ⟨k2, k3, _⟩ := T4.out
    go_wp2_with fail
    refine (H_known.out _).mono ?_
    rintro e x1 ⟨rfl, b1⟩
    have HZ := Lib.hid (chain hb0.out (chain D.out b1))
    clear b1
    go_wp2
    go_ret
    exact ⟨rfl, HZ.out⟩
end Go.Proofs.Ytlmklhffafcmmaa

/- Limbs that may be written; a magnitude in memory of its own; wide.divideWord in place. -/
namespace Go.Proofs.Ytlmklhffafcmmaa
open Go.RowKit

/-- Cells that may be written. -/
def WrW (w : World) (g : Nat) (l : List Nat) : Prop := ∀ k (h : k < l.length), w.cell? ⟨g, k, none⟩ = some (.int .u64 (l[k] : Int)) ∧ w.frozen? ⟨g, k, none⟩ = false
theorem WrW.of_own {w : World} {B n : Nat} {g cap : Nat} {l : List Nat} (h : w.ownsRow B 81 1 (.slice (some ⟨g, 0, none⟩) n cap) n (uv l)) : WrW w g l := by
  intro k hk
  have h1 := h.cells (g := g) rfl k (.int .u64 (l[k] : Int)) (uv_get l k hk)
  have hadd : ((⟨g, 0, none⟩ : Addr).add k) = ⟨g, k, none⟩ := by unfold Addr.add; split <;> simp_all
  rw [hadd] at h1
  refine ⟨h1, ?_⟩
  rcases h.2 with ⟨h2, _⟩ | ⟨g2, cap2, cur, h2, hB, hg, _⟩
  · simp at h2
  · have : g2 = g := by injection h2 with h3; injection h3 with h4; injection h4 with h5; exact h5.symm
    subst this
    exact frozen_of_row w g2 k _ _ hg
theorem WrW.keep {w w' : World} {g : Nat} {l : List Nat} (h : WrW w g l) (he : w'.heap[g]? = w.heap[g]?) : WrW w' g l := fun k hk =>
  ⟨(World.cell?_of_block (a := ⟨g, k, none⟩) he).trans (h k hk).1, (World.frozen?_of_block (a := ⟨g, k, none⟩) he).trans (h k hk).2⟩
theorem WrW.lt {w : World} {g : Nat} {l : List Nat} (h : WrW w g l) (h0 : 0 < l.length) : g < w.heap.size := World.block_lt_of_cell? w _ (h 0 h0).1
theorem WrW.set {w : World} {g : Nat} {l : List Nat} (h : WrW w g l) (k n : Nat) : WrW (w.setCell ⟨g, k, none⟩ (.int .u64 (n : Int))) g (l.set k n) := by
  intro j hj
  have hj2 : j < l.length := by simpa using hj
  obtain ⟨h1, h2⟩ := h j hj2
  have hc := h1
  by_cases hjk : j = k
  · subst hjk
    refine ⟨?_, by simpa [go_sem] using h2⟩
    simp only [List.getElem_set_self]
    simp [go_sem, h1]
  · refine ⟨?_, by simpa [go_sem] using h2⟩
    rw [List.getElem_set_ne (fun e => hjk e.symm)]
    have hkj : ¬ k = j := fun e => hjk e.symm
    simp [go_sem, h1, hjk, hkj]
theorem WrW.take {w : World} {g : Nat} {l : List Nat} (h : WrW w g l) (n : Nat) : WrW w g (l.take n) := by
  intro k hk
  have hk2 : k < l.length := by simp at hk; omega
  rw [List.getElem_take]
  exact h k hk2
theorem WrW.trim {w : World} {g : Nat} {l : List Nat} (h : WrW w g l) : WrW w g (Nm.trimL l) := by
  rw [Nm.trimL_is_take l]
  exact h.take _
theorem WrW.rd {w : World} {g cap : Nat} {l : List Nat} (h : WrW w g l) (hg : g < w.heap.size) (h1 : l.length ≤ cap) (h2 : cap ≤ maxLen) : Rd w (.slice (some ⟨g, 0, none⟩) l.length cap) l :=
  ⟨some ⟨g, 0, none⟩, g, 0, cap, rfl, h1, h2, fun _ => rfl, Or.inr ⟨rfl, hg⟩, fun k hk => by rw [Nat.zero_add]; exact (h k hk).1⟩


def OwnNum (s : Bool) (n : Nat) (w : World) (e : Ending) (w' : World) : Prop :=
  ∃ g cap, e = .returned (.agg #[.bool s, .slice (some ⟨g, 0, none⟩) (Nm.dg W n).length cap]) ∧ WrW w' g (Nm.dg W n) ∧ w.heap.size ≤ g ∧ g < w'.heap.size ∧ (Nm.dg W n).length ≤ cap ∧ cap ≤ maxLen ∧ Below w.heap.size w w'

set_option maxRecDepth 100000 in
set_option maxHeartbeats 1000000 in
theorem read_own (a : Bool) (s : ByteArray) (w : World) (hs : s.size ≤ 1000000) (hcan : Can s) :
    Calls Try.prog 63 #[.agg #[.bool a, .string s]] w (OwnNum a (bv s) w) := by
  obtain ⟨cp, hcp⟩ : ∃ cp : Nat, (s.size + 7) / 8 = cp := ⟨_, rfl⟩
  have hdiv : ((s.size : Int) + 8 - 1) / 8 = (cp : Int) := by omega
  have hmk := mk_limbs0 cp (by omega)
  have Hcp := Lib.hid hcp
  have Hcan := Lib.hid hcan
  clear hcp hcan
  go_enter Try.func63, Try.ntmps63
  go_wp2
  clear hmk hdiv
  have hi81 : (Try.prog.info? 81).map (fun i => (i.zero, i.size, i.bytes)) = some (some (.int .u64 0), 1, 8) := by kernel_rfl
  obtain ⟨i0, hi0, hz0, hz1, hz2⟩ := info_parts hi81
  have HI := Lib.hid (And.intro hi0 hz1)
  clear hi81 hi0 hz0 hz1 hz2
  go_loopw [3, 4] (fun v e wr => ∃ k xs, 8 * k ≤ s.size + 7 ∧ k ≤ cp ∧ e = .int .i64 ((s.size : Int) - 8 * (k : Nat)) ∧ v = .slice (some ⟨w.heap.size + 1 + 1, 0, none⟩) k cp ∧ Hid (RdInv s k xs) ∧
      Hid (wr.ownsRow (w.heap.size + 1 + 1) 81 1 (.slice (some ⟨w.heap.size + 1 + 1, 0, none⟩) k cp) k (uv xs)) ∧ Hid (Below (w.heap.size + 1 + 1) ((w.alloc (.cells #[.bool a, .string s] 23)).alloc (.cells #[.bool false, .slice none 0 0] 86)) wr))
    (fun _ e _ => (intOf e).toNat)
  case atStart =>
    refine ⟨0, [], by omega, Nat.zero_le _, by simp, rfl, ⟨rfl, Nm.dig_nil W, by simp [Nm.val]⟩, ?_, (Below.refl _ _).alloc (Nat.le_of_eq (by simp)) _⟩
    have h6 := World.ownsRow_made (base := w.heap.size + 1 + 1) (e := 81) (size := 1) ((w.alloc (.cells #[.bool a, .string s] 23)).alloc (.cells #[.bool false, .slice none 0 0] 86)) (uv (List.replicate cp 0)).toArray cp (by simp) (by have h5 : (s.size + 7) / 8 = cp := Hcp.out; unfold maxLen; omega) (by simp [uv])
    have e0 : ((w.alloc (.cells #[.bool a, .string s] 23)).alloc (.cells #[.bool false, .slice none 0 0] 86)).heap.size = w.heap.size + 1 + 1 := by simp
    rw [e0] at h6
    exact h6
  case round =>
    obtain ⟨k, xs, hk, hkc, rfl, rfl, hinv, hown, hbl⟩ := hrel
    have f0 : wr.cell? ⟨w.heap.size, 0, none⟩ = some (.bool a) := (hbl.out.cell (p := ⟨w.heap.size, 0, none⟩) (by simp; omega)).trans (by simp [go_sem])
    have f1 : wr.cell? ⟨w.heap.size, 1, none⟩ = some (.string s) := (hbl.out.cell (p := ⟨w.heap.size, 1, none⟩) (by simp; omega)).trans (by simp [go_sem])
    by_cases hpos : 8 * k < s.size
    · obtain ⟨e, he⟩ : ∃ e : Nat, e + 8 * k = s.size := ⟨s.size - 8 * k, by omega⟩
      rw [show (s.size : Int) - 8 * (k : Nat) = (e : Int) by omega]
      have he1 : 0 < e := by omega
      have he2 : e ≤ s.size := by omega
      have HE := Lib.hid he
      clear he
      go_wp2_with fail
      rw [show (max ((e : Int) - 8) 0).toNat = e - 8 by omega]
      refine (toWord_any (s.extract (e - 8) e) _ (by simp; omega)).mono ?_
      rintro e2 w' ⟨rfl, rfl⟩
      have hk2 : k + 1 ≤ cp := by have h5 : (s.size + 7) / 8 = cp := Hcp.out; omega
      have hst : Hid (RdInv s (k + 1) (xs ++ [bv (s.extract (e - 8) e)])) := hinv.out.step (by omega) HE.out (by omega) (by omega)
      generalize bv (s.extract (e - 8) e) = x at *
      have hsz : w.heap.size + 1 + 1 ≤ wr.heap.size := by have h5 := hbl.out.size; simpa using h5
      go_wp2_with (at_builtin; refine wpList_append_fits _ rfl _ _ 84 rfl (w.heap.size + 1 + 1) 81 i0 1 Try.underlying84 HI.out.1 HI.out.2 (w.heap.size + 1 + 1) k cp (uv xs) rfl (hown.out.alloc _) ⟨wr.heap.size, 0, none⟩ 1 1 [.int .u64 (x : Int)] rfl rfl ?c1 ?c2 ?c3 ?_)
      case c1 =>
        intro j u hj
        match j, hj with
        | 0, hj => simp at hj; subst hj; simp [Addr.add]
      case c2 => intro u hu; simp at hu; subst hu; rfl
      case c3 => exact hk2
      intro w1 hown1 hgrow1
      have hbl1 : Hid (Below (w.heap.size + 1 + 1) ((w.alloc (.cells #[.bool a, .string s] 23)).alloc (.cells #[.bool false, .slice none 0 0] 86)) w1) :=
        (hbl.out.alloc hsz _).grown hgrow1 (by simp; omega) (fun q hq => by have := Option.some.inj hq; omega)
      have hown2 : Hid (w1.ownsRow (w.heap.size + 1 + 1) 81 1 (.slice (some ⟨w.heap.size + 1 + 1, 0, none⟩) (k + 1) cp) (k + 1) (uv (xs ++ [x]))) := by
        show World.ownsRow _ _ _ _ _ _ _
        rw [show uv (xs ++ [x]) = uv xs ++ [Value.int .u64 (x : Int)] by simp [uv]]
        exact hown1
      clear hown1 hgrow1 hbl hown hinv f0 f1
      have HE2 : Hid ((e : Int) - 8 = (s.size : Int) - 8 * ((k + 1 : Nat) : Int)) := by
        show _ = _
        have h5 : e + 8 * k = s.size := HE.out
        omega
      go_wp2
      go_roundw
      case rel => exact ⟨k + 1, xs ++ [x], by have h5 : e + 8 * k = s.size := HE.out; omega, hk2, by rw [HE2.out], rfl, hst, hown2, hbl1⟩
      case measure => simp [intOf]; omega
    · have g0 : wr.cell? ⟨w.heap.size + 1, 0, none⟩ = some (.bool false) := (hbl.out.cell (p := ⟨w.heap.size + 1, 0, none⟩) (by simp)).trans (by simp [go_sem])
      have g1 : wr.cell? ⟨w.heap.size + 1, 1, none⟩ = some (.slice none 0 0) := (hbl.out.cell (p := ⟨w.heap.size + 1, 1, none⟩) (by simp)).trans (by simp [go_sem])
      have g2 : wr.frozen? ⟨w.heap.size + 1, 0, none⟩ = false := (hbl.out.frozen (p := ⟨w.heap.size + 1, 0, none⟩) (by simp)).trans (by simp [go_sem])
      have g3 : wr.frozen? ⟨w.heap.size + 1, 1, none⟩ = false := (hbl.out.frozen (p := ⟨w.heap.size + 1, 1, none⟩) (by simp)).trans (by simp [go_sem])
      have hneg : ¬ (0 : Int) < (s.size : Int) - 8 * (k : Nat) := by omega
      have HX : Hid (xs = Nm.dg W (bv s)) := by
        obtain ⟨i1, i2, i3⟩ := hinv.out
        have i4 : Nm.val W xs = bv s := by rw [i3, List.take_of_length_le (by rw [rev_length]; omega)]; rfl
        show xs = _
        rw [← i4]
        refine Nm.eq_dg W2 i2 ?_
        rcases Nat.eq_zero_or_pos s.size with h0 | h0
        · have hk0 : k = 0 := by omega
          have hx0 : xs = [] := List.eq_nil_of_length_eq_zero (by omega)
          rw [hx0]; trivial
        · refine Nm.nrm_of_val i2 ?_
          rw [i4, i1, W_bytes]
          have h6 := Nm.val_pos (B := 256) (nrm_rev s Hcan.out) (by intro e0; have := rev_length s; rw [e0] at this; simp at this; omega)
          rw [rev_length] at h6
          exact Nat.le_trans (Nat.pow_le_pow_right (by decide) (by omega)) h6
      have i1 := hinv.out.1
      have HWr : Hid (WrW wr (w.heap.size + 1 + 1) (Nm.dg W (bv s))) := by
        show WrW _ _ _
        rw [← HX.out]
        have ho := hown.out
        exact WrW.of_own ho
      have HLN : Hid (k = (Nm.dg W (bv s)).length) := by show _ = _; rw [← HX.out, i1]
      have HCB : Hid (k ≤ cp ∧ cp ≤ maxLen ∧ w.heap.size + 1 + 1 < wr.heap.size) := ⟨hkc, by have h5 : (s.size + 7) / 8 = cp := Hcp.out; unfold maxLen; omega, (hown.out.lt _ rfl).2⟩
      have HB : Hid (Below w.heap.size w wr) := (((Below.refl _ _).alloc (Nat.le_refl _) _).alloc (by simp) _).trans (hbl.out.mono (by omega))
      clear hbl hown hinv
      go_wp2
      exact bodyPost_ret (v := .agg #[.bool a, .slice (some ⟨w.heap.size + 1 + 1, 0, none⟩) k cp]) (by simp [results, Try.results63, go_sem, g0, g1]) rfl
        ⟨w.heap.size + 1 + 1, cp, by rw [← HLN.out], (HWr.out.keep (heap_setCell_other wr ⟨w.heap.size + 1, 0, none⟩ (w.heap.size + 1 + 1) (.bool a) (by simp))).keep (heap_setCell_other _ ⟨w.heap.size + 1, 1, none⟩ (w.heap.size + 1 + 1) _ (by simp)), by omega, by simpa [World.setCell] using HCB.out.2.2, by rw [← HLN.out]; exact HCB.out.1, HCB.out.2.1, (HB.out.setCell (p := ⟨w.heap.size + 1, 0, none⟩) (by simp) _).setCell (p := ⟨w.heap.size + 1, 1, none⟩) (by simp) _⟩

/-- In place. -/
def DwiPost (g : Nat) (X : List Nat) (y : Nat) (w : World) (e : Ending) (w' : World) : Prop :=
  ∃ t, e = .returned (.int .u64 ((Nm.val W X % y : Nat) : Int)) ∧ t.length = X.length ∧ Nm.Dig W t ∧ Nm.val W t = Nm.val W X / y ∧ WrW w' g t ∧ Only g w w'

set_option maxRecDepth 100000 in
set_option maxHeartbeats 1000000 in
theorem divideWord_in (X : List Nat) (g cap y : Nat) (w : World) (hX : X.length ≤ 1000000000) (harr : WrW w g X) (d1 : Nm.Dig W X) (dy : y < W) (hy0 : 0 < y) :
    Calls Try.prog 102 #[.slice (some ⟨g, 0, none⟩) X.length cap, .slice (some ⟨g, 0, none⟩) X.length cap, .int .u64 (y : Int)] w (DwiPost g X y w) := by
  go_enter Try.func102, Try.ntmps102
  have H0 := Lib.hid harr
  clear harr
  go_wp2
  go_loopw [7, 8] (fun rv i wr => ∃ k r t, k ≤ X.length ∧ i = .int .i64 ((k : Nat) - 1 : Int) ∧ rv = .int .u64 (r : Nat) ∧ DwInv X y k r t ∧ WrW wr g (X.take k ++ t) ∧ Only g w wr)
    (fun _ i _ => (intOf i + 1).toNat)
  case atStart =>
    exact ⟨X.length, 0, [], Nat.le_refl _, rfl, rfl, ⟨by simp, Nm.dig_nil W, hy0, by rw [List.drop_of_length_le (Nat.le_refl _)]; simp [Nm.val]⟩, by simpa using H0.out, Only.refl g w⟩
  case round =>
    clear H0
    obtain ⟨k, r, t, hk, rfl, rfl, hinv, harr, honly⟩ := hrel
    rcases Nat.eq_zero_or_pos k with h0 | h0
    · subst h0
      have Hinv := Lib.hid hinv
      have HA := Lib.hid harr
      have Ho := Lib.hid honly
      clear hinv harr honly
      go_wp2
      go_ret
      obtain ⟨h1, h2, h3, h4⟩ := Hinv.out
      refine ⟨t, by rw [← Hinv.out.finish.1]; rfl, by omega, h2, Hinv.out.finish.2, by simpa using HA.out, Ho.out⟩
    · obtain ⟨j, rfl⟩ : ∃ j, k = j + 1 := ⟨k - 1, by omega⟩
      have hj : j < X.length := by omega
      have hjl : j < (X.take (j + 1) ++ t).length := by simp; omega
      obtain ⟨e1, e4⟩ := harr j hjl
      have hge : (X.take (j + 1) ++ t)[j] = X[j] := by rw [List.getElem_append_left (by simp; omega), List.getElem_take]
      rw [hge] at e1
      have HC := Lib.hid (div64_any r X[j] y hinv.2.2.1 (Nm.dig_get d1 j hj) dy)
      have Hinv := Lib.hid (hinv.step hj (Nm.dig_get d1 j hj))
      have HA := harr.set j ((r * W + X[j]) / y)
      rw [List.set_append_left _ _ (by simp; omega), List.take_succ_eq_append_getElem (by omega), List.set_append_right _ _ (by simp; omega)] at HA
      have e5 : j - (X.take j).length = 0 := by simp; omega
      rw [e5, List.set_cons_zero, List.append_assoc] at HA
      have HA2 : Hid (WrW (wr.setCell ⟨g, j, none⟩ (.int .u64 (((r * W + X[j]) / y : Nat) : Int))) g (X.take j ++ ((r * W + X[j]) / y) :: t)) := HA
      have Ho := Lib.hid (honly.setCell j (.int .u64 (((r * W + X[j]) / y : Nat) : Int)))
      clear hinv harr honly hjl HA e5 hge
      rw [show ((j + 1 : Nat) : Int) - 1 = (j : Int) by omega]
      generalize (r * W + X[j]) / y = q at *
      generalize (r * W + X[j]) % y = r2 at *
      go_wp2_with fail
      refine (HC.out _).mono ?_
      rintro e w' ⟨rfl, n, rfl⟩
      have e6 : (wr.drewN n).cell? ⟨g, j, none⟩ = some (.int .u64 (X[j] : Int)) := e1
      have e7 : (wr.drewN n).frozen? ⟨g, j, none⟩ = false := e4
      go_wp2
      go_roundw
      case rel => exact ⟨j, _, _, by omega, by go_num, rfl, Hinv.out, HA2.out, Ho.out.drewN n⟩
      case measure => simp [intOf]

theorem trim_in (g cap : Nat) (xs : List Nat) (w : World) (h : WrW w g xs) (h2 : xs.length ≤ cap) (h3 : cap ≤ maxLen) : Calls Try.prog 101 #[.slice (some ⟨g, 0, none⟩) xs.length cap] w fun e w' =>
      e = .returned (.slice (some ⟨g, 0, none⟩) (Nm.trimL xs).length cap) ∧ w = w' :=
  trim_some g 0 cap xs w h2 h3 (fun k hk => by rw [Nat.zero_add]; exact (h k hk).1)
end Go.Proofs.Ytlmklhffafcmmaa

/- Knuth's guess of a digit of a quotient: plain facts. -/
namespace Go.Proofs.Ytlmklhffafcmmaa
open Go.RowKit

/-- The guess. -/
def gs (h m f s : Nat) : Nat := if f ≤ h then W - 1 else if (h * W + m) % f < (h * W + m) / f * s / W then (h * W + m) / f - 1 else (h * W + m) / f

/-- The guess is the digit, or greater by 1. B: the base; H: the weight of the limbs that the guess doesn't see. -/
theorem guess_ok {B H U V h m l f s u v : Nat} (hU : U = ((h * B + m) * B + l) * H + u) (hV : V = (f * B + s) * H + v) (hu : u < H) (hv : v < H) (hl : l < B) (hm : m < B) (hs : s < B) (hf : B ≤ 2 * f) (hB : 4 ≤ B) (hlt : U < V * B)
    {g : Nat} (hg : g = if f ≤ h then B - 1 else if (h * B + m) % f < (h * B + m) / f * s / B then (h * B + m) / f - 1 else (h * B + m) / f) : U / V ≤ g ∧ g ≤ U / V + 1 ∧ g < B := by
  have hH : 0 < H := by omega
  have hB0 : 0 < B := by omega
  have hfp : 0 < f := by omega
  have hVp : 0 < V := by
    rw [hV]
    have : 0 < (f * B + s) * H := Nat.mul_pos (Nat.add_pos_left (Nat.mul_pos hfp hB0) _) hH
    omega
  have hqB : U / V < B := by rw [Nat.div_lt_iff_lt_mul hVp, Nat.mul_comm]; exact hlt
  have hlo : ∀ t, t * V ≤ U → t ≤ U / V := fun t ht => (Nat.le_div_iff_mul_le hVp).2 ht
  have hup : ∀ t, U < t * V → U / V < t := fun t ht => (Nat.div_lt_iff_lt_mul hVp).2 ht
  generalize U / V = q at *
  -- V is less than (f + 1) B H, and U at least (h B + m) B H
  have hV2 : V ≤ (f + 1) * (B * H) := by
    have h1 : (f * B + s + 1) * H ≤ (f * B + B) * H := Nat.mul_le_mul_right _ (by omega)
    have h2 : (f * B + B) * H = (f + 1) * (B * H) := by grind
    rw [Nat.add_mul, Nat.one_mul] at h1
    omega
  have hU2 : (h * B + m) * (B * H) ≤ U := by
    have h1 : (h * B + m) * B * H ≤ ((h * B + m) * B + l) * H := Nat.mul_le_mul_right _ (by omega)
    rw [Nat.mul_assoc] at h1
    omega
  by_cases c1 : f ≤ h
  · rw [if_pos c1] at hg
    subst hg
    refine ⟨by omega, ?_, by omega⟩
    have : B - 2 ≤ q := by
      refine hlo _ ?_
      have h1 : (B - 2) * V ≤ (B - 2) * ((f + 1) * (B * H)) := Nat.mul_le_mul_left _ hV2
      have h2 : (B - 2) * (f + 1) ≤ h * B + m := by
        obtain ⟨C, rfl⟩ : ∃ C, B = C + 2 := ⟨B - 2, by omega⟩
        have h3 : f * (C + 2) ≤ h * (C + 2) := Nat.mul_le_mul_right _ c1
        have h4 : (C + 2 - 2) * (f + 1) = f * C + C := by rw [Nat.add_sub_cancel]; grind
        rw [Nat.mul_add] at h3
        omega
      have h3 : (B - 2) * (f + 1) * (B * H) ≤ (h * B + m) * (B * H) := Nat.mul_le_mul_right _ h2
      rw [Nat.mul_assoc] at h3
      omega
    omega
  · rw [if_neg c1] at hg
    have hd := Nat.div_add_mod (h * B + m) f
    have hr := Nat.mod_lt (h * B + m) hfp
    have hdB : (h * B + m) / f < B := by
      rw [Nat.div_lt_iff_lt_mul hfp]
      have : (h + 1) * B ≤ f * B := Nat.mul_le_mul_right _ (by omega)
      rw [Nat.add_mul, Nat.one_mul] at this
      rw [Nat.mul_comm B f]
      omega
    generalize (h * B + m) / f = d at *
    generalize (h * B + m) % f = r at *
    have hd2 : d * f + r = h * B + m := by rw [Nat.mul_comm]; exact hd
    clear hd
    -- the digit is at most d
    have hqd : q ≤ d := by
      refine Nat.lt_succ_iff.1 (hup _ ?_)
      have e1 : U < (h * B + m + 1) * (B * H) := by
        have h1 : ((h * B + m) * B + l + 1) * H ≤ ((h * B + m) * B + B) * H := Nat.mul_le_mul_right _ (by omega)
        have h2 : ((h * B + m) * B + B) * H = (h * B + m + 1) * (B * H) := by grind
        rw [Nat.add_mul, Nat.one_mul] at h1
        omega
      have e2 : (h * B + m + 1) * (B * H) ≤ ((d + 1) * f) * (B * H) := Nat.mul_le_mul_right _ (by rw [Nat.add_mul, Nat.one_mul]; omega)
      have e3 : (d + 1) * f * (B * H) ≤ (d + 1) * V := by
        rw [Nat.mul_assoc]
        refine Nat.mul_le_mul_left _ ?_
        have : f * (B * H) = f * B * H := by rw [Nat.mul_assoc]
        rw [this, hV, Nat.add_mul]
        omega
      show U < (d + 1) * V
      omega
    by_cases c2 : r < d * s / B
    · rw [if_pos c2] at hg
      have h1 : (r + 1) * B ≤ d * s := (Nat.le_div_iff_mul_le hB0).1 c2
      -- d is too great
      have hlt2 : U < d * V := by
        have e1 : U < (h * B + m + 1) * (B * H) := by
          have h1 : ((h * B + m) * B + l + 1) * H ≤ ((h * B + m) * B + B) * H := Nat.mul_le_mul_right _ (by omega)
          have h2 : ((h * B + m) * B + B) * H = (h * B + m + 1) * (B * H) := by grind
          rw [Nat.add_mul, Nat.one_mul] at h1
          omega
        have e2 : (h * B + m + 1) * B ≤ d * (f * B + s) := by
          have : d * (f * B + s) = d * f * B + d * s := by grind
          have e4 : (h * B + m + 1) * B = d * f * B + (r + 1) * B := by rw [← hd2]; grind
          omega
        have e3 : (h * B + m + 1) * B * H ≤ d * (f * B + s) * H := Nat.mul_le_mul_right _ e2
        have e4 : d * ((f * B + s) * H) ≤ d * V := Nat.mul_le_mul_left _ (by omega)
        rw [← Nat.mul_assoc] at e1 e4
        omega
      have hq : q < d := hup _ hlt2
      have hq2 : d ≤ q + 2 := by
        rcases Nat.lt_or_ge d 2 with g1 | g1
        · omega
        · have : d - 2 ≤ q := by
            refine hlo _ ?_
            have e1 : (d - 2) * V ≤ (d - 2) * ((f + 1) * (B * H)) := Nat.mul_le_mul_left _ hV2
            have e2 : (d - 2) * (f + 1) ≤ h * B + m := by
              obtain ⟨c, rfl⟩ : ∃ c, d = c + 2 := ⟨d - 2, by omega⟩
              rw [Nat.add_sub_cancel]
              have : (c + 2) * f = c * f + 2 * f := Nat.add_mul c 2 f
              have : c * (f + 1) = c * f + c := by rw [Nat.mul_add, Nat.mul_one]
              omega
            have e3 : (d - 2) * (f + 1) * (B * H) ≤ (h * B + m) * (B * H) := Nat.mul_le_mul_right _ e2
            rw [Nat.mul_assoc] at e3
            omega
          omega
      rw [hg]
      exact ⟨by omega, by omega, by omega⟩
    · rw [if_neg c2] at hg
      rw [hg]
      refine ⟨hqd, ?_, hdB⟩
      rcases Nat.eq_zero_or_pos d with g0 | g0
      · omega
      · have : d - 1 ≤ q := by
          refine hlo _ ?_
          have h1 : d * s < (r + 1) * B := by
            have := Nat.not_lt.1 c2
            rw [← Nat.lt_succ_iff, Nat.div_lt_iff_lt_mul hB0] at this
            exact this
          have e1 : (d - 1) * V ≤ (d - 1) * ((f * B + s + 1) * H) := Nat.mul_le_mul_left _ (by rw [hV, Nat.add_mul (f * B + s) 1 H]; omega)
          have e2 : (d - 1) * (f * B + s + 1) ≤ (h * B + m) * B := by
            obtain ⟨c, rfl⟩ : ∃ c, d = c + 1 := ⟨d - 1, by omega⟩
            rw [Nat.add_sub_cancel]
            have t1 : c * (f * B + s + 1) = c * f * B + c * s + c := by grind
            have t2 : (c + 1) * s = c * s + s := by grind
            have t3 : (h * B + m) * B = c * f * B + f * B + r * B := by rw [← hd2]; grind
            have t4 : (r + 1) * B = r * B + B := by grind
            have t5 : 2 * B ≤ f * B := Nat.mul_le_mul_right _ (by omega)
            omega
          have e3 : (d - 1) * (f * B + s + 1) * H ≤ (h * B + m) * B * H := Nat.mul_le_mul_right _ e2
          rw [Nat.mul_assoc, Nat.mul_assoc (h * B + m)] at e3
          omega
        omega
end Go.Proofs.Ytlmklhffafcmmaa

/- The functions wide.guessDigit and wide.subProduct. -/
namespace Go.Proofs.Ytlmklhffafcmmaa
open Go.RowKit

theorem wrap_dec1 (q : Nat) (h : 1 ≤ q) (hq : q < W) : IntKind.u64.wrap ((q : Int) - 1) = ((q - 1 : Nat) : Int) := by
  rw [← wrap_nat (q - 1) (by omega)]
  congr 1
  omega

set_option maxRecDepth 100000 in
set_option maxHeartbeats 1000000 in
theorem guessDigit_any (h m f s : Nat) (hm : m < W) (hf : f < W) (hs : s < W) (h0 : 0 < f) (w : World) :
    Calls Try.prog 122 #[.int .u64 (h : Int), .int .u64 (m : Int), .int .u64 (f : Int), .int .u64 (s : Int)] w (RwPost (gs h m f s) w) := by
  unfold gs
  by_cases c1 : f ≤ h
  · rw [if_pos c1]
    have c2 : (f : Int) ≤ (h : Int) := by omega
    go_enter Try.func122, Try.ntmps122
    go_wp2
    go_ret
    exact ⟨by unfold W; rfl, 0, rfl⟩
  · rw [if_neg c1]
    have c2 : (h : Int) < (f : Int) := by omega
    have HC := Lib.hid (div64_any h m f (by omega) hm hf)
    have hd : (h * W + m) / f < W := quo_lt (by omega) hm
    have hr : (h * W + m) % f < f := Nat.mod_lt _ h0
    generalize (h * W + m) / f = d at *
    generalize (h * W + m) % f = r at *
    have HM := Lib.hid (mul64 d s hd hs)
    unfold m1 at HM
    have hpos : r < d * s / W → 1 ≤ d := by
      intro c
      rcases Nat.eq_zero_or_pos d with g | g
      · subst g; simp at c
      · exact g
    generalize d * s / W = t at *
    generalize m0 d s = t0 at *
    have H2 := Lib.hid hd
    by_cases c3 : r < t
    · rw [if_pos c3]
      have c4 : (r : Int) < (t : Int) := by omega
      have H1 := Lib.hid (hpos c3)
      clear hpos hd hm hf hs c1 hr
      go_enter Try.func122, Try.ntmps122
      go_wp2_with fail
      refine (HC.out _).mono ?_
      rintro e w' ⟨rfl, n, rfl⟩
      go_wp2_with fail
      refine (HM.out _).mono ?_
      rintro e w' ⟨rfl, rfl⟩
      go_wp2
      go_ret
      exact ⟨by rw [wrap_dec1 d H1.out H2.out]; rfl, n, rfl⟩
    · rw [if_neg c3]
      have c4 : (t : Int) ≤ (r : Int) := by omega
      clear hpos hd hm hf hs c1 hr
      go_enter Try.func122, Try.ntmps122
      go_wp2_with fail
      refine (HC.out _).mono ?_
      rintro e w' ⟨rfl, n, rfl⟩
      go_wp2_with fail
      refine (HM.out _).mono ?_
      rintro e w' ⟨rfl, rfl⟩
      go_wp2
      go_ret
      exact ⟨rfl, n, rfl⟩

/-- What stands behind k rounds of subProduct in the segment, with what is missing beyond it. -/
def SubPInv (l X : List Nat) (off y k c : Nat) (s : List Nat) : Prop :=
  s.length = k ∧ Nm.Dig W s ∧ c < W ∧ Nm.val W s + Nm.val W (X.take k) * y = Nm.val W ((l.drop off).take k) + W ^ k * c

theorem sub_room (a b c o : Nat) (ha : a < W) (hb : b < W) (hc : c < W) (ho : o < W) : mh a b c + bw o (ml a b c) 0 < W := by
  have h1 := mlh a b c
  have h2 := df_bw o (ml a b c) 0 ho (ml_lt a b c) (by decide)
  have h3 : a * b ≤ (W - 1) * (W - 1) := Nat.mul_le_mul (by omega) (by omega)
  have h4 := df_lt o (ml a b c) 0
  generalize mh a b c = p at *
  generalize ml a b c = q at *
  generalize bw o q 0 = r at *
  generalize df o q 0 = s at *
  unfold W at *
  omega

theorem SubPInv.step {l X s : List Nat} {off y k c : Nat} (h : SubPInv l X off y k c s) (hk : off + k < l.length) (hX : k < X.length) (dx : X[k] < W) (dy : y < W) (dl : l[off + k] < W) :
    SubPInv l X off y (k + 1) (mh X[k] y c + bw l[off + k] (ml X[k] y c) 0) (s ++ [df l[off + k] (ml X[k] y c) 0]) := by
  obtain ⟨h1, h2, h3, h4⟩ := h
  refine ⟨by simp [h1], Nm.dig_append.2 ⟨h2, Nm.dig_cons.2 ⟨df_lt _ _ _, Nm.dig_nil W⟩⟩, sub_room _ _ _ _ dx dy h3 dl, ?_⟩
  have hd : k < (l.drop off).length := by simp; omega
  rw [Nm.val_snoc, h1, Nm.val_take_succ W _ k hd, Nm.val_take_succ W X k hX, List.getElem_drop, Nat.pow_succ]
  have e1 := mlh X[k] y c
  have e2 := df_bw l[off + k] (ml X[k] y c) 0 dl (ml_lt _ _ _) (by decide)
  generalize mh X[k] y c = p at *
  generalize ml X[k] y c = q at *
  generalize bw l[off + k] q 0 = r at *
  generalize df l[off + k] q 0 = t at *
  generalize W ^ k = P at *
  have e3 : P * (t + q) = P * (l[off + k] + W * r) := by rw [← e2]; rfl
  have e4 : P * (q + W * p) = P * (X[k] * y + c) := by rw [e1]
  grind

def SubPPost (g : Nat) (l X : List Nat) (off y : Nat) (w : World) (e : Ending) (w' : World) : Prop :=
  ∃ s c, e = .returned (.int .u64 (c : Nat)) ∧ SubPInv l X off y X.length c s ∧ Arr w' g (l.take off ++ (s ++ l.drop (off + X.length))) ∧ Only g w w'

set_option maxRecDepth 100000 in
set_option maxHeartbeats 1000000 in
theorem subProduct_any (l X : List Nat) (g off n cap : Nat) (p : Option Addr) (b o c y : Nat) (w : World) (hn : X.length ≤ n) (hnc : n ≤ cap) (hcap : cap ≤ 2000000000) (hoff : off ≤ 2000000000)
    (hl : off + X.length ≤ l.length) (hp : X ≠ [] → p = some ⟨b, o, none⟩) (hb : b ≠ g) (harr : Arr w g l)
    (hx : ∀ k (h : k < X.length), w.cell? ⟨b, o + k, none⟩ = some (.int .u64 (X[k] : Int))) (d1 : Nm.Dig W X) (d2 : Nm.Dig W l) (dy : y < W) :
    Calls Try.prog 123 #[.slice (some ⟨g, off, none⟩) n cap, .slice p X.length c, .int .u64 (y : Int)] w (SubPPost g l X off y w) := by
  go_enter Try.func123, Try.ntmps123
  have Hp := Lib.hid hp
  have Hx := Lib.hid hx
  clear hp hx
  go_wp2
  go_loopw [7, 20] (fun cv i wr => ∃ k cn s, k ≤ X.length ∧ i = .int .i64 (k : Nat) ∧ cv = .int .u64 (cn : Nat) ∧ SubPInv l X off y k cn s ∧ Arr wr g (l.take off ++ (s ++ l.drop (off + k))) ∧ Only g w wr)
    (fun _ i _ => X.length - (intOf i).toNat)
  case atStart =>
    exact ⟨0, 0, [], Nat.zero_le _, rfl, rfl, ⟨rfl, Nm.dig_nil W, W0, by simp [Nm.val]⟩, by rw [Nm.seg_all]; exact harr, Only.refl g w⟩
  case round =>
    clear harr
    obtain ⟨k, cn, s, hk, rfl, rfl, hinv, harr, honly⟩ := hrel
    by_cases hX : k < X.length
    · obtain rfl := Hp.out (by intro e; rw [e] at hX; exact absurd hX (Nat.not_lt_zero _))
      have hol : off + k < l.length := by omega
      have hlen := Nm.seg_length l s off k hinv.1 (by omega)
      have e1 := (honly.cell (p := ⟨b, o + k, none⟩) hb).trans (Hx.out k hX)
      have e3 := harr.cell (off + k) (by omega)
      rw [Nm.seg_get l s off k hinv.1 hol] at e3
      have e4 := harr.free (off + k)
      have ea := sub64_c0 l[off + k] (ml X[k] y cn)
      have dx := Nm.dig_get d1 k hX
      have dl := Nm.dig_get d2 (off + k) hol
      have hcn := hinv.2.2.1
      have hlt : mh X[k] y cn + bw l[off + k] (ml X[k] y cn) 0 < 18446744073709551616 := sub_room _ _ _ _ dx dy hcn dl
      have Hinv := Lib.hid (hinv.step hol hX dx dy dl)
      have Harr := harr.set (off + k) (df l[off + k] (ml X[k] y cn) 0)
      rw [Nm.seg_set l s off k _ hinv.1 hol] at Harr
      have HA := Lib.hid Harr
      have Ho := Lib.hid (honly.setCell (off + k) (.int .u64 (df l[off + k] (ml X[k] y cn) 0)))
      have hm := mulAdd_any X[k] y cn dx dy hcn
      have HM := Lib.hid hm
      clear hinv harr honly hlen Harr hm
      go_wp2_with fail
      refine (HM.out _).mono ?_
      rintro e w' ⟨rfl, rfl⟩
      go_wp2
      go_roundw
      case rel => exact ⟨k + 1, _, _, hX, by go_num, by go_num, Hinv.out, HA.out, Ho.out⟩
      case measure => simp [intOf]; omega
    · obtain rfl : k = X.length := by omega
      have Hinv := Lib.hid hinv
      have HA := Lib.hid harr
      have Ho := Lib.hid honly
      clear hinv harr honly
      go_wp2
      go_ret
      exact ⟨s, cn, rfl, Hinv.out, HA.out, Ho.out⟩
end Go.Proofs.Ytlmklhffafcmmaa
