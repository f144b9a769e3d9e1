/- What the theorem leans on, part 8: RefQuo3, RefQuo4, RefQuo, Q1, Floor, Bs, RatOf, Dec, FromD. -/
import Derived.Test.YtlmklhffafcmmaaGreatY7
import Derived.Test.YtlmklhffafcmmaaGreatY4
import Derived.Test.YtlmklhffafcmmaaGreatY3
import Derived.Test.YtlmklhffafcmmaaGreatY2

/- The reference's Quo: the walk where the first rest is negative. -/
namespace Go.Proofs.YtlmklhffafcmmaaGreat
open Go.RowKit

set_option maxRecDepth 100000 in
set_option maxHeartbeats 8000000 in
theorem rquo_neg1 (x y : Int) (v1 v2 : Value) (w : World) (k : Nat) (hk : k ≤ 90000) (hx : x.natAbs < D9 ^ k) (hy : y.natAbs < D9 ^ k) (h1 : Rz w v1 x) (h2 : Rz w v2 y) (hs : 0 < y) (hr : x - q0 x y * y < 0) :
    Calls Tryz.prog 20 #[iV x v1, iV y v2] w (QIPost (q0 x y - 1) (x - (q0 x y - 1) * y) w) := by
  have lx := lenD hx
  have ly := lenD hy
  have H_over := Lib.hid (fun v1 v2 w g1 g2 => rover_any v1 v2 x.natAbs y.natAbs w (by omega) g1 g2 (by omega) (by omega))
  have H_made := Lib.hid (fun v w g => (rmade_any (decide (x < 0) != decide (y < 0)) v (x.natAbs / y.natAbs) w g).mono (made_int (z := q0 x y) rfl))
  have lq := Nat.le_trans (lenD (Nat.lt_of_le_of_lt (q0_le x y) hx)) (by omega : k ≤ 1000000)
  have lqy := Nat.le_trans (lenD (Nat.lt_of_le_of_lt (q0y_le x y) hx)) (by omega : k ≤ 1000000)
  have H_mul := Lib.hid (fun v1 v2 w g1 g2 => rmul_int (q0 x y) y v1 v2 w g1 g2 lq (by omega))
  have H_sub := Lib.hid (fun v1 v2 w g1 g2 => rsub_int x (q0 x y * y) v1 v2 w g1 g2 (by omega) lqy)
  have H_sgn := Lib.hid (fun v w g => rsign_int (x - q0 x y * y) v w g)
  have H_sgy := Lib.hid (fun v w g => rsign_int y v w g)
  rw [Int.sign_eq_one_of_pos hs] at H_sgy
  rw [Int.sign_eq_neg_one_of_neg hr] at H_sgn
  obtain ⟨zi, hzi⟩ : ∃ z : Int, z = 1 := ⟨_, rfl⟩
  have H_n1 : Hid (∀ w, Calls Tryz.prog 16 #[.int .i64 1] w (IntPost zi w)) := by rw [hzi]; exact fun w => rnum_any 1 w (by decide) (by decide)
  have H_adj0 : ∀ z : Int, z = 1 → ∀ v1 v2 w, Rz w v1 (q0 x y) → Rz w v2 z → Calls Tryz.prog 70 #[iV (q0 x y) v1, iV z v2] w (IntPost (q0 x y - 1) w) := by
    intro z hz v1 v2 w g1 g2
    subst hz
    exact rsub_int (q0 x y) 1 v1 v2 w g1 g2 lq (Nat.le_trans (lenD (k := 3) (by decide)) (by decide))
  have H_adj := Lib.hid (H_adj0 zi hzi)
  clear H_adj0
  have lq1 : (Nm.dg D9 (q0 x y - 1).natAbs).length ≤ 1000000 := by
    have a1 := q0_le x y
    refine Nat.le_trans (lenD (k := k + 1) (twice ?_)) (by omega)
    have : 0 < D9 ^ k := Nat.pow_pos D90
    omega
  have lqy1 : (Nm.dg D9 ((q0 x y - 1) * y).natAbs).length ≤ 1000000 := by
    have a1 := q0y_le x y
    rw [Int.sub_mul, Int.one_mul]
    refine Nat.le_trans (lenD (k := k + 1) (twice ?_)) (by omega)
    omega
  have H_mul2 := Lib.hid (fun v1 v2 w g1 g2 => rmul_int (q0 x y - 1) y v1 v2 w g1 g2 lq1 (by omega))
  have H_sub2 := Lib.hid (fun v1 v2 w g1 g2 => rsub_int x ((q0 x y - 1) * y) v1 v2 w g1 g2 (by omega) lqy1)
  clear hzi lq1 lqy1
  obtain ⟨sb, hsb⟩ : ∃ sb, (decide (x < 0) != decide (y < 0)) = sb := ⟨_, rfl⟩
  rw [hsb] at H_made
  have HX := Lib.hid h1
  have HY := Lib.hid h2
  clear lq lqy lx ly hx hy hk hr
  clear hs
  unfold IntPost iV at H_made H_mul H_sub H_adj H_mul2 H_sub2
  unfold IntPost at H_n1
  unfold iV at H_n1
  unfold iV at H_sgn
  unfold iV at H_sgy
  unfold SignPost at H_sgn H_sgy
  unfold OverPost at H_over
  unfold QIPost iV
  generalize x.natAbs / y.natAbs = dd at *
  generalize x.natAbs % y.natAbs = de at *
  obtain ⟨bx, hbx⟩ : ∃ b, decide (x < 0) = b := ⟨_, rfl⟩
  obtain ⟨by', hby⟩ : ∃ b, decide (y < 0) = b := ⟨_, rfl⟩
  rw [hbx, hby] at hsb
  have hsb2 : (!(bx == by')) = sb := hsb
  rw [hby] at H_mul H_mul2 H_sgy
  rw [hbx] at H_sub H_sub2 ⊢
  rw [hby]
  clear hbx hby hsb
  generalize hr1 : x - (q0 x y - 1) * y = r1 at *
  generalize (q0 x y - 1) * y = q1y at *
  generalize hq1 : q0 x y - 1 = q1 at *
  clear hr1 hq1
  generalize x - q0 x y * y = r at *
  generalize q0 x y * y = qy at *
  generalize q0 x y = q at *
  generalize decide (qy < 0) = bqy at *
  generalize decide (q1y < 0) = bq1y at *
  generalize decide (zi < 0) = bzi at *
  obtain ⟨bq1, hbq1⟩ : ∃ b, decide (q1 < 0) = b := ⟨_, rfl⟩
  obtain ⟨br1, hbr1⟩ : ∃ b, decide (r1 < 0) = b := ⟨_, rfl⟩
  rw [hbq1] at H_adj H_mul2
  rw [hbr1] at H_sub2
  have HQQ := Lib.hid hbq1
  have HRR := Lib.hid hbr1
  clear hbq1 hbr1
  obtain ⟨bq, hbq⟩ : ∃ b, decide (q < 0) = b := ⟨_, rfl⟩
  rw [hbq] at H_made H_mul H_adj
  obtain ⟨pa, ba, oa, ca, rfl, hra⟩ := h1
  obtain ⟨pb, bb, ob, cb, rfl, hrb⟩ := h2
  clear hra hrb
  generalize (Nm.dg D9 x.natAbs).length = la at *
  generalize (Nm.dg D9 y.natAbs).length = lb at *
  obtain ⟨w0, hw0⟩ : ∃ w0 : World, w0 = (((w.alloc (.cells #[.bool bx, .slice pa la ca] 38)).alloc (.cells #[.bool by', .slice pb lb cb] 38)).alloc (.cells #[.bool false, .slice none 0 0] 38)).alloc (.cells #[.bool false, .slice none 0 0] 38) := ⟨_, rfl⟩
  have hb0 : Hid (Below w.heap.size w w0) := by rw [hw0]; exact ((((Below.refl _ _).alloc (Nat.le_refl _) _).alloc (by simp) _).alloc (by simp; omega) _).alloc (by simp; omega) _
  have I1 : Hid (ZC (.bool bx) (.slice pa la ca) w0 w.heap.size) := by rw [hw0]; exact (((ZC.new rfl).alloc _).alloc _).alloc _
  have I2 : Hid (ZC (.bool by') (.slice pb lb cb) w0 (w.heap.size + 1)) := by rw [hw0]; exact ((ZC.new (by simp)).alloc _).alloc _
  have I3 : Hid (ZC (.bool false) (.slice none 0 0) w0 (w.heap.size + 1 + 1)) := by rw [hw0]; exact (ZC.new (by simp)).alloc _
  have I4 : Hid (ZC (.bool false) (.slice none 0 0) w0 (w.heap.size + 1 + 1 + 1)) := by rw [hw0]; exact ZC.new (by simp)
  have Hsz : Hid (w.heap.size + 4 ≤ w0.heap.size) := by rw [hw0]; show _ ≤ _; simp
  have RX := Lib.hid (Ri.below HX.out hb0.out (Nat.le_refl _))
  have RY := Lib.hid (Ri.below HY.out hb0.out (Nat.le_refl _))
  have Hw0 := Lib.hid hw0
  clear hw0 HX HY
  go_enter Tryz.func20, Tryz.ntmps20
  go_wp2_with fail
  rw [← Hw0.out]
  clear Hw0
  refine (H_over.out _ _ _ RX.out RY.out).mono ?_
  rintro e y1 ⟨vq, vr, rfl, rq, rr, b1⟩
  have D := Lib.hid b1
  obtain ⟨k0, k1, _⟩ := I1.out.next D.out
  obtain ⟨k2, k3, _⟩ := I2.out.next D.out
  have RQ := Lib.hid rq
  obtain ⟨pq, bq', oq, cq, rfl, hrq⟩ := rq
  clear b1 rr hrq
  go_wp2_with fail
  refine (H_made.out _ _ RQ.out).mono ?_
  rintro e y2 ⟨v8, rfl, r8, b2⟩
  have D := Lib.hid (chain D.out b2)
  obtain ⟨u2, hu2⟩ : ∃ u : World, u = y2.alloc (.cells #[.bool bq, v8] 38) := ⟨_, rfl⟩
  have R8 : Hid (Rz u2 v8 q) := by rw [hu2]; exact Ri.allocd r8 _
  have T8 : Hid (ZC (.bool bq) v8 u2 y2.heap.size) := by rw [hu2]; exact ZC.new rfl
  have hw8 : Hid (w0.heap.size ≤ y2.heap.size) := D.out.size
  have hy2 : Hid (w.heap.size + 4 ≤ y2.heap.size) := Nat.le_trans Hsz.out D.out.size
  have D : Hid (Below w0.heap.size w0 u2) := by rw [hu2]; exact D.out.alloc D.out.size _
  obtain ⟨p8, bb8, o8, c8, rfl, rr8⟩ := r8
  clear rr8
  generalize (Nm.dg D9 q.natAbs).length = l8 at *
  obtain ⟨k0, k1, _⟩ := I1.out.next D.out
  obtain ⟨k2, k3, _⟩ := I2.out.next D.out
  obtain ⟨k4, k5, _⟩ := T8.out
  have HSB : Hid (w.heap.size + 4 ≤ u2.heap.size) := Nat.le_trans Hsz.out D.out.size
  have hu2g : Hid (y2.heap.size < u2.heap.size) := T8.out.lt
  have Hu2 := Lib.hid hu2
  clear b2 hu2 RQ
  have RXu := Lib.hid (Ri.below RX.out D.out (Nat.le_refl _))
  have RYu := Lib.hid (Ri.below RY.out D.out (Nat.le_refl _))
  go_upto_region 3 with (fail)
  rw [← Hu2.out]
  clear Hu2
  obtain ⟨ja, jb, jc, jd, je, jf, jg, jh, ji, jj, jk, jl⟩ := far8q HSB.out
  have jm := hu2g.out
  have jn : ¬ y2.heap.size = u2.heap.size := Nat.ne_of_lt jm
  have jo : ¬ u2.heap.size = y2.heap.size := Nat.ne_of_gt jm
  go_cut [9] (fun s9 wx => ∃ (g9 : Nat) (p9 : Option Addr) (n9 c9 : Nat), s9 = .pointer (some ⟨g9, 0, none⟩) ∧ Hid (CutO (decide (r < 0)) (.slice p9 n9 c9) (Nm.dg D9 r.natAbs) u2.heap.size u2 wx g9))
  case first =>
    rename_i J0 K0 hRJ hMK
    go_region_held3 (fun W' => W'.cell? ⟨w.heap.size, 0, none⟩ = some (.bool bx) ∧ W'.cell? ⟨w.heap.size, 1, none⟩ = some (.slice pa la ca) ∧ W'.cell? ⟨w.heap.size + 1, 0, none⟩ = some (.bool by') ∧ W'.cell? ⟨w.heap.size + 1, 1, none⟩ = some (.slice pb lb cb) ∧ W'.cell? ⟨y2.heap.size, 0, none⟩ = some (.bool bq) ∧ W'.cell? ⟨y2.heap.size, 1, none⟩ = some (.slice p8 l8 c8)) (go_keep)
      (first
        | (go_at_call 74; (with_reducible refine (H_mul.out _ _ _ (by first | exact Ri.drew R8.out | exact Ri.allocd (Ri.drew R8.out) _ | exact Ri.drew (Ri.allocd R8.out _)) (by first | exact Ri.drew RYu.out | exact Ri.allocd (Ri.drew RYu.out) _ | exact Ri.drew (Ri.allocd RYu.out _))).mono ?_); rintro e w1 ⟨vm, rfl, rz1, bz1⟩; (try (have bz1 := undrew bz1)); have d1 : Below u2.heap.size u2 w1 := chain (by first | exact Below.refl _ _ | exact (Below.refl _ _).drew | exact below_one _ _ | exact ((Below.refl _ _).drew).alloc (Nat.le_refl _) _) bz1; have e1 : Below u2.heap.size u2 w1 := d1; have p0 := keep1 e1 k0; have p1 := keep1 e1 k1; have p2 := keep1 e1 k2; have p3 := keep1 e1 k3; have p4 := keep1 e1 k4; have p5 := keep1 e1 k5; obtain ⟨j1a, j1b, j1c, j1d, j1e, j1f, j1g, j1h, j1i, j1j, j1k, j1l⟩ := far8q (Nat.le_trans HSB.out e1.size); have j1m := Nat.lt_of_lt_of_le hu2g.out e1.size; have j1n : ¬ y2.heap.size = w1.heap.size := Nat.ne_of_lt j1m; have j1o : ¬ w1.heap.size = y2.heap.size := Nat.ne_of_gt j1m; (try (have A0 := Lib.hid (ZC.made (g := u2.heap.size) rfl bz1); obtain ⟨A0a, A0b, A0c, A0d⟩ := A0.out)); (try (have L01 := Lib.hid (apart_b (g := u2.heap.size) rfl bz1); obtain ⟨l01x, l01y, l01z⟩ := L01.out)); have G1 := Lib.hid rz1; obtain ⟨pr1, br1, or1, cr1, rfl, rr1⟩ := rz1; clear rr1)
        | (go_at_call 70; (with_reducible refine (H_sub.out _ _ _ (by first | exact Ri.below RXu.out e1 (Nat.le_refl _) | exact Ri.allocd (Ri.below RXu.out e1 (Nat.le_refl _)) _) (by first | exact G1.out | exact Ri.allocd G1.out _)).mono ?_); rintro e w2 ⟨vs, rfl, rz2, bz2⟩; (try (have bz2 := undrew bz2)); have d2 : Below w1.heap.size w1 w2 := chain (by first | exact Below.refl _ _ | exact (Below.refl _ _).drew | exact below_one _ _ | exact ((Below.refl _ _).drew).alloc (Nat.le_refl _) _) bz2; have e2 : Below u2.heap.size u2 w2 := chain e1 d2; have p0 := keep1 e2 k0; have p1 := keep1 e2 k1; have p2 := keep1 e2 k2; have p3 := keep1 e2 k3; have p4 := keep1 e2 k4; have p5 := keep1 e2 k5; obtain ⟨j2a, j2b, j2c, j2d, j2e, j2f, j2g, j2h, j2i, j2j, j2k, j2l⟩ := far8q (Nat.le_trans HSB.out e2.size); have j2m := Nat.lt_of_lt_of_le hu2g.out e2.size; have j2n : ¬ y2.heap.size = w2.heap.size := Nat.ne_of_lt j2m; have j2o : ¬ w2.heap.size = y2.heap.size := Nat.ne_of_gt j2m; (try (have A1 := Lib.hid (ZC.made (g := w1.heap.size) rfl bz2); obtain ⟨A1a, A1b, A1c, A1d⟩ := A1.out)); (try (have A0 := Lib.hid (A0.out.next d2); obtain ⟨A0a, A0b, A0c, A0d⟩ := A0.out)); (try (have L02 := Lib.hid (apart_t L01.out d2.size); obtain ⟨l02x, l02y, l02z⟩ := L02.out)); (try (have L12 := Lib.hid (apart_b (g := w1.heap.size) rfl bz2); obtain ⟨l12x, l12y, l12z⟩ := L12.out)); have G2 := Lib.hid rz2; obtain ⟨pr2, br2, or2, cr2, rfl, rr2⟩ := rz2; clear rr2)
        | fail)
    all_goals
      refine hMK _ _ (Met.intro (hRJ _ _ ?_))
      (repeat apply Exists.intro)
      refine ⟨?_, rfl⟩
      refine ⟨_, pr2, (Nm.dg D9 r.natAbs).length, cr2, rfl, ?_⟩
      show CutO _ (.slice pr2 _ cr2) _ u2.heap.size u2 _ _
      have sA0 : u2.heap.size ≤ u2.heap.size := Nat.le_refl _
      have sA1 : u2.heap.size ≤ w1.heap.size := e1.size
      have sA2 : u2.heap.size ≤ w2.heap.size := e2.size
      first
        | with_reducible exact CutO.k1 G2.out e2 sA2
        | with_reducible exact CutO.k2 A0.out sA0 G2.out e2
        | with_reducible exact CutO.k2 A1.out sA1 G2.out e2
        | fail
  obtain ⟨g9, p9, n9, c9, rfl, hcut⟩ := hcut
  obtain ⟨hg9, t9, r9, b9⟩ := hcut.out
  have D := Lib.hid (chain D.out b9)
  have T8 := Lib.hid (T8.out.next b9)
  have R8 := Lib.hid (Ri.below R8.out b9 (Nat.le_refl _))
  have T9 := Lib.hid t9
  have R9 := Lib.hid r9
  have hg9' : Hid (w.heap.size + 4 ≤ g9) := Nat.le_trans HSB.out hg9
  have hg9w : Hid (w0.heap.size ≤ g9) := Nat.le_trans hw8.out (Nat.le_of_lt (Nat.lt_of_lt_of_le hu2g.out hg9))
  have hg89 : Hid (y2.heap.size < g9) := Nat.lt_of_lt_of_le hu2g.out hg9
  obtain ⟨k0, k1, _⟩ := T9.out
  clear hcut hg9 t9 r9 b9 ja jb jc jd je jf jg jh ji jj jk jl jm jn jo k2 k3 k4 k5
  obtain ⟨br, hbr⟩ : ∃ b, decide (r < 0) = b := ⟨_, rfl⟩
  rw [hbr] at T9 k0 H_sgn
  go_wp2_with fail
  refine (H_sgn.out _ _ R9.out).mono ?_
  rintro e y3 ⟨rfl, b3⟩
  have D := Lib.hid (chain D.out b3)
  have T8 := Lib.hid (T8.out.next b3)
  have R8 := Lib.hid (Ri.below R8.out b3 (Nat.le_refl _))
  have T9 := Lib.hid (T9.out.next b3)
  have R9 := Lib.hid (Ri.below R9.out b3 (Nat.le_refl _))
  clear b3 k0 k1
  obtain ⟨k2, k3, _⟩ := I2.out.next D.out
  have HRRn := Lib.hid hbr
  clear hbr hbq
  go_wp2_with fail
  refine (H_sgy.out _ _ (Ri.below RY.out D.out (Nat.le_refl _))).mono ?_
  rintro e y4 ⟨rfl, b4⟩
  have D := Lib.hid (chain D.out b4)
  have T8 := Lib.hid (T8.out.next b4)
  have R8 := Lib.hid (Ri.below R8.out b4 (Nat.le_refl _))
  have T9 := Lib.hid (T9.out.next b4)
  clear b4 k2 k3 R9
  obtain ⟨k4, k5, k6, k7⟩ := T8.out
  have R8d := Lib.hid (Ri.drew R8.out)
  go_upto_region 6 with (fail)
  go_cut [38] (fun _ wx => ∃ (p : Option Addr) (n c : Nat), Hid (ZC (.bool bq1) (.slice p n c) wx y2.heap.size) ∧ Hid (Rz wx (.slice p n c) q1) ∧ Hid (ZC (.bool br) (.slice p9 n9 c9) wx g9) ∧ Hid (Below w0.heap.size w0 wx))
  case first =>
    rename_i J0 K0 hRJ hMK
    go_region_with
      (first
        | (go_at_call 16; (with_reducible refine (H_n1.out _).mono ?_); rintro e z1 ⟨v1, rfl, r1, b1⟩; have d1 := chain ((Below.refl y4.heap.size y4).drew) b1; have p4 := keep1 d1 k4; have p5 := keep1 d1 k5; have G1 := Lib.hid (And.intro (Ri.below R8d.out b1 (Nat.le_refl _)) r1); have D1 := Lib.hid d1; obtain ⟨pq1, bb1, oo1, cc1, rfl, rr1⟩ := r1; clear rr1 b1)
        | (go_at_call 70; (with_reducible refine (H_adj.out _ _ _ G1.out.1 G1.out.2).mono ?_); rintro e z2 ⟨v2, rfl, r2, b2⟩; have d2 := chain D1.out b2; have p4 := keep1 d2 k4; have p5 := keep1 d2 k5; have p6 := keepf d2 k4 k6; have p7 := keepf d2 k5 k7; have G2 := Lib.hid r2; have D2 := Lib.hid d2; obtain ⟨pq2, bb2, oo2, cq2, rfl, rr2⟩ := r2; clear rr2 b2)
        | fail)
    all_goals
      have ZZ := Lib.hid (T8.out.next D2.out)
      refine hMK _ _ (Met.intro (hRJ _ _ ?_))
      (repeat apply Exists.intro)
      refine ⟨?_, rfl⟩
      exact ⟨pq2, _, cq2, ZZ.out.set, G2.out.setq ZZ.out _ _, (T9.out.next D2.out).other (Nat.ne_of_gt hg89.out), below_set2 (chain D.out D2.out) (by have := hy2.out; have := Hsz.out; have := hw8.out; omega) _ _⟩
  obtain ⟨p8', n8', c8', T8, R8, T9, D⟩ := hcut
  clear k4 k5 k6 k7 R8d
  have R8d := Lib.hid (Ri.drew R8.out)
  have RXu := Lib.hid (Ri.below RX.out D.out (Nat.le_refl _))
  have RYd := Lib.hid (Ri.drew (Ri.below RY.out D.out (Nat.le_refl _)))
  obtain ⟨k0, k1, _⟩ := I1.out.next D.out
  obtain ⟨k2, k3, _⟩ := I2.out.next D.out
  obtain ⟨k4, k5, _⟩ := T8.out
  obtain ⟨k6, k7, k8, k9⟩ := T9.out
  obtain ⟨y5, hy5⟩ : ∃ y5 : World, y5 = wc := ⟨_, rfl⟩
  subst hy5
  go_upto_region 8 with (fail)
  go_cut [46] (fun _ wx => ∃ (p : Option Addr) (n c : Nat), Hid (ZC (.bool br1) (.slice p n c) wx g9) ∧ Hid (Rz wx (.slice p n c) r1) ∧ Hid (ZC (.bool bq1) (.slice p8' n8' c8') wx y2.heap.size) ∧ Hid (Rz wx (.slice p8' n8' c8') q1) ∧ Hid (Below w0.heap.size w0 wx))
  case first =>
    rename_i J0 K0 hRJ hMK
    go_region_with
      (first
        | (go_at_call 74; (with_reducible refine (H_mul2.out _ _ _ R8d.out RYd.out).mono ?_); rintro e z1 ⟨v1, rfl, rz1, b1⟩; have d1 := chain ((Below.refl y5.heap.size y5).drew) b1; have q0 := keep1 d1 k0; have q1 := keep1 d1 k1; have q2 := keep1 d1 k2; have q3 := keep1 d1 k3; have q4 := keep1 d1 k4; have q5 := keep1 d1 k5; have q6 := keep1 d1 k6; have q7 := keep1 d1 k7; have G1 := Lib.hid (And.intro (Ri.below RXu.out d1 (Nat.le_refl _)) rz1); have D1 := Lib.hid d1; obtain ⟨pq1, bb1, oo1, cc1, rfl, rr1⟩ := rz1; clear rr1 b1)
        | (go_at_call 70; (with_reducible refine (H_sub2.out _ _ _ G1.out.1 G1.out.2).mono ?_); rintro e z2 ⟨v2, rfl, rz2, b2⟩; have d2 := chain D1.out b2; have q0 := keep1 d2 k0; have q1 := keep1 d2 k1; have q2 := keep1 d2 k2; have q3 := keep1 d2 k3; have q4 := keep1 d2 k4; have q5 := keep1 d2 k5; have q6 := keep1 d2 k6; have q7 := keep1 d2 k7; have p8 := keepf d2 k6 k8; have p9' := keepf d2 k7 k9; have G2 := Lib.hid rz2; have D2 := Lib.hid d2; obtain ⟨pq2, bb2, oo2, cq2, rfl, rr2⟩ := rz2; clear rr2 b2)
        | fail)
    all_goals
      have ZZ := Lib.hid (T9.out.next D2.out)
      refine hMK _ _ (Met.intro (hRJ _ _ ?_))
      (repeat apply Exists.intro)
      refine ⟨?_, rfl⟩
      exact ⟨pq2, _, cq2, ZZ.out.set, G2.out.setq ZZ.out _ _, (T8.out.next D2.out).other (Nat.ne_of_lt hg89.out), (Ri.below R8.out D2.out (Nat.le_refl _)).setq ZZ.out _ _, below_set2 (chain D.out D2.out) (by have := hg9w.out; omega) _ _⟩
  obtain ⟨p9', n9', c9', T9, R9, T8, R8, D⟩ := hcut
  clear k0 k1 k2 k3 k4 k5 k6 k7 k8 k9 R8d RXu RYd
  obtain ⟨f0, f1, f2, f3⟩ := T8.out
  obtain ⟨f4, f5, f6, f7⟩ := T9.out
  obtain ⟨m0, m1, m2, m3⟩ := I3.out.next D.out
  obtain ⟨n0, n1, n2, n3⟩ := I4.out.next D.out
  obtain ⟨ja, jb, jc, jd, je, jf, jg, jh, _⟩ := far8q hy2.out
  obtain ⟨qa, qb, qc, qd, qe, qf, qg, qh, _⟩ := far8q hg9'.out
  have i5 := (I4.out.next D.out).other (g2 := w.heap.size + 1 + 1) (u := .bool bq1) (v := (.slice p8' n8' c8')) (by omega)
  have HZ := Lib.hid ((below_set2 (below_set2 (chain hb0.out D.out) (g := w.heap.size + 1 + 1) (by omega) (.bool bq1) (.slice p8' n8' c8')) (g := w.heap.size + 1 + 1 + 1) (by omega) (.bool br1) (.slice p9' n9' c9')).drew)
  have RQf := Lib.hid (Ri.drew ((R8.out.setq (I3.out.next D.out) (.bool bq1) (.slice p8' n8' c8')).setq i5 (.bool br1) (.slice p9' n9' c9')))
  have RRf := Lib.hid (Ri.drew ((R9.out.setq (I3.out.next D.out) (.bool bq1) (.slice p8' n8' c8')).setq i5 (.bool br1) (.slice p9' n9' c9')))
  clear i5
  go_wp2_with fail
  go_region
  go_wp2
  exact bodyPost_ret (v := .tuple #[.agg #[.bool bq1, (.slice p8' n8' c8')], .agg #[.bool br1, (.slice p9' n9' c9')]]) (by simp [results, Tryz.results20, go_sem, m0, m1, n0, n1]) rfl ⟨_, _, by rw [HQQ.out, HRR.out], RQf.out, RRf.out, HZ.out⟩
end Go.Proofs.YtlmklhffafcmmaaGreat

/- The reference's Quo: the walk where the first rest and the divisor are negative. -/
namespace Go.Proofs.YtlmklhffafcmmaaGreat
open Go.RowKit

set_option maxRecDepth 100000 in
set_option maxHeartbeats 8000000 in
theorem rquo_neg2 (x y : Int) (v1 v2 : Value) (w : World) (k : Nat) (hk : k ≤ 90000) (hx : x.natAbs < D9 ^ k) (hy : y.natAbs < D9 ^ k) (h1 : Rz w v1 x) (h2 : Rz w v2 y) (hs : y < 0) (hr : x - q0 x y * y < 0) :
    Calls Tryz.prog 20 #[iV x v1, iV y v2] w (QIPost (q0 x y + 1) (x - (q0 x y + 1) * y) w) := by
  have lx := lenD hx
  have ly := lenD hy
  have H_over := Lib.hid (fun v1 v2 w g1 g2 => rover_any v1 v2 x.natAbs y.natAbs w (by omega) g1 g2 (by omega) (by omega))
  have H_made := Lib.hid (fun v w g => (rmade_any (decide (x < 0) != decide (y < 0)) v (x.natAbs / y.natAbs) w g).mono (made_int (z := q0 x y) rfl))
  have lq := Nat.le_trans (lenD (Nat.lt_of_le_of_lt (q0_le x y) hx)) (by omega : k ≤ 1000000)
  have lqy := Nat.le_trans (lenD (Nat.lt_of_le_of_lt (q0y_le x y) hx)) (by omega : k ≤ 1000000)
  have H_mul := Lib.hid (fun v1 v2 w g1 g2 => rmul_int (q0 x y) y v1 v2 w g1 g2 lq (by omega))
  have H_sub := Lib.hid (fun v1 v2 w g1 g2 => rsub_int x (q0 x y * y) v1 v2 w g1 g2 (by omega) lqy)
  have H_sgn := Lib.hid (fun v w g => rsign_int (x - q0 x y * y) v w g)
  have H_sgy := Lib.hid (fun v w g => rsign_int y v w g)
  rw [Int.sign_eq_neg_one_of_neg hs] at H_sgy
  rw [Int.sign_eq_neg_one_of_neg hr] at H_sgn
  obtain ⟨zi, hzi⟩ : ∃ z : Int, z = 1 := ⟨_, rfl⟩
  have H_n1 : Hid (∀ w, Calls Tryz.prog 16 #[.int .i64 1] w (IntPost zi w)) := by rw [hzi]; exact fun w => rnum_any 1 w (by decide) (by decide)
  have H_adj0 : ∀ z : Int, z = 1 → ∀ v1 v2 w, Rz w v1 (q0 x y) → Rz w v2 z → Calls Tryz.prog 75 #[iV (q0 x y) v1, iV z v2] w (IntPost (q0 x y + 1) w) := by
    intro z hz v1 v2 w g1 g2
    subst hz
    exact radd_int (q0 x y) 1 v1 v2 w g1 g2 lq (Nat.le_trans (lenD (k := 3) (by decide)) (by decide))
  have H_adj := Lib.hid (H_adj0 zi hzi)
  clear H_adj0
  have lq1 : (Nm.dg D9 (q0 x y + 1).natAbs).length ≤ 1000000 := by
    have a1 := q0_le x y
    refine Nat.le_trans (lenD (k := k + 1) (twice ?_)) (by omega)
    have : 0 < D9 ^ k := Nat.pow_pos D90
    omega
  have lqy1 : (Nm.dg D9 ((q0 x y + 1) * y).natAbs).length ≤ 1000000 := by
    have a1 := q0y_le x y
    rw [Int.add_mul, Int.one_mul]
    refine Nat.le_trans (lenD (k := k + 1) (twice ?_)) (by omega)
    omega
  have H_mul2 := Lib.hid (fun v1 v2 w g1 g2 => rmul_int (q0 x y + 1) y v1 v2 w g1 g2 lq1 (by omega))
  have H_sub2 := Lib.hid (fun v1 v2 w g1 g2 => rsub_int x ((q0 x y + 1) * y) v1 v2 w g1 g2 (by omega) lqy1)
  clear hzi lq1 lqy1
  obtain ⟨sb, hsb⟩ : ∃ sb, (decide (x < 0) != decide (y < 0)) = sb := ⟨_, rfl⟩
  rw [hsb] at H_made
  have HX := Lib.hid h1
  have HY := Lib.hid h2
  clear lq lqy lx ly hx hy hk hr
  clear hs
  unfold IntPost iV at H_made H_mul H_sub H_adj H_mul2 H_sub2
  unfold IntPost at H_n1
  unfold iV at H_n1
  unfold iV at H_sgn
  unfold iV at H_sgy
  unfold SignPost at H_sgn H_sgy
  unfold OverPost at H_over
  unfold QIPost iV
  generalize x.natAbs / y.natAbs = dd at *
  generalize x.natAbs % y.natAbs = de at *
  obtain ⟨bx, hbx⟩ : ∃ b, decide (x < 0) = b := ⟨_, rfl⟩
  obtain ⟨by', hby⟩ : ∃ b, decide (y < 0) = b := ⟨_, rfl⟩
  rw [hbx, hby] at hsb
  have hsb2 : (!(bx == by')) = sb := hsb
  rw [hby] at H_mul H_mul2 H_sgy
  rw [hbx] at H_sub H_sub2 ⊢
  rw [hby]
  clear hbx hby hsb
  generalize hr1 : x - (q0 x y + 1) * y = r1 at *
  generalize (q0 x y + 1) * y = q1y at *
  generalize hq1 : q0 x y + 1 = q1 at *
  clear hr1 hq1
  generalize x - q0 x y * y = r at *
  generalize q0 x y * y = qy at *
  generalize q0 x y = q at *
  generalize decide (qy < 0) = bqy at *
  generalize decide (q1y < 0) = bq1y at *
  generalize decide (zi < 0) = bzi at *
  obtain ⟨bq1, hbq1⟩ : ∃ b, decide (q1 < 0) = b := ⟨_, rfl⟩
  obtain ⟨br1, hbr1⟩ : ∃ b, decide (r1 < 0) = b := ⟨_, rfl⟩
  rw [hbq1] at H_adj H_mul2
  rw [hbr1] at H_sub2
  have HQQ := Lib.hid hbq1
  have HRR := Lib.hid hbr1
  clear hbq1 hbr1
  obtain ⟨bq, hbq⟩ : ∃ b, decide (q < 0) = b := ⟨_, rfl⟩
  rw [hbq] at H_made H_mul H_adj
  obtain ⟨pa, ba, oa, ca, rfl, hra⟩ := h1
  obtain ⟨pb, bb, ob, cb, rfl, hrb⟩ := h2
  clear hra hrb
  generalize (Nm.dg D9 x.natAbs).length = la at *
  generalize (Nm.dg D9 y.natAbs).length = lb at *
  obtain ⟨w0, hw0⟩ : ∃ w0 : World, w0 = (((w.alloc (.cells #[.bool bx, .slice pa la ca] 38)).alloc (.cells #[.bool by', .slice pb lb cb] 38)).alloc (.cells #[.bool false, .slice none 0 0] 38)).alloc (.cells #[.bool false, .slice none 0 0] 38) := ⟨_, rfl⟩
  have hb0 : Hid (Below w.heap.size w w0) := by rw [hw0]; exact ((((Below.refl _ _).alloc (Nat.le_refl _) _).alloc (by simp) _).alloc (by simp; omega) _).alloc (by simp; omega) _
  have I1 : Hid (ZC (.bool bx) (.slice pa la ca) w0 w.heap.size) := by rw [hw0]; exact (((ZC.new rfl).alloc _).alloc _).alloc _
  have I2 : Hid (ZC (.bool by') (.slice pb lb cb) w0 (w.heap.size + 1)) := by rw [hw0]; exact ((ZC.new (by simp)).alloc _).alloc _
  have I3 : Hid (ZC (.bool false) (.slice none 0 0) w0 (w.heap.size + 1 + 1)) := by rw [hw0]; exact (ZC.new (by simp)).alloc _
  have I4 : Hid (ZC (.bool false) (.slice none 0 0) w0 (w.heap.size + 1 + 1 + 1)) := by rw [hw0]; exact ZC.new (by simp)
  have Hsz : Hid (w.heap.size + 4 ≤ w0.heap.size) := by rw [hw0]; show _ ≤ _; simp
  have RX := Lib.hid (Ri.below HX.out hb0.out (Nat.le_refl _))
  have RY := Lib.hid (Ri.below HY.out hb0.out (Nat.le_refl _))
  have Hw0 := Lib.hid hw0
  clear hw0 HX HY
  go_enter Tryz.func20, Tryz.ntmps20
  go_wp2_with fail
  rw [← Hw0.out]
  clear Hw0
  refine (H_over.out _ _ _ RX.out RY.out).mono ?_
  rintro e y1 ⟨vq, vr, rfl, rq, rr, b1⟩
  have D := Lib.hid b1
  obtain ⟨k0, k1, _⟩ := I1.out.next D.out
  obtain ⟨k2, k3, _⟩ := I2.out.next D.out
  have RQ := Lib.hid rq
  obtain ⟨pq, bq', oq, cq, rfl, hrq⟩ := rq
  clear b1 rr hrq
  go_wp2_with fail
  refine (H_made.out _ _ RQ.out).mono ?_
  rintro e y2 ⟨v8, rfl, r8, b2⟩
  have D := Lib.hid (chain D.out b2)
  obtain ⟨u2, hu2⟩ : ∃ u : World, u = y2.alloc (.cells #[.bool bq, v8] 38) := ⟨_, rfl⟩
  have R8 : Hid (Rz u2 v8 q) := by rw [hu2]; exact Ri.allocd r8 _
  have T8 : Hid (ZC (.bool bq) v8 u2 y2.heap.size) := by rw [hu2]; exact ZC.new rfl
  have hw8 : Hid (w0.heap.size ≤ y2.heap.size) := D.out.size
  have hy2 : Hid (w.heap.size + 4 ≤ y2.heap.size) := Nat.le_trans Hsz.out D.out.size
  have D : Hid (Below w0.heap.size w0 u2) := by rw [hu2]; exact D.out.alloc D.out.size _
  obtain ⟨p8, bb8, o8, c8, rfl, rr8⟩ := r8
  clear rr8
  generalize (Nm.dg D9 q.natAbs).length = l8 at *
  obtain ⟨k0, k1, _⟩ := I1.out.next D.out
  obtain ⟨k2, k3, _⟩ := I2.out.next D.out
  obtain ⟨k4, k5, _⟩ := T8.out
  have HSB : Hid (w.heap.size + 4 ≤ u2.heap.size) := Nat.le_trans Hsz.out D.out.size
  have hu2g : Hid (y2.heap.size < u2.heap.size) := T8.out.lt
  have Hu2 := Lib.hid hu2
  clear b2 hu2 RQ
  have RXu := Lib.hid (Ri.below RX.out D.out (Nat.le_refl _))
  have RYu := Lib.hid (Ri.below RY.out D.out (Nat.le_refl _))
  go_upto_region 3 with (fail)
  rw [← Hu2.out]
  clear Hu2
  obtain ⟨ja, jb, jc, jd, je, jf, jg, jh, ji, jj, jk, jl⟩ := far8q HSB.out
  have jm := hu2g.out
  have jn : ¬ y2.heap.size = u2.heap.size := Nat.ne_of_lt jm
  have jo : ¬ u2.heap.size = y2.heap.size := Nat.ne_of_gt jm
  go_cut [9] (fun s9 wx => ∃ (g9 : Nat) (p9 : Option Addr) (n9 c9 : Nat), s9 = .pointer (some ⟨g9, 0, none⟩) ∧ Hid (CutO (decide (r < 0)) (.slice p9 n9 c9) (Nm.dg D9 r.natAbs) u2.heap.size u2 wx g9))
  case first =>
    rename_i J0 K0 hRJ hMK
    go_region_held3 (fun W' => W'.cell? ⟨w.heap.size, 0, none⟩ = some (.bool bx) ∧ W'.cell? ⟨w.heap.size, 1, none⟩ = some (.slice pa la ca) ∧ W'.cell? ⟨w.heap.size + 1, 0, none⟩ = some (.bool by') ∧ W'.cell? ⟨w.heap.size + 1, 1, none⟩ = some (.slice pb lb cb) ∧ W'.cell? ⟨y2.heap.size, 0, none⟩ = some (.bool bq) ∧ W'.cell? ⟨y2.heap.size, 1, none⟩ = some (.slice p8 l8 c8)) (go_keep)
      (first
        | (go_at_call 74; (with_reducible refine (H_mul.out _ _ _ (by first | exact Ri.drew R8.out | exact Ri.allocd (Ri.drew R8.out) _ | exact Ri.drew (Ri.allocd R8.out _)) (by first | exact Ri.drew RYu.out | exact Ri.allocd (Ri.drew RYu.out) _ | exact Ri.drew (Ri.allocd RYu.out _))).mono ?_); rintro e w1 ⟨vm, rfl, rz1, bz1⟩; (try (have bz1 := undrew bz1)); have d1 : Below u2.heap.size u2 w1 := chain (by first | exact Below.refl _ _ | exact (Below.refl _ _).drew | exact below_one _ _ | exact ((Below.refl _ _).drew).alloc (Nat.le_refl _) _) bz1; have e1 : Below u2.heap.size u2 w1 := d1; have p0 := keep1 e1 k0; have p1 := keep1 e1 k1; have p2 := keep1 e1 k2; have p3 := keep1 e1 k3; have p4 := keep1 e1 k4; have p5 := keep1 e1 k5; obtain ⟨j1a, j1b, j1c, j1d, j1e, j1f, j1g, j1h, j1i, j1j, j1k, j1l⟩ := far8q (Nat.le_trans HSB.out e1.size); have j1m := Nat.lt_of_lt_of_le hu2g.out e1.size; have j1n : ¬ y2.heap.size = w1.heap.size := Nat.ne_of_lt j1m; have j1o : ¬ w1.heap.size = y2.heap.size := Nat.ne_of_gt j1m; (try (have A0 := Lib.hid (ZC.made (g := u2.heap.size) rfl bz1); obtain ⟨A0a, A0b, A0c, A0d⟩ := A0.out)); (try (have L01 := Lib.hid (apart_b (g := u2.heap.size) rfl bz1); obtain ⟨l01x, l01y, l01z⟩ := L01.out)); have G1 := Lib.hid rz1; obtain ⟨pr1, br1, or1, cr1, rfl, rr1⟩ := rz1; clear rr1)
        | (go_at_call 70; (with_reducible refine (H_sub.out _ _ _ (by first | exact Ri.below RXu.out e1 (Nat.le_refl _) | exact Ri.allocd (Ri.below RXu.out e1 (Nat.le_refl _)) _) (by first | exact G1.out | exact Ri.allocd G1.out _)).mono ?_); rintro e w2 ⟨vs, rfl, rz2, bz2⟩; (try (have bz2 := undrew bz2)); have d2 : Below w1.heap.size w1 w2 := chain (by first | exact Below.refl _ _ | exact (Below.refl _ _).drew | exact below_one _ _ | exact ((Below.refl _ _).drew).alloc (Nat.le_refl _) _) bz2; have e2 : Below u2.heap.size u2 w2 := chain e1 d2; have p0 := keep1 e2 k0; have p1 := keep1 e2 k1; have p2 := keep1 e2 k2; have p3 := keep1 e2 k3; have p4 := keep1 e2 k4; have p5 := keep1 e2 k5; obtain ⟨j2a, j2b, j2c, j2d, j2e, j2f, j2g, j2h, j2i, j2j, j2k, j2l⟩ := far8q (Nat.le_trans HSB.out e2.size); have j2m := Nat.lt_of_lt_of_le hu2g.out e2.size; have j2n : ¬ y2.heap.size = w2.heap.size := Nat.ne_of_lt j2m; have j2o : ¬ w2.heap.size = y2.heap.size := Nat.ne_of_gt j2m; (try (have A1 := Lib.hid (ZC.made (g := w1.heap.size) rfl bz2); obtain ⟨A1a, A1b, A1c, A1d⟩ := A1.out)); (try (have A0 := Lib.hid (A0.out.next d2); obtain ⟨A0a, A0b, A0c, A0d⟩ := A0.out)); (try (have L02 := Lib.hid (apart_t L01.out d2.size); obtain ⟨l02x, l02y, l02z⟩ := L02.out)); (try (have L12 := Lib.hid (apart_b (g := w1.heap.size) rfl bz2); obtain ⟨l12x, l12y, l12z⟩ := L12.out)); have G2 := Lib.hid rz2; obtain ⟨pr2, br2, or2, cr2, rfl, rr2⟩ := rz2; clear rr2)
        | fail)
    all_goals
      refine hMK _ _ (Met.intro (hRJ _ _ ?_))
      (repeat apply Exists.intro)
      refine ⟨?_, rfl⟩
      refine ⟨_, pr2, (Nm.dg D9 r.natAbs).length, cr2, rfl, ?_⟩
      show CutO _ (.slice pr2 _ cr2) _ u2.heap.size u2 _ _
      have sA0 : u2.heap.size ≤ u2.heap.size := Nat.le_refl _
      have sA1 : u2.heap.size ≤ w1.heap.size := e1.size
      have sA2 : u2.heap.size ≤ w2.heap.size := e2.size
      first
        | with_reducible exact CutO.k1 G2.out e2 sA2
        | with_reducible exact CutO.k2 A0.out sA0 G2.out e2
        | with_reducible exact CutO.k2 A1.out sA1 G2.out e2
        | fail
  obtain ⟨g9, p9, n9, c9, rfl, hcut⟩ := hcut
  obtain ⟨hg9, t9, r9, b9⟩ := hcut.out
  have D := Lib.hid (chain D.out b9)
  have T8 := Lib.hid (T8.out.next b9)
  have R8 := Lib.hid (Ri.below R8.out b9 (Nat.le_refl _))
  have T9 := Lib.hid t9
  have R9 := Lib.hid r9
  have hg9' : Hid (w.heap.size + 4 ≤ g9) := Nat.le_trans HSB.out hg9
  have hg9w : Hid (w0.heap.size ≤ g9) := Nat.le_trans hw8.out (Nat.le_of_lt (Nat.lt_of_lt_of_le hu2g.out hg9))
  have hg89 : Hid (y2.heap.size < g9) := Nat.lt_of_lt_of_le hu2g.out hg9
  obtain ⟨k0, k1, _⟩ := T9.out
  clear hcut hg9 t9 r9 b9 ja jb jc jd je jf jg jh ji jj jk jl jm jn jo k2 k3 k4 k5
  obtain ⟨br, hbr⟩ : ∃ b, decide (r < 0) = b := ⟨_, rfl⟩
  rw [hbr] at T9 k0 H_sgn
  go_wp2_with fail
  refine (H_sgn.out _ _ R9.out).mono ?_
  rintro e y3 ⟨rfl, b3⟩
  have D := Lib.hid (chain D.out b3)
  have T8 := Lib.hid (T8.out.next b3)
  have R8 := Lib.hid (Ri.below R8.out b3 (Nat.le_refl _))
  have T9 := Lib.hid (T9.out.next b3)
  have R9 := Lib.hid (Ri.below R9.out b3 (Nat.le_refl _))
  clear b3 k0 k1
  obtain ⟨k2, k3, _⟩ := I2.out.next D.out
  have HRRn := Lib.hid hbr
  clear hbr hbq
  go_wp2_with fail
  refine (H_sgy.out _ _ (Ri.below RY.out D.out (Nat.le_refl _))).mono ?_
  rintro e y4 ⟨rfl, b4⟩
  have D := Lib.hid (chain D.out b4)
  have T8 := Lib.hid (T8.out.next b4)
  have R8 := Lib.hid (Ri.below R8.out b4 (Nat.le_refl _))
  have T9 := Lib.hid (T9.out.next b4)
  clear b4 k2 k3 R9
  obtain ⟨k4, k5, k6, k7⟩ := T8.out
  have R8d := Lib.hid (Ri.drew R8.out)
  go_upto_region 7 with (fail)
  go_cut [41] (fun _ wx => ∃ (p : Option Addr) (n c : Nat), Hid (ZC (.bool bq1) (.slice p n c) wx y2.heap.size) ∧ Hid (Rz wx (.slice p n c) q1) ∧ Hid (ZC (.bool br) (.slice p9 n9 c9) wx g9) ∧ Hid (Below w0.heap.size w0 wx))
  case first =>
    rename_i J0 K0 hRJ hMK
    go_region_with
      (first
        | (go_at_call 16; (with_reducible refine (H_n1.out _).mono ?_); rintro e z1 ⟨v1, rfl, r1, b1⟩; have d1 := chain ((Below.refl y4.heap.size y4).drew) b1; have p4 := keep1 d1 k4; have p5 := keep1 d1 k5; have G1 := Lib.hid (And.intro (Ri.below R8d.out b1 (Nat.le_refl _)) r1); have D1 := Lib.hid d1; obtain ⟨pq1, bb1, oo1, cc1, rfl, rr1⟩ := r1; clear rr1 b1)
        | (go_at_call 75; (with_reducible refine (H_adj.out _ _ _ G1.out.1 G1.out.2).mono ?_); rintro e z2 ⟨v2, rfl, r2, b2⟩; have d2 := chain D1.out b2; have p4 := keep1 d2 k4; have p5 := keep1 d2 k5; have p6 := keepf d2 k4 k6; have p7 := keepf d2 k5 k7; have G2 := Lib.hid r2; have D2 := Lib.hid d2; obtain ⟨pq2, bb2, oo2, cq2, rfl, rr2⟩ := r2; clear rr2 b2)
        | fail)
    all_goals
      have ZZ := Lib.hid (T8.out.next D2.out)
      refine hMK _ _ (Met.intro (hRJ _ _ ?_))
      (repeat apply Exists.intro)
      refine ⟨?_, rfl⟩
      exact ⟨pq2, _, cq2, ZZ.out.set, G2.out.setq ZZ.out _ _, (T9.out.next D2.out).other (Nat.ne_of_gt hg89.out), below_set2 (chain D.out D2.out) (by have := hy2.out; have := Hsz.out; have := hw8.out; omega) _ _⟩
  obtain ⟨p8', n8', c8', T8, R8, T9, D⟩ := hcut
  clear k4 k5 k6 k7 R8d
  have R8d := Lib.hid (Ri.drew R8.out)
  have RXu := Lib.hid (Ri.below RX.out D.out (Nat.le_refl _))
  have RYd := Lib.hid (Ri.drew (Ri.below RY.out D.out (Nat.le_refl _)))
  obtain ⟨k0, k1, _⟩ := I1.out.next D.out
  obtain ⟨k2, k3, _⟩ := I2.out.next D.out
  obtain ⟨k4, k5, _⟩ := T8.out
  obtain ⟨k6, k7, k8, k9⟩ := T9.out
  obtain ⟨y5, hy5⟩ : ∃ y5 : World, y5 = wc := ⟨_, rfl⟩
  subst hy5
  go_upto_region 8 with (fail)
  go_cut [46] (fun _ wx => ∃ (p : Option Addr) (n c : Nat), Hid (ZC (.bool br1) (.slice p n c) wx g9) ∧ Hid (Rz wx (.slice p n c) r1) ∧ Hid (ZC (.bool bq1) (.slice p8' n8' c8') wx y2.heap.size) ∧ Hid (Rz wx (.slice p8' n8' c8') q1) ∧ Hid (Below w0.heap.size w0 wx))
  case first =>
    rename_i J0 K0 hRJ hMK
    go_region_with
      (first
        | (go_at_call 74; (with_reducible refine (H_mul2.out _ _ _ R8d.out RYd.out).mono ?_); rintro e z1 ⟨v1, rfl, rz1, b1⟩; have d1 := chain ((Below.refl y5.heap.size y5).drew) b1; have q0 := keep1 d1 k0; have q1 := keep1 d1 k1; have q2 := keep1 d1 k2; have q3 := keep1 d1 k3; have q4 := keep1 d1 k4; have q5 := keep1 d1 k5; have q6 := keep1 d1 k6; have q7 := keep1 d1 k7; have G1 := Lib.hid (And.intro (Ri.below RXu.out d1 (Nat.le_refl _)) rz1); have D1 := Lib.hid d1; obtain ⟨pq1, bb1, oo1, cc1, rfl, rr1⟩ := rz1; clear rr1 b1)
        | (go_at_call 70; (with_reducible refine (H_sub2.out _ _ _ G1.out.1 G1.out.2).mono ?_); rintro e z2 ⟨v2, rfl, rz2, b2⟩; have d2 := chain D1.out b2; have q0 := keep1 d2 k0; have q1 := keep1 d2 k1; have q2 := keep1 d2 k2; have q3 := keep1 d2 k3; have q4 := keep1 d2 k4; have q5 := keep1 d2 k5; have q6 := keep1 d2 k6; have q7 := keep1 d2 k7; have p8 := keepf d2 k6 k8; have p9' := keepf d2 k7 k9; have G2 := Lib.hid rz2; have D2 := Lib.hid d2; obtain ⟨pq2, bb2, oo2, cq2, rfl, rr2⟩ := rz2; clear rr2 b2)
        | fail)
    all_goals
      have ZZ := Lib.hid (T9.out.next D2.out)
      refine hMK _ _ (Met.intro (hRJ _ _ ?_))
      (repeat apply Exists.intro)
      refine ⟨?_, rfl⟩
      exact ⟨pq2, _, cq2, ZZ.out.set, G2.out.setq ZZ.out _ _, (T8.out.next D2.out).other (Nat.ne_of_lt hg89.out), (Ri.below R8.out D2.out (Nat.le_refl _)).setq ZZ.out _ _, below_set2 (chain D.out D2.out) (by have := hg9w.out; omega) _ _⟩
  obtain ⟨p9', n9', c9', T9, R9, T8, R8, D⟩ := hcut
  clear k0 k1 k2 k3 k4 k5 k6 k7 k8 k9 R8d RXu RYd
  obtain ⟨f0, f1, f2, f3⟩ := T8.out
  obtain ⟨f4, f5, f6, f7⟩ := T9.out
  obtain ⟨m0, m1, m2, m3⟩ := I3.out.next D.out
  obtain ⟨n0, n1, n2, n3⟩ := I4.out.next D.out
  obtain ⟨ja, jb, jc, jd, je, jf, jg, jh, _⟩ := far8q hy2.out
  obtain ⟨qa, qb, qc, qd, qe, qf, qg, qh, _⟩ := far8q hg9'.out
  have i5 := (I4.out.next D.out).other (g2 := w.heap.size + 1 + 1) (u := .bool bq1) (v := (.slice p8' n8' c8')) (by omega)
  have HZ := Lib.hid ((below_set2 (below_set2 (chain hb0.out D.out) (g := w.heap.size + 1 + 1) (by omega) (.bool bq1) (.slice p8' n8' c8')) (g := w.heap.size + 1 + 1 + 1) (by omega) (.bool br1) (.slice p9' n9' c9')).drew)
  have RQf := Lib.hid (Ri.drew ((R8.out.setq (I3.out.next D.out) (.bool bq1) (.slice p8' n8' c8')).setq i5 (.bool br1) (.slice p9' n9' c9')))
  have RRf := Lib.hid (Ri.drew ((R9.out.setq (I3.out.next D.out) (.bool bq1) (.slice p8' n8' c8')).setq i5 (.bool br1) (.slice p9' n9' c9')))
  clear i5
  go_wp2_with fail
  go_region
  go_wp2
  exact bodyPost_ret (v := .tuple #[.agg #[.bool bq1, (.slice p8' n8' c8')], .agg #[.bool br1, (.slice p9' n9' c9')]]) (by simp [results, Tryz.results20, go_sem, m0, m1, n0, n1]) rfl ⟨_, _, by rw [HQQ.out, HRR.out], RQf.out, RRf.out, HZ.out⟩
end Go.Proofs.YtlmklhffafcmmaaGreat

/- The reference's Quo: the Euclidean division of integers. -/
namespace Go.Proofs.YtlmklhffafcmmaaGreat
open Go.RowKit

theorem rquo_int (x y : Int) (v1 v2 : Value) (w : World) (k : Nat) (hk : k ≤ 90000) (hx : x.natAbs < D9 ^ k) (hy : y.natAbs < D9 ^ k) (h1 : Rz w v1 x) (h2 : Rz w v2 y) (hy0 : y ≠ 0) :
    Calls Tryz.prog 20 #[iV x v1, iV y v2] w (QIPost (x / y) (x % y) w) := by
  rcases Int.lt_or_le (x - q0 x y * y) 0 with hr | hr
  · rcases Int.lt_or_gt_of_ne hy0 with hs | hs
    · have h := rquo_neg2 x y v1 v2 w k hk hx hy h1 h2 hs hr
      obtain ⟨e1, e2⟩ := quo_neg2 hs hr
      rwa [e2, e1] at h
    · have h := rquo_neg1 x y v1 v2 w k hk hx hy h1 h2 hs hr
      obtain ⟨e1, e2⟩ := quo_neg1 hs hr
      rwa [e2, e1] at h
  · have h := rquo_pos x y v1 v2 w k hk hx hy h1 h2 hy0 hr
    obtain ⟨e1, e2⟩ := quo_pos hy0 hr
    rwa [e2, e1] at h
end Go.Proofs.YtlmklhffafcmmaaGreat

/- The reference's ratios: Lowest, FromRatio, ValidRatio. -/
namespace Go.Proofs.YtlmklhffafcmmaaGreat
open Go.RowKit

/-- A ratio of the reference. -/
def qV (x y : Int) (v1 v2 : Value) : Value := .agg #[.bool (decide (x < 0)), v1, .bool (decide (y < 0)), v2]
def RQPost (x y : Int) (w : World) (e : Ending) (w' : World) : Prop := ∃ v1 v2, e = .returned (qV x y v1 v2) ∧ Rz w' v1 x ∧ Rz w' v2 y ∧ Below w.heap.size w w'
theorem Ri.set4 {w : World} {g : Nat} {v : Value} {xs : List Nat} {b0 b1 : Bool} {p p' : Option Addr} {n c n' c' : Nat} (h : Ri w v xs) (q : ZC4 (.bool b0) (.slice p n c) (.bool b1) (.slice p' n' c') w g) (x y z u : Value) : Ri ((((w.setCell ⟨g, 0, none⟩ x).setCell ⟨g, 1, none⟩ y).setCell ⟨g, 2, none⟩ z).setCell ⟨g, 3, none⟩ u) v xs := by
  obtain ⟨⟨h1, h2, h3, h4⟩, _⟩ := q
  refine (((h.set h1 (fun _ => by simp)).set (old := .slice p n c) ?_ (fun _ => by simp)).set (old := .bool b1) ?_ (fun _ => by simp)).set (old := .slice p' n' c') ?_ (fun _ => by simp) <;> simp [go_sem, h1, h2, h3, h4]
/-- What both are divided by. -/
def lg (n d : Int) : Int := if d < 0 then -((Nat.gcd n.natAbs d.natAbs : Nat) : Int) else ((Nat.gcd n.natAbs d.natAbs : Nat) : Int)
theorem len9 {z : Int} {k : Nat} (h : z.natAbs < D9 ^ k) : (Nm.dg D9 z.natAbs).length ≤ k := Nm.len_le_of_val D92 (Nm.nrm_dg D92 _) (by rwa [Nm.val_dg D92])

set_option maxRecDepth 100000 in
set_option maxHeartbeats 4000000 in
theorem rlowest_neg (n d : Int) (v1 v2 : Value) (w : World) (k : Nat) (hk : k ≤ 90000) (hn : n.natAbs < D9 ^ k) (hd : d.natAbs < D9 ^ k) (h0 : d < 0) (h1 : Rz w v1 n) (h2 : Rz w v2 d) :
    Calls Tryz.prog 15 #[iV n v1, iV d v2] w (RQPost (n / lg n d) (d / lg n d) w) := by
  obtain ⟨G, hG⟩ : ∃ G : Int, ((Nat.gcd n.natAbs d.natAbs : Nat) : Int) = G := ⟨_, rfl⟩
  obtain ⟨G2, hG2⟩ : ∃ G2 : Int, lg n d = G2 := ⟨_, rfl⟩
  have hGG : G2 = -G := by rw [← hG2, ← hG]; unfold lg; rw [if_pos h0]
  have hgp : 0 < Nat.gcd n.natAbs d.natAbs := Nat.gcd_pos_of_pos_right _ (by omega)
  have hgl : Nat.gcd n.natAbs d.natAbs ≤ d.natAbs := Nat.gcd_le_right _ (by omega)
  have hG0 : G2 ≠ 0 := by omega
  have hGk : G2.natAbs < D9 ^ k := by omega
  have H_gcd : Hid (∀ v1 v2 w, Rz w v1 n → Rz w v2 d → Calls Tryz.prog 66 #[iV n v1, iV d v2] w (IntPost G w)) := fun v1 v2 w h1 h2 => by
    have h := rgcd_int n d v1 v2 w h1 h2 (Nat.le_trans (len9 hn) (by omega)) (Nat.le_trans (len9 hd) (by omega))
    rwa [hG] at h
  have H_sign : Hid (∀ v w, Rz w v d → Calls Tryz.prog 19 #[iV d v] w (SignPost (-1) w)) := fun v w h => by
    have h5 := rsign_int d v w h
    rwa [show d.sign = -1 from Int.sign_eq_neg_one_of_neg h0] at h5
  have H_neg : Hid (∀ v w, Rz w v G → Calls Tryz.prog 67 #[iV G v] w (IntPost G2 w)) := fun v w h => by
    have h5 := rneg_int G v w h
    rwa [← hGG] at h5
  have H_q1 := Lib.hid (fun v1 v2 w g1 g2 => rquo_int n G2 v1 v2 w k hk hn hGk g1 g2 hG0)
  have H_q2 := Lib.hid (fun v1 v2 w g1 g2 => rquo_int d G2 v1 v2 w k hk hd hGk g1 g2 hG0)
  have R1 : Hid (Rz w v1 n) := h1
  have R2 : Hid (Rz w v2 d) := h2
  rw [hG2]
  clear hG hG2 hGG hgp hgl hG0 hGk hn hd h0 hk
  obtain ⟨p1, b1, o1, c1, rfl, hr1⟩ := h1
  obtain ⟨p2, b2, o2, c2, rfl, hr2⟩ := h2
  clear hr1 hr2
  obtain ⟨z1, hz1⟩ : ∃ z, n / G2 = z := ⟨_, rfl⟩
  obtain ⟨z2, hz2⟩ : ∃ z, d / G2 = z := ⟨_, rfl⟩
  rw [hz1] at H_q1 ⊢
  rw [hz2] at H_q2 ⊢
  unfold QIPost at H_q1 H_q2
  unfold IntPost at H_gcd  H_neg
  unfold SignPost at H_sign
  unfold RQPost
  unfold iV at *
  generalize n % G2 = m1 at *
  generalize d % G2 = m2 at *
  clear hz1 hz2
  obtain ⟨bn, hbn⟩ : ∃ b, decide (n < 0) = b := ⟨_, rfl⟩
  obtain ⟨bd, hbd⟩ : ∃ b, decide (d < 0) = b := ⟨_, rfl⟩
  obtain ⟨bz1, hbz1⟩ : ∃ b, decide (z1 < 0) = b := ⟨_, rfl⟩
  obtain ⟨bz2, hbz2⟩ : ∃ b, decide (z2 < 0) = b := ⟨_, rfl⟩
  unfold qV
  rw [hbz1, hbz2]
  rw [hbn] at H_gcd H_q1 ⊢
  rw [hbd] at H_gcd H_sign H_q2 ⊢
  rw [hbz1] at H_q1
  rw [hbz2] at H_q2
  clear hbn hbd hbz1 hbz2
  generalize (Nm.dg D9 n.natAbs).length = l1 at *
  generalize (Nm.dg D9 d.natAbs).length = l2 at *
  generalize decide (G < 0) = bg at *
  generalize decide (G2 < 0) = bg2 at *
  generalize decide (m1 < 0) = bm1 at *
  generalize decide (m2 < 0) = bm2 at *
  obtain ⟨w0, hw0⟩ : ∃ w0 : World, w0 = ((w.alloc (.cells #[.bool bn, .slice p1 l1 c1] 38)).alloc (.cells #[.bool bd, .slice p2 l2 c2] 38)).alloc (.cells #[.bool false, .slice none 0 0, .bool false, .slice none 0 0] 40) := ⟨_, rfl⟩
  have hb0 : Hid (Below w.heap.size w w0) := by rw [hw0]; exact (((Below.refl _ _).alloc (Nat.le_refl _) _).alloc (by simp) _).alloc (by simp; omega) _
  have I1 : Hid (ZC (.bool bn) (.slice p1 l1 c1) w0 w.heap.size) := by rw [hw0]; exact ((ZC.new rfl).alloc _).alloc _
  have I2 : Hid (ZC (.bool bd) (.slice p2 l2 c2) w0 (w.heap.size + 1)) := by rw [hw0]; exact (ZC.new (by simp)).alloc _
  have I3 : Hid (ZC4 (.bool false) (.slice none 0 0) (.bool false) (.slice none 0 0) w0 (w.heap.size + 1 + 1)) := by
    rw [hw0]; have := ZC4.made0 (x := .bool false) (y := .slice none 0 0) (z := .bool false) (u := .slice none 0 0) (t := 40) ((w.alloc (.cells #[.bool bn, .slice p1 l1 c1] 38)).alloc (.cells #[.bool bd, .slice p2 l2 c2] 38)); show ZC4 _ _ _ _ _ _; simpa using this
  have R1 : Hid (Rz w0 (.slice p1 l1 c1) n) := Ri.below R1.out hb0.out (Nat.le_refl _)
  have R2 : Hid (Rz w0 (.slice p2 l2 c2) d) := Ri.below R2.out hb0.out (Nat.le_refl _)
  have Hw0 := Lib.hid hw0
  clear hw0
  go_enter Tryz.func15, Tryz.ntmps15
  go_wp2_with fail
  rw [← Hw0.out]
  refine (H_gcd.out _ _ _ R1.out R2.out).mono ?_
  rintro e y5 ⟨v5, rfl, r5, b9⟩
  obtain ⟨p5, q5, o5, c5, rfl, hr5⟩ := r5
  have R5 : Hid (Rz y5 (.slice p5 (Nm.dg D9 G.natAbs).length c5) G) := ⟨p5, q5, o5, c5, rfl, hr5⟩
  clear hr5
  generalize (Nm.dg D9 G.natAbs).length = l5 at *
  obtain ⟨u5, hu5⟩ : ∃ u : World, u = y5.alloc (.cells #[.bool bg, .slice p5 l5 c5] 38) := ⟨_, rfl⟩
  have D : Hid (Below w0.heap.size w0 u5) := by rw [hu5]; exact b9.alloc b9.size _
  have T5 : Hid (ZC (.bool bg) (.slice p5 l5 c5) u5 y5.heap.size) := by rw [hu5]; exact ZC.new rfl
  have R5 : Hid (Rz u5 (.slice p5 l5 c5) G) := by rw [hu5]; exact R5.out.allocd _
  have hy5 : Hid (w0.heap.size ≤ y5.heap.size) := b9.size
  have Hu5 := Lib.hid hu5
  clear hu5 b9
  go_upto_region 2 with (fail)
  rw [← Hu5.out]
  clear Hu5
  obtain ⟨k2, k3, _⟩ := I2.out.next D.out
  go_wp2_with fail
  refine (H_sign.out _ _ (Ri.below R2.out D.out (Nat.le_refl _))).mono ?_
  rintro e ys ⟨rfl, b9⟩
  have T5 := Lib.hid (T5.out.next b9)
  have R5 : Hid (Rz ys (.slice p5 l5 c5) G) := Ri.below R5.out b9 (Nat.le_refl _)
  have D := Lib.hid (chain D.out b9)
  clear b9 k2 k3
  obtain ⟨k4, k5, k4f, k5f⟩ := T5.out
  go_wp2_with fail
  refine (H_neg.out _ _ R5.out).mono ?_
  rintro e y7 ⟨v7, rfl, r7, b9⟩
  obtain ⟨p7, q7, o7, c7, rfl, hr7⟩ := r7
  have R7 : Hid (Rz y7 (.slice p7 (Nm.dg D9 G2.natAbs).length c7) G2) := ⟨p7, q7, o7, c7, rfl, hr7⟩
  clear hr7
  generalize (Nm.dg D9 G2.natAbs).length = l7 at *
  have T5 := Lib.hid (T5.out.next b9)
  have D7 := chain D.out b9
  obtain ⟨m4, m5, m4f, m5f⟩ := T5.out
  obtain ⟨u7, hu7⟩ : ∃ u : World, u = (y7.setCell ⟨y5.heap.size, 0, none⟩ (.bool bg2)).setCell ⟨y5.heap.size, 1, none⟩ (.slice p7 l7 c7) := ⟨_, rfl⟩
  have D : Hid (Below w0.heap.size w0 u7) := by rw [hu7]; exact below_set2 D7 hy5.out _ _
  have T5 : Hid (ZC (.bool bg2) (.slice p7 l7 c7) u7 y5.heap.size) := by rw [hu7]; exact T5.out.set
  have R5 : Hid (Rz u7 (.slice p7 l7 c7) G2) := by rw [hu7]; exact R7.out.set2 m4 m5 (fun _ => by simp)
  have Hu7 := Lib.hid hu7
  clear hu7 b9 D7 R7 k4 k5 k4f k5f
  go_upto_region 4 with (fail)
  rw [← Hu7.out]
  clear Hu7 m4 m5 m4f m5f
  obtain ⟨k0, k1, _⟩ := I1.out.next D.out
  obtain ⟨k4, k5, _⟩ := T5.out
  go_wp2_with fail
  refine (H_q1.out _ _ _ (Ri.below R1.out D.out (Nat.le_refl _)) R5.out).mono ?_
  rintro e y6 ⟨v6, x6, rfl, r6, s6, b9⟩
  obtain ⟨p6, q6, o6, c6, rfl, hr6⟩ := r6
  obtain ⟨p6x, q6x, o6x, c6x, rfl, hs6⟩ := s6
  have RR6 : Hid (Rz y6 (.slice p6 (Nm.dg D9 z1.natAbs).length c6) z1) := ⟨p6, q6, o6, c6, rfl, hr6⟩
  clear hr6 hs6
  generalize (Nm.dg D9 z1.natAbs).length = l6 at *
  generalize (Nm.dg D9 m1.natAbs).length = l6x at *
  obtain ⟨u6, hu6⟩ : ∃ u : World, u = (y6.alloc (.cells #[.bool bz1, .slice p6 l6 c6] 38)).alloc (.cells #[.bool bm1, .slice p6x l6x c6x] 38) := ⟨_, rfl⟩
  have E : Hid (Below u7.heap.size u7 u6) := by rw [hu6]; exact (b9.alloc b9.size _).alloc (by simp; exact Nat.le_succ_of_le b9.size) _
  have D := Lib.hid (chain D.out E.out)
  have T5 := Lib.hid (T5.out.next E.out)
  have R5 := Lib.hid (Ri.below R5.out E.out (Nat.le_refl _))
  have T6 : Hid (ZC (.bool bz1) (.slice p6 l6 c6) u6 y6.heap.size) := by rw [hu6]; exact (ZC.new rfl).alloc _
  have RR6 : Hid (Rz u6 (.slice p6 l6 c6) z1) := by rw [hu6]; exact (RR6.out.allocd _).allocd _
  have Hu6 := Lib.hid hu6
  clear hu6 b9 E k0 k1 k4 k5
  go_upto_region 5 with (fail)
  rw [← Hu6.out]
  clear Hu6
  obtain ⟨k0, k1, _⟩ := I2.out.next D.out
  obtain ⟨k4, k5, _⟩ := T5.out
  go_wp2_with fail
  refine (H_q2.out _ _ _ (Ri.below R2.out D.out (Nat.le_refl _)) R5.out).mono ?_
  rintro e y8 ⟨v8, x8, rfl, r8, s8, b9⟩
  obtain ⟨p8, q8, o8, c8, rfl, hr8⟩ := r8
  obtain ⟨p8x, q8x, o8x, c8x, rfl, hs8⟩ := s8
  have RR8 : Hid (Rz y8 (.slice p8 (Nm.dg D9 z2.natAbs).length c8) z2) := ⟨p8, q8, o8, c8, rfl, hr8⟩
  clear hr8 hs8
  generalize (Nm.dg D9 z2.natAbs).length = l8 at *
  generalize (Nm.dg D9 m2.natAbs).length = l8x at *
  obtain ⟨u8, hu8⟩ : ∃ u : World, u = (y8.alloc (.cells #[.bool bz2, .slice p8 l8 c8] 38)).alloc (.cells #[.bool bm2, .slice p8x l8x c8x] 38) := ⟨_, rfl⟩
  have E : Hid (Below u6.heap.size u6 u8) := by rw [hu8]; exact (b9.alloc b9.size _).alloc (by simp; exact Nat.le_succ_of_le b9.size) _
  have D := Lib.hid (chain D.out E.out)
  have T5 := Lib.hid (T5.out.next E.out)
  have R5 := Lib.hid (Ri.below R5.out E.out (Nat.le_refl _))
  have T6 := Lib.hid (T6.out.next E.out)
  have RR6 := Lib.hid (Ri.below RR6.out E.out (Nat.le_refl _))
  have T8 : Hid (ZC (.bool bz2) (.slice p8 l8 c8) u8 y8.heap.size) := by rw [hu8]; exact (ZC.new rfl).alloc _
  have RR8 : Hid (Rz u8 (.slice p8 l8 c8) z2) := by rw [hu8]; exact (RR8.out.allocd _).allocd _
  have Hu8 := Lib.hid hu8
  clear hu8 b9 E k0 k1 k4 k5
  go_upto_region 6 with (fail)
  rw [← Hu8.out]
  clear Hu8
  obtain ⟨k0, k1, _⟩ := T6.out
  obtain ⟨k2, k3, _⟩ := T8.out
  have Q3 := I3.out.next D.out
  have Q3h := Lib.hid Q3
  obtain ⟨⟨n0, n1, n2, n3⟩, n4, n5, n6, n7⟩ := Q3
  have HZ := Lib.hid (below_set4 (chain hb0.out D.out) (g := w.heap.size + 1 + 1) (by omega) (.bool bz1) (.slice p6 l6 c6) (.bool bz2) (.slice p8 l8 c8))
  have HR1 := Lib.hid (Ri.set4 RR6.out Q3h.out (.bool bz1) (.slice p6 l6 c6) (.bool bz2) (.slice p8 l8 c8))
  have HR2 := Lib.hid (Ri.set4 RR8.out Q3h.out (.bool bz1) (.slice p6 l6 c6) (.bool bz2) (.slice p8 l8 c8))
  go_wp2
  exact bodyPost_ret (v := .agg #[.bool bz1, .slice p6 l6 c6, .bool bz2, .slice p8 l8 c8]) (by simp [results, Tryz.results15, go_sem, n0, n1, n2, n3]) rfl ⟨_, _, rfl, HR1.out, HR2.out, HZ.out⟩

set_option maxRecDepth 100000 in
set_option maxHeartbeats 4000000 in
theorem rlowest_pos (n d : Int) (v1 v2 : Value) (w : World) (k : Nat) (hk : k ≤ 90000) (hn : n.natAbs < D9 ^ k) (hd : d.natAbs < D9 ^ k) (h0 : 0 < d) (h1 : Rz w v1 n) (h2 : Rz w v2 d) :
    Calls Tryz.prog 15 #[iV n v1, iV d v2] w (RQPost (n / lg n d) (d / lg n d) w) := by
  obtain ⟨G, hG⟩ : ∃ G : Int, ((Nat.gcd n.natAbs d.natAbs : Nat) : Int) = G := ⟨_, rfl⟩
  obtain ⟨G2, hG2⟩ : ∃ G2 : Int, lg n d = G2 := ⟨_, rfl⟩
  have hGG : G2 = G := by rw [← hG2, ← hG]; unfold lg; rw [if_neg (by omega)]
  have hgp : 0 < Nat.gcd n.natAbs d.natAbs := Nat.gcd_pos_of_pos_right _ (by omega)
  have hgl : Nat.gcd n.natAbs d.natAbs ≤ d.natAbs := Nat.gcd_le_right _ (by omega)
  have hG0 : G2 ≠ 0 := by omega
  have hGk : G2.natAbs < D9 ^ k := by omega
  have H_gcd : Hid (∀ v1 v2 w, Rz w v1 n → Rz w v2 d → Calls Tryz.prog 66 #[iV n v1, iV d v2] w (IntPost G w)) := fun v1 v2 w h1 h2 => by
    have h := rgcd_int n d v1 v2 w h1 h2 (Nat.le_trans (len9 hn) (by omega)) (Nat.le_trans (len9 hd) (by omega))
    rwa [hG] at h
  have H_sign : Hid (∀ v w, Rz w v d → Calls Tryz.prog 19 #[iV d v] w (SignPost 1 w)) := fun v w h => by
    have h5 := rsign_int d v w h
    rwa [show d.sign = 1 from Int.sign_eq_one_of_pos h0] at h5
  have H_q1 := Lib.hid (fun v1 v2 w g1 g2 => rquo_int n G2 v1 v2 w k hk hn hGk g1 g2 hG0)
  have H_q2 := Lib.hid (fun v1 v2 w g1 g2 => rquo_int d G2 v1 v2 w k hk hd hGk g1 g2 hG0)
  have R1 : Hid (Rz w v1 n) := h1
  have R2 : Hid (Rz w v2 d) := h2
  rw [hG2]
  rw [hGG] at H_q1 H_q2 ⊢
  clear hG hG2 hGG hgp hgl hG0 hGk hn hd h0 hk
  obtain ⟨p1, b1, o1, c1, rfl, hr1⟩ := h1
  obtain ⟨p2, b2, o2, c2, rfl, hr2⟩ := h2
  clear hr1 hr2
  obtain ⟨z1, hz1⟩ : ∃ z, n / G = z := ⟨_, rfl⟩
  obtain ⟨z2, hz2⟩ : ∃ z, d / G = z := ⟨_, rfl⟩
  rw [hz1] at H_q1 ⊢
  rw [hz2] at H_q2 ⊢
  unfold QIPost at H_q1 H_q2
  unfold IntPost at H_gcd 
  unfold SignPost at H_sign
  unfold RQPost
  unfold iV at *
  generalize n % G = m1 at *
  generalize d % G = m2 at *
  clear hz1 hz2
  obtain ⟨bn, hbn⟩ : ∃ b, decide (n < 0) = b := ⟨_, rfl⟩
  obtain ⟨bd, hbd⟩ : ∃ b, decide (d < 0) = b := ⟨_, rfl⟩
  obtain ⟨bz1, hbz1⟩ : ∃ b, decide (z1 < 0) = b := ⟨_, rfl⟩
  obtain ⟨bz2, hbz2⟩ : ∃ b, decide (z2 < 0) = b := ⟨_, rfl⟩
  unfold qV
  rw [hbz1, hbz2]
  rw [hbn] at H_gcd H_q1 ⊢
  rw [hbd] at H_gcd H_sign H_q2 ⊢
  rw [hbz1] at H_q1
  rw [hbz2] at H_q2
  clear hbn hbd hbz1 hbz2
  generalize (Nm.dg D9 n.natAbs).length = l1 at *
  generalize (Nm.dg D9 d.natAbs).length = l2 at *
  generalize decide (G < 0) = bg at *
  generalize decide (m1 < 0) = bm1 at *
  generalize decide (m2 < 0) = bm2 at *
  obtain ⟨w0, hw0⟩ : ∃ w0 : World, w0 = ((w.alloc (.cells #[.bool bn, .slice p1 l1 c1] 38)).alloc (.cells #[.bool bd, .slice p2 l2 c2] 38)).alloc (.cells #[.bool false, .slice none 0 0, .bool false, .slice none 0 0] 40) := ⟨_, rfl⟩
  have hb0 : Hid (Below w.heap.size w w0) := by rw [hw0]; exact (((Below.refl _ _).alloc (Nat.le_refl _) _).alloc (by simp) _).alloc (by simp; omega) _
  have I1 : Hid (ZC (.bool bn) (.slice p1 l1 c1) w0 w.heap.size) := by rw [hw0]; exact ((ZC.new rfl).alloc _).alloc _
  have I2 : Hid (ZC (.bool bd) (.slice p2 l2 c2) w0 (w.heap.size + 1)) := by rw [hw0]; exact (ZC.new (by simp)).alloc _
  have I3 : Hid (ZC4 (.bool false) (.slice none 0 0) (.bool false) (.slice none 0 0) w0 (w.heap.size + 1 + 1)) := by
    rw [hw0]; have := ZC4.made0 (x := .bool false) (y := .slice none 0 0) (z := .bool false) (u := .slice none 0 0) (t := 40) ((w.alloc (.cells #[.bool bn, .slice p1 l1 c1] 38)).alloc (.cells #[.bool bd, .slice p2 l2 c2] 38)); show ZC4 _ _ _ _ _ _; simpa using this
  have R1 : Hid (Rz w0 (.slice p1 l1 c1) n) := Ri.below R1.out hb0.out (Nat.le_refl _)
  have R2 : Hid (Rz w0 (.slice p2 l2 c2) d) := Ri.below R2.out hb0.out (Nat.le_refl _)
  have Hw0 := Lib.hid hw0
  clear hw0
  go_enter Tryz.func15, Tryz.ntmps15
  go_wp2_with fail
  rw [← Hw0.out]
  refine (H_gcd.out _ _ _ R1.out R2.out).mono ?_
  rintro e y5 ⟨v5, rfl, r5, b9⟩
  obtain ⟨p5, q5, o5, c5, rfl, hr5⟩ := r5
  have R5 : Hid (Rz y5 (.slice p5 (Nm.dg D9 G.natAbs).length c5) G) := ⟨p5, q5, o5, c5, rfl, hr5⟩
  clear hr5
  generalize (Nm.dg D9 G.natAbs).length = l5 at *
  obtain ⟨u5, hu5⟩ : ∃ u : World, u = y5.alloc (.cells #[.bool bg, .slice p5 l5 c5] 38) := ⟨_, rfl⟩
  have D : Hid (Below w0.heap.size w0 u5) := by rw [hu5]; exact b9.alloc b9.size _
  have T5 : Hid (ZC (.bool bg) (.slice p5 l5 c5) u5 y5.heap.size) := by rw [hu5]; exact ZC.new rfl
  have R5 : Hid (Rz u5 (.slice p5 l5 c5) G) := by rw [hu5]; exact R5.out.allocd _
  have hy5 : Hid (w0.heap.size ≤ y5.heap.size) := b9.size
  have Hu5 := Lib.hid hu5
  clear hu5 b9
  go_upto_region 2 with (fail)
  rw [← Hu5.out]
  clear Hu5
  obtain ⟨k2, k3, _⟩ := I2.out.next D.out
  go_wp2_with fail
  refine (H_sign.out _ _ (Ri.below R2.out D.out (Nat.le_refl _))).mono ?_
  rintro e ys ⟨rfl, b9⟩
  have T5 := Lib.hid (T5.out.next b9)
  have R5 : Hid (Rz ys (.slice p5 l5 c5) G) := Ri.below R5.out b9 (Nat.le_refl _)
  have D := Lib.hid (chain D.out b9)
  clear b9 k2 k3
  obtain ⟨k0, k1, _⟩ := I1.out.next D.out
  obtain ⟨k4, k5, _⟩ := T5.out
  go_wp2_with fail
  refine (H_q1.out _ _ _ (Ri.below R1.out D.out (Nat.le_refl _)) R5.out).mono ?_
  rintro e y6 ⟨v6, x6, rfl, r6, s6, b9⟩
  obtain ⟨p6, q6, o6, c6, rfl, hr6⟩ := r6
  obtain ⟨p6x, q6x, o6x, c6x, rfl, hs6⟩ := s6
  have RR6 : Hid (Rz y6 (.slice p6 (Nm.dg D9 z1.natAbs).length c6) z1) := ⟨p6, q6, o6, c6, rfl, hr6⟩
  clear hr6 hs6
  generalize (Nm.dg D9 z1.natAbs).length = l6 at *
  generalize (Nm.dg D9 m1.natAbs).length = l6x at *
  obtain ⟨u6, hu6⟩ : ∃ u : World, u = (y6.alloc (.cells #[.bool bz1, .slice p6 l6 c6] 38)).alloc (.cells #[.bool bm1, .slice p6x l6x c6x] 38) := ⟨_, rfl⟩
  have E : Hid (Below ys.heap.size ys u6) := by rw [hu6]; exact (b9.alloc b9.size _).alloc (by simp; exact Nat.le_succ_of_le b9.size) _
  have D := Lib.hid (chain D.out E.out)
  have T5 := Lib.hid (T5.out.next E.out)
  have R5 := Lib.hid (Ri.below R5.out E.out (Nat.le_refl _))
  have T6 : Hid (ZC (.bool bz1) (.slice p6 l6 c6) u6 y6.heap.size) := by rw [hu6]; exact (ZC.new rfl).alloc _
  have RR6 : Hid (Rz u6 (.slice p6 l6 c6) z1) := by rw [hu6]; exact (RR6.out.allocd _).allocd _
  have Hu6 := Lib.hid hu6
  clear hu6 b9 E k0 k1 k4 k5
  go_upto_region 5 with (fail)
  rw [← Hu6.out]
  clear Hu6
  obtain ⟨k0, k1, _⟩ := I2.out.next D.out
  obtain ⟨k4, k5, _⟩ := T5.out
  go_wp2_with fail
  refine (H_q2.out _ _ _ (Ri.below R2.out D.out (Nat.le_refl _)) R5.out).mono ?_
  rintro e y8 ⟨v8, x8, rfl, r8, s8, b9⟩
  obtain ⟨p8, q8, o8, c8, rfl, hr8⟩ := r8
  obtain ⟨p8x, q8x, o8x, c8x, rfl, hs8⟩ := s8
  have RR8 : Hid (Rz y8 (.slice p8 (Nm.dg D9 z2.natAbs).length c8) z2) := ⟨p8, q8, o8, c8, rfl, hr8⟩
  clear hr8 hs8
  generalize (Nm.dg D9 z2.natAbs).length = l8 at *
  generalize (Nm.dg D9 m2.natAbs).length = l8x at *
  obtain ⟨u8, hu8⟩ : ∃ u : World, u = (y8.alloc (.cells #[.bool bz2, .slice p8 l8 c8] 38)).alloc (.cells #[.bool bm2, .slice p8x l8x c8x] 38) := ⟨_, rfl⟩
  have E : Hid (Below u6.heap.size u6 u8) := by rw [hu8]; exact (b9.alloc b9.size _).alloc (by simp; exact Nat.le_succ_of_le b9.size) _
  have D := Lib.hid (chain D.out E.out)
  have T5 := Lib.hid (T5.out.next E.out)
  have R5 := Lib.hid (Ri.below R5.out E.out (Nat.le_refl _))
  have T6 := Lib.hid (T6.out.next E.out)
  have RR6 := Lib.hid (Ri.below RR6.out E.out (Nat.le_refl _))
  have T8 : Hid (ZC (.bool bz2) (.slice p8 l8 c8) u8 y8.heap.size) := by rw [hu8]; exact (ZC.new rfl).alloc _
  have RR8 : Hid (Rz u8 (.slice p8 l8 c8) z2) := by rw [hu8]; exact (RR8.out.allocd _).allocd _
  have Hu8 := Lib.hid hu8
  clear hu8 b9 E k0 k1 k4 k5
  go_upto_region 6 with (fail)
  rw [← Hu8.out]
  clear Hu8
  obtain ⟨k0, k1, _⟩ := T6.out
  obtain ⟨k2, k3, _⟩ := T8.out
  have Q3 := I3.out.next D.out
  have Q3h := Lib.hid Q3
  obtain ⟨⟨n0, n1, n2, n3⟩, n4, n5, n6, n7⟩ := Q3
  have HZ := Lib.hid (below_set4 (chain hb0.out D.out) (g := w.heap.size + 1 + 1) (by omega) (.bool bz1) (.slice p6 l6 c6) (.bool bz2) (.slice p8 l8 c8))
  have HR1 := Lib.hid (Ri.set4 RR6.out Q3h.out (.bool bz1) (.slice p6 l6 c6) (.bool bz2) (.slice p8 l8 c8))
  have HR2 := Lib.hid (Ri.set4 RR8.out Q3h.out (.bool bz1) (.slice p6 l6 c6) (.bool bz2) (.slice p8 l8 c8))
  go_wp2
  exact bodyPost_ret (v := .agg #[.bool bz1, .slice p6 l6 c6, .bool bz2, .slice p8 l8 c8]) (by simp [results, Tryz.results15, go_sem, n0, n1, n2, n3]) rfl ⟨_, _, rfl, HR1.out, HR2.out, HZ.out⟩

theorem rlowest_int (n d : Int) (v1 v2 : Value) (w : World) (k : Nat) (hk : k ≤ 90000) (hn : n.natAbs < D9 ^ k) (hd : d.natAbs < D9 ^ k) (h0 : d ≠ 0) (h1 : Rz w v1 n) (h2 : Rz w v2 d) :
    Calls Tryz.prog 15 #[iV n v1, iV d v2] w (RQPost (n / lg n d) (d / lg n d) w) := by
  rcases Int.lt_or_gt_of_ne h0 with h | h
  · exact rlowest_neg n d v1 v2 w k hk hn hd h h1 h2
  · exact rlowest_pos n d v1 v2 w k hk hn hd h h1 h2
end Go.Proofs.YtlmklhffafcmmaaGreat

/- The function wide.Floor where nothing fails. -/
namespace Go.Proofs.YtlmklhffafcmmaaGreat
open Go.RowKit

set_option maxRecDepth 100000 in
set_option maxHeartbeats 2000000 in
theorem Floor_ok (a b : Bool) (s t : ByteArray) (w : World) (hd : DivOK (bv s) (bv t)) (hv1 : vld a s = true) (hv2 : vld b t = true) (hs : 0 < sgV b t) (h0 : 0 < bv t) :
    Calls Tryz.prog 11 #[rat a s b t] w (WPost (wd (a != b) (eq1 a (bv s) (bv t))) 0 w) := by
  have z1 := vld_size hv1
  have z2 := vld_size hv2
  have HV := ValidRatio_any a b s t
  have hvr : vldR a s b t = true := by unfold vldR; rw [hv1, decide_eq_true hs]; rfl
  rw [hvr] at HV
  have HA := Lib.hid (fun w => HV w (by omega) (by omega))
  have HQ := Lib.hid (fun w => Quo_valid a b s t w hd hv1 hv2 h0)
  obtain ⟨qb, qs, hq⟩ : ∃ x y, wd (a != b) (eq1 a (bv s) (bv t)) = .agg #[.bool x, .string y] := ⟨_, _, rfl⟩
  obtain ⟨rb, rs, hr⟩ : ∃ x y, wd false (er1 a (bv s) (bv t)) = .agg #[.bool x, .string y] := ⟨_, _, rfl⟩
  rw [hq] at HQ ⊢
  rw [hr] at HQ
  clear hd hv1 hv2 hs h0 HV hvr hq hr
  unfold rat
  obtain ⟨w0, hw0⟩ : ∃ w0 : World, w0 = (w.alloc (.cells #[.bool a, .string s, .bool b, .string t] 27)).alloc (.cells #[.bool false, .string ⟨#[]⟩] 23) := ⟨_, rfl⟩
  have hb0 : Hid (Below w.heap.size w w0) := by rw [hw0]; exact ((Below.refl _ _).alloc (Nat.le_refl _) _).alloc (by simp) _
  have k0 : w0.cell? ⟨w.heap.size, 0, none⟩ = some (.bool a) := by rw [hw0]; simp [go_sem]
  have k1 : w0.cell? ⟨w.heap.size, 1, none⟩ = some (.string s) := by rw [hw0]; simp [go_sem]
  have k2 : w0.cell? ⟨w.heap.size, 2, none⟩ = some (.bool b) := by rw [hw0]; simp [go_sem]
  have k3 : w0.cell? ⟨w.heap.size, 3, none⟩ = some (.string t) := by rw [hw0]; simp [go_sem]
  have k4 : w0.cell? ⟨w.heap.size + 1, 0, none⟩ = some (.bool false) := by rw [hw0]; simp [go_sem]
  have k5 : w0.cell? ⟨w.heap.size + 1, 1, none⟩ = some (.string ⟨#[]⟩) := by rw [hw0]; simp [go_sem]
  have k6 : w0.frozen? ⟨w.heap.size + 1, 0, none⟩ = false := by rw [hw0]; simp [go_sem]
  have k7 : w0.frozen? ⟨w.heap.size + 1, 1, none⟩ = false := by rw [hw0]; simp [go_sem]
  have hsz : Hid (w0.heap.size = w.heap.size + 2) := by rw [hw0]; show _ = _; simp
  have KK := Lib.hid (And.intro k0 (And.intro k1 (And.intro k2 k3)))
  have KR := Lib.hid (And.intro k4 (And.intro k5 (And.intro k6 k7)))
  have Hw0 := Lib.hid hw0
  clear k0 k1 k2 k3 k4 k5 k6 k7 hw0
  go_enter Tryz.func11, Tryz.ntmps11
  go_wp2_with fail
  rw [← Hw0.out]
  refine (HA.out _).mono ?_
  rintro e wa ⟨rfl, ba⟩
  have q0 := keep1 ba KK.out.1
  have q1 := keep1 ba KK.out.2.1
  have q2 := keep1 ba KK.out.2.2.1
  have q3 := keep1 ba KK.out.2.2.2
  have BA := Lib.hid ba
  clear ba
  go_wp2_with fail
  refine (HQ.out _).mono ?_
  rintro e wb ⟨rfl, bb⟩
  have c3 := chain BA.out bb
  have y0 := keep1 c3 KR.out.1
  have y1 := keep1 c3 KR.out.2.1
  have y2 := keepf c3 KR.out.1 KR.out.2.2.1
  have y3 := keepf c3 KR.out.2.1 KR.out.2.2.2
  have s0 := c3.size
  have s1 := hsz.out
  have f1 : ¬ wb.heap.size = w.heap.size + 1 := by omega
  have f2 : ¬ w.heap.size + 1 = wb.heap.size := by omega
  have f3 : w.heap.size + 1 < wb.heap.size := by omega
  have f4 : ¬ wb.heap.size + 1 = w.heap.size + 1 := by omega
  have f5 : ¬ w.heap.size + 1 = wb.heap.size + 1 := by omega
  have f6 : ¬ w.heap.size = wb.heap.size := by omega
  have f7 : ¬ wb.heap.size = w.heap.size := by omega
  have f8 : w.heap.size < wb.heap.size := by omega
  have HZ := Lib.hid (((below_set2 (chain hb0.out c3) (g := w.heap.size + 1) (by omega) (.bool qb) (.string qs)).alloc (by simpa using (chain hb0.out c3).size) (.cells #[.bool qb, .string qs] 23)).alloc (by have := (chain hb0.out c3).size; simp; omega) (.cells #[.bool rb, .string rs] 23))
  clear bb c3 s0 s1 q0 q1 q2 q3
  go_wp2
  exact bodyPost_ret (v := .tuple #[.agg #[.bool qb, .string qs], .int .i64 0]) (by simp [results, Tryz.results11, go_sem, y0, y1, f1, f2, f3, f6, f7, f8]) rfl ⟨rfl, HZ.out⟩
end Go.Proofs.YtlmklhffafcmmaaGreat

/- The bytes of a number read as that number, and are valid. -/
namespace Go.Proofs.YtlmklhffafcmmaaGreat
open Go.RowKit

theorem bs_list (n : Nat) : (bs n).data.toList = (Nm.dg 256 n).reverse.map UInt8.ofNat := rfl
theorem rev_bs (n : Nat) : rev (bs n) = Nm.dg 256 n := by
  unfold rev
  rw [bs_list, List.map_map, ← List.map_reverse, List.reverse_reverse]
  have h := Nm.dig_dg (by decide : 2 ≤ 256) n
  conv => rhs; rw [← List.map_id (Nm.dg 256 n)]
  apply List.map_congr_left
  intro x hx
  have := h x hx
  simp [UInt8.toNat_ofNat', Nat.mod_eq_of_lt this]
theorem bv_bs (n : Nat) : bv (bs n) = n := by
  unfold bv
  rw [rev_bs]
  exact Nm.val_dg (by decide) n
theorem bs_size (n : Nat) : (bs n).size = (Nm.dg 256 n).length := by
  have h := rev_length (bs n)
  rw [rev_bs] at h
  exact h.symm
theorem can_bs (n : Nat) : Can (bs n) := by
  intro h e
  have h2 : 0 < (Nm.dg 256 n).length := by rw [← bs_size]; exact h
  have h3 := Nm.nrm_last (Nm.nrm_dg (by decide : 2 ≤ 256) n) h2
  have h4 := Nm.dig_get (Nm.dig_dg (by decide : 2 ≤ 256) n) ((Nm.dg 256 n).length - 1) (by omega)
  have h5 : (bs n).data.toList[0]? = some 0 := by
    have : (bs n).data.toList[0]'h = 0 := e
    exact (List.getElem?_eq_getElem (l := (bs n).data.toList) h).trans (congrArg some this)
  rw [bs_list, List.getElem?_map, List.getElem?_reverse (by omega), List.getElem?_eq_getElem (by omega)] at h5
  have h6 := Option.some.inj h5
  have h7 := congrArg UInt8.toNat h6
  simp only [UInt8.toNat_ofNat', Nat.sub_zero] at h7
  rw [Nat.mod_eq_of_lt h4] at h7
  exact h3 h7
theorem pow_256 (k : Nat) : (256 : Nat) ^ k = 2 ^ (8 * k) := by rw [Nat.pow_mul]
theorem lt_256' {n k : Nat} (h : n < Top) (hk : TopBits ≤ 8 * k) : n < 256 ^ k := by
  rw [pow_256]
  exact Nat.lt_of_lt_of_le h (Nat.pow_le_pow_right (by decide) hk)
theorem bs_size_le {n k : Nat} (h : n < Top) (hk : TopBits ≤ 8 * k) : (bs n).size ≤ k := by
  rw [bs_size]
  refine Nm.len_le_of_val (by decide : 2 ≤ 256) (Nm.nrm_dg (by decide) n) ?_
  rw [Nm.val_dg (by decide)]
  exact lt_256' h hk
theorem vld_bs {a : Bool} {n : Nat} (h : n < Top) (ha : a = true → n ≠ 0) : vld a (bs n) = true := by
  unfold vld
  split
  · next h0 =>
    have h1 : (bs n).size ≤ 8192 := bs_size_le h (by rw [TopBits_eq]; decide)
    have h2 : ((bs n)[0] != 0) = true := by simpa using can_bs n h0
    rw [decide_eq_true h1, h2]; rfl
  · next h0 =>
    have hn : n = 0 := by
      have := bv_bs n
      rw [(bv_zero_iff (can_bs n)).2 (by omega)] at this
      exact this.symm
    cases a with
    | false => rfl
    | true => exact absurd hn (ha rfl)
theorem W_Top2 {n : Nat} (h : n < W) : n < Top := Nat.lt_of_lt_of_le h W_Top

/-- The wide integer of an integer: its sign and its magnitude. -/
def zb (z : Int) : Bool := decide (z < 0)
def zs (z : Int) : ByteArray := bs z.natAbs
theorem zb_zs_valid {z : Int} (h : z.natAbs < Top) : vld (zb z) (zs z) = true := vld_bs h fun hz => by
  have : z < 0 := of_decide_eq_true hz
  omega
theorem bv_zs (z : Int) : bv (zs z) = z.natAbs := bv_bs _
theorem sgV_z {z : Int} (h : z.natAbs < Top) : sgV (zb z) (zs z) = Int.sign z := by
  have hv := zb_zs_valid h
  have hc := vld_can hv
  have h1 := bv_zero_iff hc
  rw [bv_zs] at h1
  unfold sgV
  rcases Int.lt_trichotomy z 0 with g | g | g
  · have hb : zb z = true := decide_eq_true g
    have h2 : 0 < (zs z).size := by
      rcases Nat.eq_zero_or_pos (zs z).size with h3 | h3
      · have := h1.2 h3; omega
      · exact h3
    rw [if_pos ⟨hv, h2⟩, if_pos hb, Int.sign_eq_neg_one_of_neg g]
  · subst g
    rw [if_neg (by intro h3; have := h1.1 rfl; omega)]
    rfl
  · have hb : zb z = false := decide_eq_false (by omega)
    have h2 : 0 < (zs z).size := by
      rcases Nat.eq_zero_or_pos (zs z).size with h3 | h3
      · have := h1.2 h3; omega
      · exact h3
    rw [if_pos ⟨hv, h2⟩, if_neg (by rw [hb]; simp), Int.sign_eq_one_of_pos g]
theorem zs_size {z : Int} (h : z.natAbs < Top) : (zs z).size ≤ 8192 := vld_size (zb_zs_valid h)
end Go.Proofs.YtlmklhffafcmmaaGreat

/- The function wide.RatioOf where nothing fails. -/
namespace Go.Proofs.YtlmklhffafcmmaaGreat
open Go.RowKit

set_option maxRecDepth 100000 in
set_option maxHeartbeats 2000000 in
theorem RatioOf_ok (x y : Int) (A B : Nat) (w : World) (hl : LowOK x.natAbs y.natAbs A B) (h1 : -9223372036854775808 ≤ x) (h2 : x ≤ 9223372036854775807) (h3 : -9223372036854775808 ≤ y) (h4 : y ≤ 9223372036854775807) (h0 : y ≠ 0) :
    Calls Tryz.prog 10 #[.int .i64 x, .int .i64 y] w (RPost ((zb x != zb y) && decide (A ≠ 0)) (bs A) false (bs B) 0 w) := by
  have t1 : x.natAbs < Top := W_Top2 (by unfold W; omega)
  have t2 : y.natAbs < Top := W_Top2 (by unfold W; omega)
  have H1 : Hid (∀ w, Calls Tryz.prog 52 #[.int .i64 x] w fun e w' => e = .returned (.agg #[.bool (zb x), .string (zs x)]) ∧ Below w.heap.size w w') := fun w => Of_any x w h1 h2
  have H2 : Hid (∀ w, Calls Tryz.prog 52 #[.int .i64 y] w fun e w' => e = .returned (.agg #[.bool (zb y), .string (zs y)]) ∧ Below w.heap.size w w') := fun w => Of_any y w h3 h4
  have HP := Lib.hid (fun w => Ratio_ok (zb x) (zb y) (zs x) (zs y) A B w (by rw [bv_zs, bv_zs]; exact hl) (zb_zs_valid t1) (zb_zs_valid t2) (by rw [bv_zs]; omega))
  clear hl t1 t2 h0
  generalize ((zb x != zb y) && decide (A ≠ 0)) = xb at *
  generalize bs A = xs at *
  generalize bs B = ys at *
  generalize zb x = a at *
  generalize zb y = b at *
  generalize zs x = s at *
  generalize zs y = t at *
  obtain ⟨w0, hw0⟩ : ∃ w0 : World, w0 = w.alloc (.cells #[.bool false, .string ⟨#[]⟩, .bool false, .string ⟨#[]⟩] 27) := ⟨_, rfl⟩
  have hb0 : Hid (Below w.heap.size w w0) := by rw [hw0]; exact below_one _ _
  have k4 : w0.cell? ⟨w.heap.size, 0, none⟩ = some (.bool false) ∧ w0.cell? ⟨w.heap.size, 1, none⟩ = some (.string ⟨#[]⟩) ∧ w0.cell? ⟨w.heap.size, 2, none⟩ = some (.bool false) ∧ w0.cell? ⟨w.heap.size, 3, none⟩ = some (.string ⟨#[]⟩) := by
    rw [hw0]; refine ⟨?_, ?_, ?_, ?_⟩ <;> simp [go_sem]
  have k5 : w0.frozen? ⟨w.heap.size, 0, none⟩ = false ∧ w0.frozen? ⟨w.heap.size, 1, none⟩ = false ∧ w0.frozen? ⟨w.heap.size, 2, none⟩ = false ∧ w0.frozen? ⟨w.heap.size, 3, none⟩ = false := by
    rw [hw0]; refine ⟨?_, ?_, ?_, ?_⟩ <;> simp [go_sem]
  have KR := Lib.hid (And.intro k4 k5)
  have Hw0 := Lib.hid hw0
  clear k4 k5 hw0
  go_enter Tryz.func10, Tryz.ntmps10
  go_wp2_with fail
  rw [← Hw0.out]
  refine (H1.out _).mono ?_
  rintro e wa ⟨rfl, ba⟩
  have HBa := Lib.hid ba
  clear ba
  go_wp2_with fail
  refine (H2.out _).mono ?_
  rintro e wb ⟨rfl, bb⟩
  have HBb := Lib.hid (chain HBa.out bb)
  clear bb
  go_wp2_with fail
  refine (HP.out _).mono ?_
  rintro e wc ⟨rfl, bc⟩
  have c3 := chain HBb.out bc
  have y0 := keep1 c3 KR.out.1.1
  have y1 := keep1 c3 KR.out.1.2.1
  have y2 := keep1 c3 KR.out.1.2.2.1
  have y3 := keep1 c3 KR.out.1.2.2.2
  have y4 := keepf c3 KR.out.1.1 KR.out.2.1
  have y5 := keepf c3 KR.out.1.2.1 KR.out.2.2.1
  have y6 := keepf c3 KR.out.1.2.2.1 KR.out.2.2.2.1
  have y7 := keepf c3 KR.out.1.2.2.2 KR.out.2.2.2.2
  have HZ := Lib.hid (below_set4 (chain hb0.out c3) (Nat.le_refl w.heap.size) (.bool xb) (.string xs) (.bool false) (.string ys))
  unfold rat at *
  clear bc c3
  go_wp2
  exact bodyPost_ret (v := .tuple #[.agg #[.bool xb, .string xs, .bool false, .string ys], .int .i64 0]) (by simp [results, Tryz.results10, go_sem, y0, y1, y2, y3]) rfl ⟨rfl, HZ.out⟩
end Go.Proofs.YtlmklhffafcmmaaGreat

/- The function wide.isDecimal. -/
namespace Go.Proofs.YtlmklhffafcmmaaGreat
open Go.RowKit

/-- A text without a minus sign in front; whether it has one. -/
def ds (s : ByteArray) : ByteArray := ⟨(Lib.trimPrefix s.data.toList [45]).toArray⟩
def dneg (s : ByteArray) : Bool := Lib.hasPrefix s.data.toList [45]
/-- All bytes are decimal digits. -/
def AllD (d : ByteArray) : Prop := ∀ k (h : k < d.size), 48 ≤ d[k].toNat ∧ d[k].toNat ≤ 57
instance (d : ByteArray) : Decidable (AllD d) := Nat.decidableBallLT _ _
def DecT (s : ByteArray) : Prop := s.toList = [48] ∨ ((∃ h : 0 < (ds s).size, (ds s)[0].toNat ≠ 48) ∧ AllD (ds s))

theorem ds_size (s : ByteArray) : (ds s).size ≤ s.size := by
  show (Lib.trimPrefix s.data.toList [45]).toArray.size ≤ s.data.size
  unfold Lib.trimPrefix
  split <;> simp

set_option maxRecDepth 100000 in
set_option maxHeartbeats 1000000 in
theorem isDecimal_any (s : ByteArray) (b : Bool) (w : World) (hs : s.size ≤ 1000000000) (hb : b = true ↔ DecT s) :
    Calls Tryz.prog 123 #[.string s] w fun e w' => e = .returned (.bool b) ∧ w = w' := by
  have HTp : Hid (∀ w, Calls Tryz.prog 167 #[.string s, .string ⟨#[45]⟩] w fun e w' => e = .returned (.string (ds s)) ∧ w' = w) := fun w => Tryz.strings_TrimPrefix s ⟨#[45]⟩ w
  have hsz := ds_size s
  have HB : Hid (b = true ↔ DecT s) := hb
  clear hb
  by_cases h1 : s.toList = [48]
  · have e1 : (s.toList == [48]) = true := by rw [h1]; rfl
    have hT : Hid (b = true) := HB.out.2 (Or.inl h1)
    clear h1
    go_enter Tryz.func123, Tryz.ntmps123
    go_wp2
    go_ret
    exact ⟨by rw [hT.out]; rfl, rfl⟩
  · have e1 : (s.toList == [48]) = false := by simpa using h1
    have HB2 : Hid (b = true ↔ ((∃ h : 0 < (ds s).size, (ds s)[0].toNat ≠ 48) ∧ AllD (ds s))) := by
      refine HB.out.trans ⟨fun h => ?_, Or.inr⟩
      rcases h with h | h
      · exact absurd h h1
      · exact h
    clear HB h1
    generalize ds s = d at *
    rcases Nat.eq_zero_or_pos d.size with h0 | h0
    · have hF : Hid (b = false) := by
        cases hb : b with
        | false => rfl
        | true => obtain ⟨⟨h, _⟩, _⟩ := HB2.out.1 hb; omega
      have hd := empty_of h0
      subst hd
      clear HB2 h0 hsz
      go_enter Tryz.func123, Tryz.ntmps123
      go_wp2_with fail
      refine (HTp.out _).mono ?_
      rintro e w' ⟨rfl, rfl⟩
      go_wp2
      go_ret
      exact ⟨by rw [hF.out]; rfl, rfl⟩
    · have e2 : (d.toList == []) = false := by
        have h := nonempty_str d h0
        cases hd : d.toList with
        | nil => rw [hd] at h; simp at h
        | cons x l => rfl
      by_cases h48 : d[0].toNat = 48
      · have hF : Hid (b = false) := by
          cases hb : b with
          | false => rfl
          | true => obtain ⟨⟨h, g⟩, _⟩ := HB2.out.1 hb; exact absurd h48 g
        have e3 : ((d[0].toNat : Int) == 48) = true := by rw [h48]; rfl
        clear HB2 h48
        go_enter Tryz.func123, Tryz.ntmps123
        go_wp2_with fail
        refine (HTp.out _).mono ?_
        rintro e w' ⟨rfl, rfl⟩
        go_wp2
        go_ret
        exact ⟨by rw [hF.out]; rfl, rfl⟩
      · have e3 : ((d[0].toNat : Int) == 48) = false := by simp; omega
        have HB3 : Hid (b = true ↔ AllD d) := by
          refine HB2.out.trans ⟨fun h => h.2, fun h => ⟨⟨h0, h48⟩, h⟩⟩
        clear HB2 h48
        go_enter Tryz.func123, Tryz.ntmps123
        go_wp2_with fail
        refine (HTp.out _).mono ?_
        rintro e w' ⟨rfl, rfl⟩
        go_wp2
        go_loop [18] (fun i => ∃ k : Nat, k ≤ d.size ∧ i = .int .i64 k ∧ Hid (∀ j (h : j < d.size), j < k → 48 ≤ d[j].toNat ∧ d[j].toNat ≤ 57)) (fun i => d.size - (intOf i).toNat)
        case atStart => exact ⟨0, Nat.zero_le _, rfl, fun j h hj => absurd hj (Nat.not_lt_zero _)⟩
        case round =>
          obtain ⟨k, hk, rfl, hall⟩ := hrel
          by_cases hlt : k < d.size
          · obtain ⟨x, hx⟩ : ∃ x : Int, (d[k].toNat : Int) = x := ⟨_, rfl⟩
            by_cases hx1 : x < 48
            · have hF : Hid (b = false) := by
                cases hb : b with
                | false => rfl
                | true => have := HB3.out.1 hb k hlt; omega
              go_wp2
              go_ret
              exact ⟨by rw [hF.out]; rfl, rfl⟩
            · by_cases hx2 : 57 < x
              · have hF : Hid (b = false) := by
                  cases hb : b with
                  | false => rfl
                  | true => have := HB3.out.1 hb k hlt; omega
                go_wp2
                go_ret
                exact ⟨by rw [hF.out]; rfl, rfl⟩
              · have HS : Hid (∀ j (h : j < d.size), j < k + 1 → 48 ≤ d[j].toNat ∧ d[j].toNat ≤ 57) := by
                  intro j h hj
                  rcases Nat.lt_or_ge j k with g | g
                  · exact hall.out j h g
                  · obtain rfl : j = k := by omega
                    omega
                go_wp2
                go_round
                case rel => exact ⟨k + 1, by omega, by go_num, HS.out⟩
                case measure => simp [intOf]; omega
          · have hT : Hid (b = true) := HB3.out.2 fun j h => hall.out j h (by omega)
            go_wp2
            go_ret
            exact ⟨by rw [hT.out]; rfl, rfl⟩
end Go.Proofs.YtlmklhffafcmmaaGreat

/- Plain facts for wide.fromDigits: decimal digits, and the limbs that are written in place. -/
namespace Go.Proofs.YtlmklhffafcmmaaGreat
open Go.RowKit

/-- The number that decimal digits say, behind a number so far. -/
def dv : List UInt8 → Nat → Nat
  | [], a => a
  | x :: l, a => dv l (10 * a + (x.toNat - 48))
theorem dv_append (l m : List UInt8) (a : Nat) : dv (l ++ m) a = dv m (dv l a) := by
  induction l generalizing a with
  | nil => rfl
  | cons x l ih => exact ih _
theorem dv_eq (l : List UInt8) (a : Nat) : dv l a = a * 10 ^ l.length + dv l 0 := by
  induction l generalizing a with
  | nil => simp [dv]
  | cons x l ih =>
    simp only [dv, List.length_cons]
    rw [ih (10 * a + _), ih (10 * 0 + _), Nat.pow_succ]
    grind
theorem dv_lt (l : List UInt8) (h : ∀ x ∈ l, x.toNat ≤ 57) : dv l 0 < 10 ^ l.length := by
  induction l with
  | nil => simp [dv]
  | cons x l ih =>
    have h1 := ih (fun y hy => h y (List.mem_cons_of_mem _ hy))
    have h2 := h x (by simp)
    simp only [dv, List.length_cons]
    rw [dv_eq, Nat.pow_succ]
    have h3 : (10 * 0 + (x.toNat - 48)) * 10 ^ l.length ≤ 9 * 10 ^ l.length := Nat.mul_le_mul_right _ (by omega)
    omega
/-- The number of a decimal text. -/
def decv (d : ByteArray) : Nat := dv d.data.toList 0

/-- A limb written in place of another. -/
theorem own_set {w : World} {B n g cap k x : Nat} {l : List Nat} (h : w.ownsRow B 132 1 (.slice (some ⟨g, 0, none⟩) n cap) n (uv l)) :
    (w.setCell ⟨g, k, none⟩ (.int .u64 (x : Int))).ownsRow B 132 1 (.slice (some ⟨g, 0, none⟩) n cap) n (uv (l.set k x)) := by
  obtain ⟨h1, h2⟩ := h
  refine ⟨by rw [← uv_set]; simpa using h1, ?_⟩
  rcases h2 with ⟨h2, _⟩ | ⟨g2, cap2, cur, h2, hB, hg, hn, hm, hs, ht⟩
  · simp at h2
  · obtain rfl : g2 = g := by injection h2 with h3; injection h3 with h4; injection h4 with h5; exact h5.symm
    refine Or.inr ⟨g2, cap2, cur.setIfInBounds k (.int .u64 (x : Int)), h2, hB, heap_setCell_same w g2 k _ _ _ hg, hn, hm, by simpa using hs, ?_⟩
    rw [← uv_set, ← ht, Array.toList_setIfInBounds, List.take_set]
theorem own_cell {w : World} {B n g cap k : Nat} {l : List Nat} (h : w.ownsRow B 132 1 (.slice (some ⟨g, 0, none⟩) n cap) n (uv l)) (hk : k < l.length) :
    w.cell? ⟨g, k, none⟩ = some (.int .u64 (l[k] : Int)) ∧ w.frozen? ⟨g, k, none⟩ = false := by
  have h1 := h.cells (g := g) rfl k (.int .u64 (l[k] : Int)) (uv_get l k hk)
  have hadd : ((⟨g, 0, none⟩ : Addr).add k) = ⟨g, k, none⟩ := by unfold Addr.add; split <;> simp_all
  rw [hadd] at h1
  refine ⟨h1, ?_⟩
  rcases h.2 with ⟨h2, _⟩ | ⟨g2, cap2, cur, h2, hB, hg, _⟩
  · simp at h2
  · have : g2 = g := by injection h2 with h3; injection h3 with h4; injection h4 with h5; exact h5.symm
    subst this
    exact frozen_of_row w g2 k _ _ hg
theorem Rd.of_own {w : World} {B : Nat} {v : Value} {l : List Nat} (h : w.ownsRow B 132 1 v l.length (uv l)) : Rd w v l := by
  rcases h.2 with ⟨rfl, h0⟩ | ⟨g, cap, cur, rfl, hB, hg, hn, hm, hs, ht⟩
  · rw [List.eq_nil_of_length_eq_zero h0]; exact Rd.nil w
  · refine ⟨some ⟨g, 0, none⟩, g, 0, cap, rfl, hn, hm, fun _ => rfl, Or.inr ⟨rfl, lt_of_block hg⟩, fun k hk => ?_⟩
    rw [Nat.zero_add]
    exact (own_cell h hk).1

/-- One pass over the limbs: what stands behind k rounds, and the carry. -/
def FdInv (X : List Nat) (y c0 k cn : Nat) (s : List Nat) : Prop :=
  s.length = k ∧ Nm.Dig W s ∧ cn < W ∧ Nm.val W s + W ^ k * cn = y * Nm.val W (X.take k) + c0
theorem FdInv.start {X : List Nat} {y c0 : Nat} (h : c0 < W) : FdInv X y c0 0 c0 [] := ⟨rfl, Nm.dig_nil W, h, by simp [Nm.val]⟩
theorem FdInv.step {X s : List Nat} {y c0 k cn : Nat} (h : FdInv X y c0 k cn s) (hk : k < X.length) (dx : X[k] < W) (dy : y < W) : FdInv X y c0 (k + 1) (mh X[k] y cn) (s ++ [ml X[k] y cn]) := by
  obtain ⟨h1, h2, h3, h4⟩ := h
  refine ⟨by simp [h1], Nm.dig_append.2 ⟨h2, Nm.dig_cons.2 ⟨ml_lt _ _ _, Nm.dig_nil W⟩⟩, mh_lt _ _ _ dx dy h3, ?_⟩
  rw [Nm.val_snoc, h1, Nm.val_take_succ W X k hk, Nat.pow_succ]
  have e1 := mlh X[k] y cn
  generalize mh X[k] y cn = p at *
  generalize ml X[k] y cn = q at *
  generalize W ^ k = P at *
  have e4 : P * (q + W * p) = P * (X[k] * y + cn) := by rw [e1]
  grind
theorem FdInv.finish {V y c0 cn : Nat} {s : List Nat} (h : FdInv (Nm.dg W V) y c0 (Nm.dg W V).length cn s) (hy : 0 < y) :
    (cn = 0 → s = Nm.dg W (y * V + c0)) ∧ (0 < cn → s ++ [cn] = Nm.dg W (y * V + c0)) := by
  obtain ⟨h1, h2, h3, h4⟩ := h
  rw [List.take_length, Nm.val_dg W2] at h4
  constructor
  · intro h0
    subst h0
    rw [Nat.mul_zero, Nat.add_zero] at h4
    rw [← h4]
    refine Nm.eq_dg W2 h2 ?_
    cases hs : s with
    | nil => trivial
    | cons z zs =>
      rw [← hs]
      refine Nm.nrm_of_val h2 ?_
      rw [h4, h1]
      have hne : Nm.dg W V ≠ [] := by intro e; rw [e, hs] at h1; simp at h1
      have h6 := Nm.val_pos (B := W) (Nm.nrm_dg W2 V) hne
      rw [Nm.val_dg W2] at h6
      have h7 : 1 * V ≤ y * V := Nat.mul_le_mul_right _ hy
      omega
  · intro h0
    have e : Nm.val W (s ++ [cn]) = y * V + c0 := by rw [Nm.val_snoc, h1, h4]
    rw [← e]
    exact Nm.eq_dg W2 (Nm.dig_append.2 ⟨h2, Nm.dig_cons.2 ⟨h3, Nm.dig_nil W⟩⟩) (Nm.nrm_snoc _ _ (by omega))

/-- A round's bytes are digits, and nothing wraps. -/
theorem fd_digit {pi ci x : Int} (h1 : 0 ≤ pi) (h2 : pi ≤ 1000000000000000000) (h3 : 0 ≤ ci) (h4 : ci < pi) (h5 : 48 ≤ x) (h6 : x ≤ 57) :
    IntKind.u64.wrap (10 * pi) = 10 * pi ∧ IntKind.u64.wrap (10 * ci) = 10 * ci ∧ IntKind.u8.wrap (x - 48) = x - 48 ∧ IntKind.u64.wrap (x - 48) = x - 48 ∧ IntKind.u64.wrap (10 * ci + (x - 48)) = 10 * ci + (x - 48) := by
  refine ⟨?_, ?_, ?_, ?_, ?_⟩ <;> (unfold IntKind.wrap; simp [IntKind.bits, IntKind.signed]; try omega)

theorem dv_take (l : List UInt8) (k : Nat) (h : k < l.length) : dv (l.take (k + 1)) 0 = 10 * dv (l.take k) 0 + (l[k].toNat - 48) := by
  rw [List.take_succ_eq_append_getElem h, dv_append]; rfl
theorem AllD.drop {d : ByteArray} (h : AllD d) (k : Nat) (hk : k ≤ d.size) : AllD (d.extract k d.size) := by
  intro j hj
  have h1 : k + j < d.size := by simp at hj; omega
  have e : (d.extract k d.size)[j] = d[k + j] := by
    simp only [ByteArray.getElem_eq_getElem_data, ByteArray.data_extract, Array.getElem_extract]
  rw [e]
  exact h _ h1
theorem extract_list (d : ByteArray) (k : Nat) : (d.extract k d.size).data.toList = d.data.toList.drop k := by
  rw [ByteArray.data_extract, Array.toList_extract, List.extract_eq_take_drop]
  apply List.take_of_length_le
  rw [List.length_drop]
  exact Nat.le_refl _
theorem AllD.list {d : ByteArray} (h : AllD d) : ∀ x ∈ d.data.toList, x.toNat ≤ 57 := by
  intro x hx
  obtain ⟨k, hk, rfl⟩ := List.mem_iff_getElem.1 hx
  exact (h k hk).2
/-- A chunk is taken in: the number so far by a power of 10, and the chunk. -/
theorem fd_val (d : ByteArray) (V k : Nat) (hk : k ≤ d.size) : dv d.data.toList V = dv (d.extract k d.size).data.toList (10 ^ k * V + dv (d.data.toList.take k) 0) := by
  rw [extract_list]
  have e : d.data.toList = d.data.toList.take k ++ d.data.toList.drop k := (List.take_append_drop k _).symm
  have hl : (d.data.toList.take k).length = k := by
    have : d.data.toList.length = d.size := rfl
    simp; omega
  calc dv d.data.toList V = dv (d.data.toList.take k ++ d.data.toList.drop k) V := by rw [← e]
    _ = _ := by rw [dv_append, dv_eq (d.data.toList.take k) V, hl, Nat.mul_comm]
theorem fd_chunk {d : ByteArray} (h : AllD d) (k : Nat) (hk : k ≤ d.size) : dv (d.data.toList.take k) 0 < 10 ^ k := by
  have hl : (d.data.toList.take k).length = k := by
    have : d.data.toList.length = d.size := rfl
    simp; omega
  have := dv_lt (d.data.toList.take k) (fun x hx => h.list x (List.mem_of_mem_take hx))
  rwa [hl] at this
theorem fd_bound {V y c n k : Nat} (h : V < 10 ^ n) (hy : y = 10 ^ k) (hc : c < 10 ^ k) : y * V + c < 10 ^ (n + k) := by
  rw [Nat.pow_add, hy]
  have h2 : (V + 1) * 10 ^ k ≤ 10 ^ n * 10 ^ k := Nat.mul_le_mul_right _ h
  grind
theorem dg_len_pow {V n : Nat} (h : V < 10 ^ n) : (Nm.dg W V).length ≤ n := by
  refine Nm.len_le_of_val W2 (Nm.nrm_dg W2 V) ?_
  rw [Nm.val_dg W2]
  exact Nat.lt_of_lt_of_le h (Nat.pow_le_pow_left (by decide) n)
end Go.Proofs.YtlmklhffafcmmaaGreat
