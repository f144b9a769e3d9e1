/- What the theorem leans on, part 5: Fr2, RefDef, RefPlus, RefOrder, RefMinus. -/
import Derived.Test.YtlmklhffafcmmaaGreatY4
import Derived.Test.YtlmklhffafcmmaaGreatY1

/- The functions wide.SubRatio, and AddRatio, SubRatio, MulRatio of what is not valid. -/
namespace Go.Proofs.YtlmklhffafcmmaaGreat
open Go.RowKit

set_option maxRecDepth 100000 in
set_option maxHeartbeats 2000000 in
theorem subFrac (a1 b1 a2 b2 : Bool) (m1 n1 m2 n2 : Nat) (l1 : (Nm.dg W m1).length ≤ 1000000000) (l2 : (Nm.dg W n1).length ≤ 1000000000) (l3 : (Nm.dg W m2).length ≤ 1000000000) (l4 : (Nm.dg W n2).length ≤ 1000000000)
    (l5 : (Nm.dg W (m1 * n2)).length ≤ 1000000000) (l6 : (Nm.dg W (m2 * n1)).length ≤ 1000000000) :
    FracOK 84 a1 b1 a2 b2 m1 n1 m2 n2 (pls (a1 != b2) (m1 * n2) (!(a2 != b1)) (m2 * n1)).1 (pls (a1 != b2) (m1 * n2) (!(a2 != b1)) (m2 * n1)).2 := by
  intro x1 y1 x2 y2 w h1 h2 h3 h4
  have HC1 := Lib.hid (fun W' (hb : Below w.heap.size w W') => times_any a1 b2 x1 y2 m1 n2 W' (h1.below hb (Nat.le_refl _)) (h4.below hb (Nat.le_refl _)) l1 l4)
  have HC2 := Lib.hid (fun W' (hb : Below w.heap.size w W') => times_any a2 b1 x2 y1 m2 n1 W' (h3.below hb (Nat.le_refl _)) (h2.below hb (Nat.le_refl _)) l3 l2)
  generalize (a1 != b2) = s1 at *
  generalize (a2 != b1) = s2 at *
  generalize m1 * n2 = k1 at *
  generalize m2 * n1 = k2 at *
  have HN := Lib.hid (fun v w h => negative_any s2 v k2 w h)
  have HP := Lib.hid (fun v1 v2 w h1 h2 => plus_any s1 (!s2) v1 v2 k1 k2 w h1 h2 l5 l6)
  unfold NumPost at HN
  generalize (!s2) = ns2 at HN HP ⊢
  generalize (pls s1 k1 ns2 k2).1 = s at *
  generalize (pls s1 k1 ns2 k2).2 = k at *
  obtain ⟨p1, q1, o1, c1, rfl, hr1⟩ := h1
  obtain ⟨p2, q2, o2, c2, rfl, hr2⟩ := h2
  obtain ⟨p3, q3, o3, c3, rfl, hr3⟩ := h3
  obtain ⟨p4, q4, o4, c4, rfl, hr4⟩ := h4
  clear hr1 hr2 hr3 hr4 l1 l2 l3 l4 l5 l6
  generalize (Nm.dg W m1).length = len1 at *
  generalize (Nm.dg W n1).length = len2 at *
  generalize (Nm.dg W m2).length = len3 at *
  generalize (Nm.dg W n2).length = len4 at *
  obtain ⟨w0, hw0⟩ : ∃ w0 : World, w0 = ((w.alloc (.cells #[.bool a1, .slice p1 len1 c1, .bool b1, .slice p2 len2 c2] 105)).alloc (.cells #[.bool a2, .slice p3 len3 c3, .bool b2, .slice p4 len4 c4] 105)).alloc (.cells #[.bool false, .slice none 0 0] 86) := ⟨_, rfl⟩
  have hb0 : Hid (Below w.heap.size w w0) := by rw [hw0]; exact (((Below.refl _ _).alloc (Nat.le_refl _) _).alloc (by simp) _).alloc (by simp; omega) _
  have i0 : w0.cell? ⟨w.heap.size, 0, none⟩ = some (.bool a1) := by rw [hw0]; simp [go_sem]
  have i1 : w0.cell? ⟨w.heap.size, 1, none⟩ = some (.slice p1 len1 c1) := by rw [hw0]; simp [go_sem]
  have i2 : w0.cell? ⟨w.heap.size, 2, none⟩ = some (.bool b1) := by rw [hw0]; simp [go_sem]
  have i3 : w0.cell? ⟨w.heap.size, 3, none⟩ = some (.slice p2 len2 c2) := by rw [hw0]; simp [go_sem]
  have i4 : w0.cell? ⟨w.heap.size + 1, 0, none⟩ = some (.bool a2) := by rw [hw0]; simp [go_sem]
  have i5 : w0.cell? ⟨w.heap.size + 1, 1, none⟩ = some (.slice p3 len3 c3) := by rw [hw0]; simp [go_sem]
  have i6 : w0.cell? ⟨w.heap.size + 1, 2, none⟩ = some (.bool b2) := by rw [hw0]; simp [go_sem]
  have i7 : w0.cell? ⟨w.heap.size + 1, 3, none⟩ = some (.slice p4 len4 c4) := by rw [hw0]; simp [go_sem]
  have k4 : w0.cell? ⟨w.heap.size + 1 + 1, 0, none⟩ = some (.bool false) := by rw [hw0]; simp [go_sem]
  have k5 : w0.cell? ⟨w.heap.size + 1 + 1, 1, none⟩ = some (.slice none 0 0) := by rw [hw0]; simp [go_sem]
  have k6 : w0.frozen? ⟨w.heap.size + 1 + 1, 0, none⟩ = false := by rw [hw0]; simp [go_sem]
  have k7 : w0.frozen? ⟨w.heap.size + 1 + 1, 1, none⟩ = false := by rw [hw0]; simp [go_sem]
  have KK := Lib.hid (And.intro k4 (And.intro k5 (And.intro k6 k7)))
  have Hw0 := Lib.hid hw0
  have n1 : ¬ (w.heap.size = w.heap.size + 1 + 1) := by omega
  have n2 : ¬ (w.heap.size + 1 + 1 = w.heap.size) := by omega
  clear k4 k5 k6 k7 hw0
  go_enter Tryz.func84, Tryz.ntmps84
  go_wp2_with fail
  rw [← Hw0.out]
  go_region_held3 (fun W' => W'.cell? ⟨w.heap.size, 0, none⟩ = some (.bool a1) ∧ W'.cell? ⟨w.heap.size, 1, none⟩ = some (.slice p1 len1 c1) ∧ W'.cell? ⟨w.heap.size, 2, none⟩ = some (.bool b1) ∧ W'.cell? ⟨w.heap.size, 3, none⟩ = some (.slice p2 len2 c2) ∧ W'.cell? ⟨w.heap.size + 1, 0, none⟩ = some (.bool a2) ∧ W'.cell? ⟨w.heap.size + 1, 1, none⟩ = some (.slice p3 len3 c3) ∧ W'.cell? ⟨w.heap.size + 1, 2, none⟩ = some (.bool b2) ∧ W'.cell? ⟨w.heap.size + 1, 3, none⟩ = some (.slice p4 len4 c4)) (go_keep)
    (first
      | (go_at_call 83; (with_reducible refine (HC1.out _ (chain hb0.out ((Below.refl _ _).drew))).mono ?_); rintro e w1 ⟨v5, rfl, r5, b5⟩; have d1 := chain ((Below.refl _ _).drew) b5; have j0 := keep1 d1 i0; have j1 := keep1 d1 i1; have j2 := keep1 d1 i2; have j3 := keep1 d1 i3; have j4 := keep1 d1 i4; have j5 := keep1 d1 i5; have j6 := keep1 d1 i6; have j7 := keep1 d1 i7; have G1 := Lib.hid (And.intro r5 d1); obtain ⟨p5, q5, o5, c5, rfl, hr5⟩ := r5; clear hr5 b5 d1)
      | (go_at_call 83; (with_reducible refine (HC2.out _ (chain hb0.out G1.out.2)).mono ?_); rintro e w2 ⟨v6, rfl, r6, b6⟩; have d2 := chain G1.out.2 b6; have j0 := keep1 d2 i0; have j1 := keep1 d2 i1; have j2 := keep1 d2 i2; have j3 := keep1 d2 i3; have j4 := keep1 d2 i4; have j5 := keep1 d2 i5; have j6 := keep1 d2 i6; have j7 := keep1 d2 i7; have G2 := Lib.hid (And.intro (G1.out.1.below b6 (Nat.le_refl _)) (And.intro r6 d2)); obtain ⟨p6, q6, o6, c6, rfl, hr6⟩ := r6; clear hr6 b6 d2)
      | (go_at_call 85; (with_reducible refine (HN.out _ _ G2.out.2.1).mono ?_); rintro e w2n ⟨v6n, rfl, r6, b6⟩; have d2 := chain G2.out.2.2 b6; have j0 := keep1 d2 i0; have j1 := keep1 d2 i1; have j2 := keep1 d2 i2; have j3 := keep1 d2 i3; have j4 := keep1 d2 i4; have j5 := keep1 d2 i5; have j6 := keep1 d2 i6; have j7 := keep1 d2 i7; have G2 := Lib.hid (And.intro (G2.out.1.below b6 (Nat.le_refl _)) (And.intro r6 d2)); obtain ⟨p8, q8, o8, c8, rfl, hr8⟩ := r6; clear hr8 b6 d2)
      | (go_at_call 82; (with_reducible refine (HP.out _ _ _ G2.out.1 G2.out.2.1).mono ?_); rintro e w3 ⟨v7, rfl, r7, b7⟩; have d3 := chain G2.out.2.2 b7; have j0 := keep1 d3 i0; have j1 := keep1 d3 i1; have j2 := keep1 d3 i2; have j3 := keep1 d3 i3; have j4 := keep1 d3 i4; have j5 := keep1 d3 i5; have j6 := keep1 d3 i6; have j7 := keep1 d3 i7; have y0 := keep1 d3 KK.out.1; have y1 := keep1 d3 KK.out.2.1; have y2 := keepf d3 KK.out.1 KK.out.2.2.1; have y3 := keepf d3 KK.out.2.1 KK.out.2.2.2; have G3 := Lib.hid (And.intro r7 d3); obtain ⟨p9, q9, o9, c9, rfl, hr9⟩ := r7; clear hr9 b7 d3)
      | fail)
  have HZ := Lib.hid (below_set2 (chain hb0.out G3.out.2) (g := w.heap.size + 1 + 1) (by omega) (.bool s) (.slice p9 (Nm.dg W k).length c9))
  have HR2 := Lib.hid (G3.out.1.set2 ⟨y0, y1, y2, y3⟩ (.bool s) (.slice p9 (Nm.dg W k).length c9))
  go_wp2
  exact bodyPost_ret (v := .agg #[.bool s, .slice p9 (Nm.dg W k).length c9]) (by simp [results, Tryz.results84, go_sem, y0, y1]) rfl ⟨_, rfl, HR2.out, HZ.out⟩

set_option maxRecDepth 100000 in
set_option maxHeartbeats 4000000 in
theorem combine_sub (na1 nb1 na2 nb2 : Bool) (s1 t1 s2 t2 : ByteArray) (sg : Bool) (k A B : Nat) (w : World) (hf : FracOK 84 na1 nb1 na2 nb2 (bv s1) (bv t1) (bv s2) (bv t2) sg k) (hl : LowOK k (bv t1 * bv t2) A B)
    (v1 : vld na1 s1 = true) (v2 : vld nb1 t1 = true) (v3 : vld na2 s2 = true) (v4 : vld nb2 t2 = true) (g1 : 0 < sgV nb1 t1) (g2 : 0 < sgV nb2 t2) :
    Calls Tryz.prog 80 #[rat na1 s1 nb1 t1, rat na2 s2 nb2 t2, .func (Fn.func 84) #[] #[]] w (RPost ((sg != (nb1 != nb2)) && decide (A ≠ 0)) (bs A) false (bs B) 0 w) := by
  have z1 := vld_size v1
  have z2 := vld_size v2
  have z3 := vld_size v3
  have z4 := vld_size v4
  have HV1 := ValidRatio_any na1 nb1 s1 t1
  have HV2 := ValidRatio_any na2 nb2 s2 t2
  have hvr1 : vldR na1 s1 nb1 t1 = true := by unfold vldR; rw [v1, decide_eq_true g1]; rfl
  have hvr2 : vldR na2 s2 nb2 t2 = true := by unfold vldR; rw [v3, decide_eq_true g2]; rfl
  rw [hvr1] at HV1
  rw [hvr2] at HV2
  have HA := Lib.hid (fun w => HV1 w (by omega) (by omega))
  have HB := Lib.hid (fun w => HV2 w (by omega) (by omega))
  have HR1 := Lib.hid (fun w => read_any na1 s1 w (by omega) (vld_can v1))
  have HR2 := Lib.hid (fun w => read_any nb1 t1 w (by omega) (vld_can v2))
  have HR3 := Lib.hid (fun w => read_any na2 s2 w (by omega) (vld_can v3))
  have HR4 := Lib.hid (fun w => read_any nb2 t2 w (by omega) (vld_can v4))
  have HT := Lib.hid (fun y1 y2 w h1 h2 => times_any nb1 nb2 y1 y2 (bv t1) (bv t2) w h1 h2 (Nat.le_trans (len_top (bv_lt v2)) (by decide)) (Nat.le_trans (len_top (bv_lt v4)) (by decide)))
  have HF := Lib.hid hf
  have HL := Lib.hid (lowest_of hl sg (nb1 != nb2))
  clear HV1 HV2 hvr1 hvr2 v1 v2 v3 v4 g1 g2 hf hl
  unfold FracOK at HF
  generalize ((sg != (nb1 != nb2)) && decide (A ≠ 0)) = xb at *
  generalize (nb1 != nb2) = bb at *
  generalize bs A = xs at *
  generalize bs B = ys at *
  generalize bv t1 * bv t2 = nn at *
  generalize bv s1 = M1 at *
  generalize bv t1 = N1 at *
  generalize bv s2 = M2 at *
  generalize bv t2 = N2 at *
  unfold rat
  obtain ⟨w0, hw0⟩ : ∃ w0 : World, w0 = ((w.alloc (.cells #[.bool na1, .string s1, .bool nb1, .string t1] 27)).alloc (.cells #[.bool na2, .string s2, .bool nb2, .string t2] 27)).alloc (.cells #[.bool false, .string ⟨#[]⟩, .bool false, .string ⟨#[]⟩] 27) := ⟨_, rfl⟩
  have hb0 : Hid (Below w.heap.size w w0) := by rw [hw0]; exact (((Below.refl _ _).alloc (Nat.le_refl _) _).alloc (by simp) _).alloc (by simp; omega) _
  have i1 : ZC4 (.bool na1) (.string s1) (.bool nb1) (.string t1) w0 w.heap.size := by
    rw [hw0]; refine ⟨⟨?_, ?_, ?_, ?_⟩, ?_, ?_, ?_, ?_⟩ <;> simp [go_sem]
  have i2 : ZC4 (.bool na2) (.string s2) (.bool nb2) (.string t2) w0 (w.heap.size + 1) := by
    rw [hw0]; refine ⟨⟨?_, ?_, ?_, ?_⟩, ?_, ?_, ?_, ?_⟩ <;> simp [go_sem]
  have i3 : ZC4 (.bool false) (.string ⟨#[]⟩) (.bool false) (.string ⟨#[]⟩) w0 (w.heap.size + 1 + 1) := by
    rw [hw0]; refine ⟨⟨?_, ?_, ?_, ?_⟩, ?_, ?_, ?_, ?_⟩ <;> simp [go_sem]
  have hsz : w.heap.size + 3 ≤ w0.heap.size := by rw [hw0]; simp
  have I1 := Lib.hid i1
  have I2 := Lib.hid i2
  have I3 := Lib.hid i3
  have Hsz := Lib.hid hsz
  have Hw0 := Lib.hid hw0
  clear i1 i2 i3 hw0 hsz
  go_enter Tryz.func80, Tryz.ntmps80
  go_wp2_with fail
  rw [← Hw0.out]
  refine (HA.out _).mono ?_
  rintro e wa ⟨rfl, ba⟩
  obtain ⟨⟨q0, q1, q2, q3⟩, _⟩ := I2.out.next ba
  have BA := Lib.hid ba
  clear ba
  go_wp2_with fail
  refine (HB.out _).mono ?_
  rintro e wb ⟨rfl, hbb⟩
  have BB := Lib.hid (chain BA.out hbb)
  clear q0 q1 q2 q3 hbb
  obtain ⟨⟨k0, k1, k2, k3⟩, _⟩ := I1.out.next BB.out
  have HSB : Hid (w.heap.size + 3 ≤ wb.heap.size) := Nat.le_trans Hsz.out BB.out.size
  go_upto_region 3 with (fail)
  obtain ⟨jba, jbb, jbc, jbd, jbe, jbf, jbg, jbh, jbi⟩ := far6 HSB.out
  go_cut [8] (fun s8 wx => ∃ (g8 : Nat) (y1 y2 : Option Addr) (l1 c1 l2 c2 : Nat), s8 = .pointer (some ⟨g8, 0, none⟩) ∧ Hid (CutF na1 nb1 (.slice y1 l1 c1) (.slice y2 l2 c2) (Nm.dg W M1) (Nm.dg W N1) wb.heap.size wb wx g8))
  case first =>
    rename_i J0 K0 hRJ hMK
    go_region_held3 (fun W' => W'.cell? ⟨w.heap.size, 0, none⟩ = some (.bool na1) ∧ W'.cell? ⟨w.heap.size, 1, none⟩ = some (.string s1) ∧ W'.cell? ⟨w.heap.size, 2, none⟩ = some (.bool nb1) ∧ W'.cell? ⟨w.heap.size, 3, none⟩ = some (.string t1)) (go_keep)
      (first
        | (go_at_call 63; (with_reducible refine (HR1.out _).mono ?_); rintro e w1 ⟨v1, rfl, r1, b1⟩; (try (have b1 := undrew b1)); have d1 : Below wb.heap.size wb w1 := chain (by first | exact Below.refl _ _ | exact (Below.refl _ _).drew | exact below_one _ _ | exact ((Below.refl _ _).drew).alloc (Nat.le_refl _) _) b1; have c1 : Below wb.heap.size wb w1 := d1; have p0 := keep1 c1 k0; have p1 := keep1 c1 k1; have p2 := keep1 c1 k2; have p3 := keep1 c1 k3; obtain ⟨j1a, j1b, j1c, j1d, j1e, j1f, j1g, j1h, j1i⟩ := far6 (show w.heap.size + 3 ≤ w1.heap.size from Nat.le_trans HSB.out c1.size); (try (have A0 := Lib.hid (ZC4.made (g := wb.heap.size) rfl b1); obtain ⟨⟨A0a, A0b, A0c, A0d⟩, A0e, A0f, A0g, A0h⟩ := A0.out)); (try (have L01 := Lib.hid (apart_b (g := wb.heap.size) rfl b1); obtain ⟨l01x, l01y, l01z⟩ := L01.out)); have G1 := Lib.hid r1; obtain ⟨pp1, bb1, oo1, cc1, rfl, rr1⟩ := r1; clear rr1)
        | (go_at_call 63; (with_reducible refine (HR2.out _).mono ?_); rintro e w2 ⟨v2, rfl, r2, b2⟩; (try (have b2 := undrew b2)); have d2 : Below w1.heap.size w1 w2 := chain (by first | exact Below.refl _ _ | exact (Below.refl _ _).drew | exact below_one _ _ | exact ((Below.refl _ _).drew).alloc (Nat.le_refl _) _) b2; have c2 : Below wb.heap.size wb w2 := chain c1 d2; have p0 := keep1 c2 k0; have p1 := keep1 c2 k1; have p2 := keep1 c2 k2; have p3 := keep1 c2 k3; obtain ⟨j2a, j2b, j2c, j2d, j2e, j2f, j2g, j2h, j2i⟩ := far6 (show w.heap.size + 3 ≤ w2.heap.size from Nat.le_trans HSB.out c2.size); (try (have A1 := Lib.hid (ZC4.made (g := w1.heap.size) rfl b2); obtain ⟨⟨A1a, A1b, A1c, A1d⟩, A1e, A1f, A1g, A1h⟩ := A1.out)); (try (have A0 := Lib.hid (A0.out.next d2); obtain ⟨⟨A0a, A0b, A0c, A0d⟩, A0e, A0f, A0g, A0h⟩ := A0.out)); (try (have L02 := Lib.hid (apart_t L01.out d2.size); obtain ⟨l02x, l02y, l02z⟩ := L02.out)); (try (have L12 := Lib.hid (apart_b (g := w1.heap.size) rfl b2); obtain ⟨l12x, l12y, l12z⟩ := L12.out)); have G2 := Lib.hid (And.intro (G1.out.below d2 (Nat.le_refl _)) r2); obtain ⟨pp2, bb2, oo2, cc2, rfl, rr2⟩ := r2; clear rr2)
        | fail)
    all_goals
      obtain ⟨r1, r2⟩ := G2.out
      refine hMK _ _ (Met.intro (hRJ _ _ ?_))
      (repeat apply Exists.intro)
      refine ⟨?_, rfl⟩
      refine ⟨_, pp1, pp2, (Nm.dg W M1).length, cc1, (Nm.dg W N1).length, cc2, rfl, ?_⟩
      show CutF na1 nb1 (.slice pp1 _ cc1) (.slice pp2 _ cc2) (Nm.dg W M1) (Nm.dg W N1) wb.heap.size wb _ _
      have sA0 : wb.heap.size ≤ wb.heap.size := Nat.le_refl _
      have sA1 : wb.heap.size ≤ w1.heap.size := c1.size
      have sA2 : wb.heap.size ≤ w2.heap.size := c2.size
      first
        | with_reducible exact (CutF.k1 r1 r2 c2 sA2)
        | with_reducible exact (CutF.k2 A0.out sA0 r1 r2 c2)
        | with_reducible exact (CutF.k2 A1.out sA1 r1 r2 c2)
        | with_reducible exact (CutF.k1 r1 r2 c2 sA2).drew
        | with_reducible exact (CutF.k2 A0.out sA0 r1 r2 c2).drew
        | with_reducible exact (CutF.k2 A1.out sA1 r1 r2 c2).drew
        | fail
  case rest =>
    obtain ⟨g8, y1, y2, l1, c1, l2, c2, rfl, hcut⟩ := hcut
    obtain ⟨hg8, z8, r1, r2, bx, lg8⟩ := hcut.out
    have Z8 := Lib.hid z8
    have RR1 := Lib.hid r1
    have RR2 := Lib.hid r2
    have BX := Lib.hid (chain BB.out bx)
    have LG8 : Hid (w.heap.size + 3 ≤ g8) := Nat.le_trans HSB.out hg8
    have hsb2 : w.heap.size + 3 ≤ wc.heap.size := Nat.le_trans HSB.out bx.size
    clear HSB jba jbb jbc jbd jbe jbf jbg jbh jbi k0 k1 k2 k3 hcut hg8 z8 r1 r2 bx lg8
    have HSB := Lib.hid hsb2
    clear hsb2
    obtain ⟨⟨k0, k1, k2, k3⟩, _⟩ := I2.out.next BX.out
    go_upto_region 4 with (fail)
    obtain ⟨jba, jbb, jbc, jbd, jbe, jbf, jbg, jbh, jbi⟩ := far6 HSB.out
    go_cut [9] (fun s8 wx => ∃ (g8 : Nat) (y1 y2 : Option Addr) (l1 c1 l2 c2 : Nat), s8 = .pointer (some ⟨g8, 0, none⟩) ∧ Hid (CutF na2 nb2 (.slice y1 l1 c1) (.slice y2 l2 c2) (Nm.dg W M2) (Nm.dg W N2) wc.heap.size wc wx g8))
    case first =>
      rename_i J0 K0 hRJ hMK
      go_region_held3 (fun W' => W'.cell? ⟨w.heap.size + 1, 0, none⟩ = some (.bool na2) ∧ W'.cell? ⟨w.heap.size + 1, 1, none⟩ = some (.string s2) ∧ W'.cell? ⟨w.heap.size + 1, 2, none⟩ = some (.bool nb2) ∧ W'.cell? ⟨w.heap.size + 1, 3, none⟩ = some (.string t2)) (go_keep)
        (first
          | (go_at_call 63; (with_reducible refine (HR3.out _).mono ?_); rintro e w1 ⟨v1, rfl, r1, b1⟩; (try (have b1 := undrew b1)); have d1 : Below wc.heap.size wc w1 := chain (by first | exact Below.refl _ _ | exact (Below.refl _ _).drew | exact below_one _ _ | exact ((Below.refl _ _).drew).alloc (Nat.le_refl _) _) b1; have c1 : Below wc.heap.size wc w1 := d1; have p0 := keep1 c1 k0; have p1 := keep1 c1 k1; have p2 := keep1 c1 k2; have p3 := keep1 c1 k3; obtain ⟨j1a, j1b, j1c, j1d, j1e, j1f, j1g, j1h, j1i⟩ := far6 (show w.heap.size + 3 ≤ w1.heap.size from Nat.le_trans HSB.out c1.size); (try (have A0 := Lib.hid (ZC4.made (g := wc.heap.size) rfl b1); obtain ⟨⟨A0a, A0b, A0c, A0d⟩, A0e, A0f, A0g, A0h⟩ := A0.out)); (try (have L01 := Lib.hid (apart_b (g := wc.heap.size) rfl b1); obtain ⟨l01x, l01y, l01z⟩ := L01.out)); have G1 := Lib.hid r1; obtain ⟨pp1, bb1, oo1, cc1, rfl, rr1⟩ := r1; clear rr1)
          | (go_at_call 63; (with_reducible refine (HR4.out _).mono ?_); rintro e w2 ⟨v2, rfl, r2, b2⟩; (try (have b2 := undrew b2)); have d2 : Below w1.heap.size w1 w2 := chain (by first | exact Below.refl _ _ | exact (Below.refl _ _).drew | exact below_one _ _ | exact ((Below.refl _ _).drew).alloc (Nat.le_refl _) _) b2; have c2 : Below wc.heap.size wc w2 := chain c1 d2; have p0 := keep1 c2 k0; have p1 := keep1 c2 k1; have p2 := keep1 c2 k2; have p3 := keep1 c2 k3; obtain ⟨j2a, j2b, j2c, j2d, j2e, j2f, j2g, j2h, j2i⟩ := far6 (show w.heap.size + 3 ≤ w2.heap.size from Nat.le_trans HSB.out c2.size); (try (have A1 := Lib.hid (ZC4.made (g := w1.heap.size) rfl b2); obtain ⟨⟨A1a, A1b, A1c, A1d⟩, A1e, A1f, A1g, A1h⟩ := A1.out)); (try (have A0 := Lib.hid (A0.out.next d2); obtain ⟨⟨A0a, A0b, A0c, A0d⟩, A0e, A0f, A0g, A0h⟩ := A0.out)); (try (have L02 := Lib.hid (apart_t L01.out d2.size); obtain ⟨l02x, l02y, l02z⟩ := L02.out)); (try (have L12 := Lib.hid (apart_b (g := w1.heap.size) rfl b2); obtain ⟨l12x, l12y, l12z⟩ := L12.out)); have G2 := Lib.hid (And.intro (G1.out.below d2 (Nat.le_refl _)) r2); obtain ⟨pp2, bb2, oo2, cc2, rfl, rr2⟩ := r2; clear rr2)
          | fail)
      all_goals
        obtain ⟨r1, r2⟩ := G2.out
        refine hMK _ _ (Met.intro (hRJ _ _ ?_))
        (repeat apply Exists.intro)
        refine ⟨?_, rfl⟩
        refine ⟨_, pp1, pp2, (Nm.dg W M2).length, cc1, (Nm.dg W N2).length, cc2, rfl, ?_⟩
        show CutF na2 nb2 (.slice pp1 _ cc1) (.slice pp2 _ cc2) (Nm.dg W M2) (Nm.dg W N2) wc.heap.size wc _ _
        have sA0 : wc.heap.size ≤ wc.heap.size := Nat.le_refl _
        have sA1 : wc.heap.size ≤ w1.heap.size := c1.size
        have sA2 : wc.heap.size ≤ w2.heap.size := c2.size
        first
          | with_reducible exact (CutF.k1 r1 r2 c2 sA2)
          | with_reducible exact (CutF.k2 A0.out sA0 r1 r2 c2)
          | with_reducible exact (CutF.k2 A1.out sA1 r1 r2 c2)
          | with_reducible exact (CutF.k1 r1 r2 c2 sA2).drew
          | with_reducible exact (CutF.k2 A0.out sA0 r1 r2 c2).drew
          | with_reducible exact (CutF.k2 A1.out sA1 r1 r2 c2).drew
          | fail
    case rest =>
      obtain ⟨g9, y3, y4, l3, c3, l4, c4, rfl, hcut⟩ := hcut
      obtain ⟨hg9, z9, r3, r4, bx, lg9⟩ := hcut.out
      have RR3 : Hid (Rd wc.drew (.slice y3 l3 c3) (Nm.dg W M2)) := r3
      have RR4 : Hid (Rd wc.drew (.slice y4 l4 c4) (Nm.dg W N2)) := r4
      have SS1 : Hid (Rd wc.drew (.slice y1 l1 c1) (Nm.dg W M1)) := RR1.out.below bx.drew (Nat.le_refl _)
      have SS2 : Hid (Rd wc.drew (.slice y2 l2 c2) (Nm.dg W N1)) := RR2.out.below bx.drew (Nat.le_refl _)
      have BY := Lib.hid (chain BX.out bx)
      have LG9 : Hid (w.heap.size + 3 ≤ g9) := Nat.le_trans HSB.out hg9
      have z8b := Z8.out.next bx
      obtain ⟨⟨b0, b1, b2, b3⟩, _⟩ := z8b
      obtain ⟨⟨b4, b5, b6, b7⟩, _⟩ := z9
      clear HSB jba jbb jbc jbd jbe jbf jbg jbh jbi k0 k1 k2 k3 hcut hg9 r3 r4 bx lg9 RR1 RR2 Z8
      have k0 := b0
      have k1 := b1
      have k2 := b2
      have k3 := b3
      have k4 := b4
      have k5 := b5
      have k6 := b6
      have k7 := b7
      clear b0 b1 b2 b3 b4 b5 b6 b7
      have e1 : ¬ g8 = w.heap.size + 1 + 1 := by have := LG8.out; omega
      have e2 : ¬ w.heap.size + 1 + 1 = g8 := fun e => e1 e.symm
      have e3 : ¬ g9 = w.heap.size + 1 + 1 := by have := LG9.out; omega
      have e4 : ¬ w.heap.size + 1 + 1 = g9 := fun e => e3 e.symm
      go_wp2_with fail
      go_region_held3 (fun W' => W'.cell? ⟨g8, 0, none⟩ = some (.bool na1) ∧ W'.cell? ⟨g8, 1, none⟩ = some (.slice y1 l1 c1) ∧ W'.cell? ⟨g8, 2, none⟩ = some (.bool nb1) ∧ W'.cell? ⟨g8, 3, none⟩ = some (.slice y2 l2 c2) ∧ W'.cell? ⟨g9, 0, none⟩ = some (.bool na2) ∧ W'.cell? ⟨g9, 1, none⟩ = some (.slice y3 l3 c3) ∧ W'.cell? ⟨g9, 2, none⟩ = some (.bool nb2) ∧ W'.cell? ⟨g9, 3, none⟩ = some (.slice y4 l4 c4)) (go_keep)
        (first
          | (go_at_call 84; (with_reducible refine (HF.out _ _ _ _ _ SS1.out SS2.out RR3.out RR4.out).mono ?_); rintro e w1 ⟨v5, rfl, r5, b5⟩; have d1 := chain ((Below.refl _ _).drew) b5; have p0 := keep1 d1 k0; have p1 := keep1 d1 k1; have p2 := keep1 d1 k2; have p3 := keep1 d1 k3; have p4 := keep1 d1 k4; have p5 := keep1 d1 k5; have p6 := keep1 d1 k6; have p7 := keep1 d1 k7; have G1 := Lib.hid (And.intro r5 d1); have T2 := Lib.hid (SS2.out.below b5 (Nat.le_refl _)); have T4 := Lib.hid (RR4.out.below b5 (Nat.le_refl _)); obtain ⟨p5, q5, o5, c5, rfl, hr5⟩ := r5; clear hr5 b5)
          | (go_at_call 83; (with_reducible refine (HT.out _ _ _ T2.out T4.out).mono ?_); rintro e w2 ⟨v6, rfl, r6, b6⟩; have d2 := chain G1.out.2 b6; have p0 := keep1 d2 k0; have p1 := keep1 d2 k1; have p2 := keep1 d2 k2; have p3 := keep1 d2 k3; have p4 := keep1 d2 k4; have p5 := keep1 d2 k5; have p6 := keep1 d2 k6; have p7 := keep1 d2 k7; have G2 := Lib.hid (And.intro (G1.out.1.below b6 (Nat.le_refl _)) (And.intro r6 d2)); obtain ⟨p6, q6, o6, c6, rfl, hr6⟩ := r6; clear hr6 b6)
          | (go_at_call 62; (with_reducible refine (HL.out _ _ _ G2.out.1 G2.out.2.1).mono ?_); rintro e w3 ⟨rfl, b7⟩; have d3 := chain G2.out.2.2 b7; have p0 := keep1 d3 k0; have p1 := keep1 d3 k1; have p2 := keep1 d3 k2; have p3 := keep1 d3 k3; have p4 := keep1 d3 k4; have p5 := keep1 d3 k5; have p6 := keep1 d3 k6; have p7 := keep1 d3 k7; obtain ⟨⟨x0, x1, x2, x3⟩, x4, x5, x6, x7⟩ := I3.out.next (chain BY.out d3); have G3 := Lib.hid d3; unfold rat at *; clear b7)
          | fail)
      have HZ := Lib.hid (below_set4 (chain hb0.out (chain BY.out G3.out)) (g := w.heap.size + 1 + 1) (by omega) (.bool xb) (.string xs) (.bool false) (.string ys))
      go_wp2
      exact bodyPost_ret (v := .tuple #[.agg #[.bool xb, .string xs, .bool false, .string ys], .int .i64 0]) (by simp [results, Tryz.results80, go_sem, x0, x1, x2, x3]) rfl ⟨rfl, HZ.out⟩

set_option maxRecDepth 100000 in
set_option maxHeartbeats 2000000 in
theorem SubRatio_ok (na1 nb1 na2 nb2 : Bool) (s1 t1 s2 t2 : ByteArray) (sg : Bool) (k A B : Nat) (w : World) (hf : FracOK 84 na1 nb1 na2 nb2 (bv s1) (bv t1) (bv s2) (bv t2) sg k) (hl : LowOK k (bv t1 * bv t2) A B)
    (v1 : vld na1 s1 = true) (v2 : vld nb1 t1 = true) (v3 : vld na2 s2 = true) (v4 : vld nb2 t2 = true) (g1 : 0 < sgV nb1 t1) (g2 : 0 < sgV nb2 t2) :
    Calls Tryz.prog 24 #[rat na1 s1 nb1 t1, rat na2 s2 nb2 t2] w (RPost ((sg != (nb1 != nb2)) && decide (A ≠ 0)) (bs A) false (bs B) 0 w) := by
  have HC := Lib.hid (fun w => combine_sub na1 nb1 na2 nb2 s1 t1 s2 t2 sg k A B w hf hl v1 v2 v3 v4 g1 g2)
  clear hf hl v1 v2 v3 v4 g1 g2
  generalize ((sg != (nb1 != nb2)) && decide (A ≠ 0)) = xb at *
  generalize bs A = xs at *
  generalize bs B = ys at *
  unfold rat at HC ⊢
  obtain ⟨w0, hw0⟩ : ∃ w0 : World, w0 = ((w.alloc (.cells #[.bool na1, .string s1, .bool nb1, .string t1] 27)).alloc (.cells #[.bool na2, .string s2, .bool nb2, .string t2] 27)).alloc (.cells #[.bool false, .string ⟨#[]⟩, .bool false, .string ⟨#[]⟩] 27) := ⟨_, rfl⟩
  have hb0 : Hid (Below w.heap.size w w0) := by rw [hw0]; exact (((Below.refl _ _).alloc (Nat.le_refl _) _).alloc (by simp) _).alloc (by simp; omega) _
  have i3 : ZC4 (.bool false) (.string ⟨#[]⟩) (.bool false) (.string ⟨#[]⟩) w0 (w.heap.size + 1 + 1) := by
    rw [hw0]; refine ⟨⟨?_, ?_, ?_, ?_⟩, ?_, ?_, ?_, ?_⟩ <;> simp [go_sem]
  have I3 := Lib.hid i3
  have Hw0 := Lib.hid hw0
  clear i3 hw0
  go_enter Tryz.func24, Tryz.ntmps24
  go_wp2_with fail
  rw [← Hw0.out]
  refine (HC.out _).mono ?_
  rintro e wc ⟨rfl, bc⟩
  obtain ⟨⟨x0, x1, x2, x3⟩, x4, x5, x6, x7⟩ := I3.out.next bc
  have HZ := Lib.hid (below_set4 (chain hb0.out bc) (g := w.heap.size + 1 + 1) (by omega) (.bool xb) (.string xs) (.bool false) (.string ys))
  unfold rat at *
  clear bc
  go_wp2
  exact bodyPost_ret (v := .tuple #[.agg #[.bool xb, .string xs, .bool false, .string ys], .int .i64 0]) (by simp [results, Tryz.results24, go_sem, x0, x1, x2, x3]) rfl ⟨rfl, HZ.out⟩

set_option maxRecDepth 100000 in
set_option maxHeartbeats 2000000 in
theorem combine_add_bad1 (na1 nb1 na2 nb2 : Bool) (s1 t1 s2 t2 : ByteArray) (w : World) (z1 : s1.size ≤ 140737488351232) (z2 : t1.size ≤ 140737488351232) (z3 : s2.size ≤ 140737488351232) (z4 : t2.size ≤ 140737488351232) (h1 : vldR na1 s1 nb1 t1 = false) :
    Calls Tryz.prog 80 #[rat na1 s1 nb1 t1, rat na2 s2 nb2 t2, .func (Fn.func 81) #[] #[]] w (RPost false ⟨#[]⟩ false ⟨#[]⟩ 2 w) := by
  have HA := Lib.hid (fun w => ValidRatio_any na1 nb1 s1 t1 w z1 z2)
  rw [h1] at HA
  unfold BPost at *
  unfold RPost
  unfold rat
  obtain ⟨w0, hw0⟩ : ∃ w0 : World, w0 = ((w.alloc (.cells #[.bool na1, .string s1, .bool nb1, .string t1] 27)).alloc (.cells #[.bool na2, .string s2, .bool nb2, .string t2] 27)).alloc (.cells #[.bool false, .string ⟨#[]⟩, .bool false, .string ⟨#[]⟩] 27) := ⟨_, rfl⟩
  have hb0 : Hid (Below w.heap.size w w0) := by rw [hw0]; exact (((Below.refl _ _).alloc (Nat.le_refl _) _).alloc (by simp) _).alloc (by simp; omega) _
  have I2 : Hid (ZC4 (.bool na2) (.string s2) (.bool nb2) (.string t2) w0 (w.heap.size + 1)) := by
    show ZC4 _ _ _ _ _ _
    rw [hw0]; refine ⟨⟨?_, ?_, ?_, ?_⟩, ?_, ?_, ?_, ?_⟩ <;> simp [go_sem]
  have I3 : Hid (ZC4 (.bool false) (.string ⟨#[]⟩) (.bool false) (.string ⟨#[]⟩) w0 (w.heap.size + 1 + 1)) := by
    show ZC4 _ _ _ _ _ _
    rw [hw0]; refine ⟨⟨?_, ?_, ?_, ?_⟩, ?_, ?_, ?_, ?_⟩ <;> simp [go_sem]
  have Hw0 := Lib.hid hw0
  clear hw0
  go_enter Tryz.func80, Tryz.ntmps80
  go_wp2_with fail
  rw [← Hw0.out]
  refine (HA.out _).mono ?_
  rintro e wa ⟨rfl, ba⟩
  have D := Lib.hid ba
  clear ba
  obtain ⟨⟨n0, n1, n2, n3⟩, n4, n5, n6, n7⟩ := I3.out.next D.out
  have HZ := Lib.hid (below_set4 (chain hb0.out D.out) (g := w.heap.size + 1 + 1) (by omega) (.bool false) (.string ⟨#[]⟩) (.bool false) (.string ⟨#[]⟩))
  go_wp2
  exact bodyPost_ret (v := .tuple #[.agg #[.bool false, .string ⟨#[]⟩, .bool false, .string ⟨#[]⟩], .int .i64 2]) (by simp [results, Tryz.results80, go_sem, n0, n1, n2, n3]) rfl ⟨rfl, HZ.out⟩

set_option maxRecDepth 100000 in
set_option maxHeartbeats 2000000 in
theorem combine_add_bad2 (na1 nb1 na2 nb2 : Bool) (s1 t1 s2 t2 : ByteArray) (w : World) (z1 : s1.size ≤ 140737488351232) (z2 : t1.size ≤ 140737488351232) (z3 : s2.size ≤ 140737488351232) (z4 : t2.size ≤ 140737488351232) (h1 : vldR na1 s1 nb1 t1 = true) (h2 : vldR na2 s2 nb2 t2 = false) :
    Calls Tryz.prog 80 #[rat na1 s1 nb1 t1, rat na2 s2 nb2 t2, .func (Fn.func 81) #[] #[]] w (RPost false ⟨#[]⟩ false ⟨#[]⟩ 2 w) := by
  have HA := Lib.hid (fun w => ValidRatio_any na1 nb1 s1 t1 w z1 z2)
  rw [h1] at HA
  have HB := Lib.hid (fun w => ValidRatio_any na2 nb2 s2 t2 w z3 z4)
  rw [h2] at HB
  unfold BPost at *
  unfold RPost
  unfold rat
  obtain ⟨w0, hw0⟩ : ∃ w0 : World, w0 = ((w.alloc (.cells #[.bool na1, .string s1, .bool nb1, .string t1] 27)).alloc (.cells #[.bool na2, .string s2, .bool nb2, .string t2] 27)).alloc (.cells #[.bool false, .string ⟨#[]⟩, .bool false, .string ⟨#[]⟩] 27) := ⟨_, rfl⟩
  have hb0 : Hid (Below w.heap.size w w0) := by rw [hw0]; exact (((Below.refl _ _).alloc (Nat.le_refl _) _).alloc (by simp) _).alloc (by simp; omega) _
  have I2 : Hid (ZC4 (.bool na2) (.string s2) (.bool nb2) (.string t2) w0 (w.heap.size + 1)) := by
    show ZC4 _ _ _ _ _ _
    rw [hw0]; refine ⟨⟨?_, ?_, ?_, ?_⟩, ?_, ?_, ?_, ?_⟩ <;> simp [go_sem]
  have I3 : Hid (ZC4 (.bool false) (.string ⟨#[]⟩) (.bool false) (.string ⟨#[]⟩) w0 (w.heap.size + 1 + 1)) := by
    show ZC4 _ _ _ _ _ _
    rw [hw0]; refine ⟨⟨?_, ?_, ?_, ?_⟩, ?_, ?_, ?_, ?_⟩ <;> simp [go_sem]
  have Hw0 := Lib.hid hw0
  clear hw0
  go_enter Tryz.func80, Tryz.ntmps80
  go_wp2_with fail
  rw [← Hw0.out]
  refine (HA.out _).mono ?_
  rintro e wa ⟨rfl, ba⟩
  have D := Lib.hid ba
  clear ba
  obtain ⟨⟨q0, q1, q2, q3⟩, _⟩ := I2.out.next D.out
  go_wp2_with fail
  refine (HB.out _).mono ?_
  rintro e wb ⟨rfl, bb⟩
  have D := Lib.hid (chain D.out bb)
  clear bb q0 q1 q2 q3
  obtain ⟨⟨n0, n1, n2, n3⟩, n4, n5, n6, n7⟩ := I3.out.next D.out
  have HZ := Lib.hid (below_set4 (chain hb0.out D.out) (g := w.heap.size + 1 + 1) (by omega) (.bool false) (.string ⟨#[]⟩) (.bool false) (.string ⟨#[]⟩))
  go_wp2
  exact bodyPost_ret (v := .tuple #[.agg #[.bool false, .string ⟨#[]⟩, .bool false, .string ⟨#[]⟩], .int .i64 2]) (by simp [results, Tryz.results80, go_sem, n0, n1, n2, n3]) rfl ⟨rfl, HZ.out⟩

set_option maxRecDepth 100000 in
set_option maxHeartbeats 2000000 in
theorem AddRatio_bad (na1 nb1 na2 nb2 : Bool) (s1 t1 s2 t2 : ByteArray) (w : World) (z1 : s1.size ≤ 140737488351232) (z2 : t1.size ≤ 140737488351232) (z3 : s2.size ≤ 140737488351232) (z4 : t2.size ≤ 140737488351232) (h : (vldR na1 s1 nb1 t1 && vldR na2 s2 nb2 t2) = false) :
    Calls Tryz.prog 23 #[rat na1 s1 nb1 t1, rat na2 s2 nb2 t2] w (RPost false ⟨#[]⟩ false ⟨#[]⟩ 2 w) := by
  have HC : Hid (∀ w, Calls Tryz.prog 80 #[rat na1 s1 nb1 t1, rat na2 s2 nb2 t2, .func (Fn.func 81) #[] #[]] w (RPost false ⟨#[]⟩ false ⟨#[]⟩ 2 w)) := fun w => by
    cases h1 : vldR na1 s1 nb1 t1 with
    | false => exact combine_add_bad1 na1 nb1 na2 nb2 s1 t1 s2 t2 w z1 z2 z3 z4 h1
    | true => exact combine_add_bad2 na1 nb1 na2 nb2 s1 t1 s2 t2 w z1 z2 z3 z4 h1 (by rw [h1] at h; simpa using h)
  clear h
  unfold rat at HC ⊢
  obtain ⟨w0, hw0⟩ : ∃ w0 : World, w0 = ((w.alloc (.cells #[.bool na1, .string s1, .bool nb1, .string t1] 27)).alloc (.cells #[.bool na2, .string s2, .bool nb2, .string t2] 27)).alloc (.cells #[.bool false, .string ⟨#[]⟩, .bool false, .string ⟨#[]⟩] 27) := ⟨_, rfl⟩
  have hb0 : Hid (Below w.heap.size w w0) := by rw [hw0]; exact (((Below.refl _ _).alloc (Nat.le_refl _) _).alloc (by simp) _).alloc (by simp; omega) _
  have i3 : ZC4 (.bool false) (.string ⟨#[]⟩) (.bool false) (.string ⟨#[]⟩) w0 (w.heap.size + 1 + 1) := by
    rw [hw0]; refine ⟨⟨?_, ?_, ?_, ?_⟩, ?_, ?_, ?_, ?_⟩ <;> simp [go_sem]
  have I3 := Lib.hid i3
  have Hw0 := Lib.hid hw0
  clear i3 hw0
  go_enter Tryz.func23, Tryz.ntmps23
  go_wp2_with fail
  rw [← Hw0.out]
  refine (HC.out _).mono ?_
  rintro e wc ⟨rfl, bc⟩
  obtain ⟨⟨x0, x1, x2, x3⟩, x4, x5, x6, x7⟩ := I3.out.next bc
  have HZ := Lib.hid (below_set4 (chain hb0.out bc) (g := w.heap.size + 1 + 1) (by omega) (.bool false) (.string ⟨#[]⟩) (.bool false) (.string ⟨#[]⟩))
  unfold rat at *
  clear bc
  go_wp2
  exact bodyPost_ret (v := .tuple #[.agg #[.bool false, .string ⟨#[]⟩, .bool false, .string ⟨#[]⟩], .int .i64 2]) (by simp [results, Tryz.results23, go_sem, x0, x1, x2, x3]) rfl ⟨rfl, HZ.out⟩

set_option maxRecDepth 100000 in
set_option maxHeartbeats 2000000 in
theorem combine_sub_bad1 (na1 nb1 na2 nb2 : Bool) (s1 t1 s2 t2 : ByteArray) (w : World) (z1 : s1.size ≤ 140737488351232) (z2 : t1.size ≤ 140737488351232) (z3 : s2.size ≤ 140737488351232) (z4 : t2.size ≤ 140737488351232) (h1 : vldR na1 s1 nb1 t1 = false) :
    Calls Tryz.prog 80 #[rat na1 s1 nb1 t1, rat na2 s2 nb2 t2, .func (Fn.func 84) #[] #[]] w (RPost false ⟨#[]⟩ false ⟨#[]⟩ 2 w) := by
  have HA := Lib.hid (fun w => ValidRatio_any na1 nb1 s1 t1 w z1 z2)
  rw [h1] at HA
  unfold BPost at *
  unfold RPost
  unfold rat
  obtain ⟨w0, hw0⟩ : ∃ w0 : World, w0 = ((w.alloc (.cells #[.bool na1, .string s1, .bool nb1, .string t1] 27)).alloc (.cells #[.bool na2, .string s2, .bool nb2, .string t2] 27)).alloc (.cells #[.bool false, .string ⟨#[]⟩, .bool false, .string ⟨#[]⟩] 27) := ⟨_, rfl⟩
  have hb0 : Hid (Below w.heap.size w w0) := by rw [hw0]; exact (((Below.refl _ _).alloc (Nat.le_refl _) _).alloc (by simp) _).alloc (by simp; omega) _
  have I2 : Hid (ZC4 (.bool na2) (.string s2) (.bool nb2) (.string t2) w0 (w.heap.size + 1)) := by
    show ZC4 _ _ _ _ _ _
    rw [hw0]; refine ⟨⟨?_, ?_, ?_, ?_⟩, ?_, ?_, ?_, ?_⟩ <;> simp [go_sem]
  have I3 : Hid (ZC4 (.bool false) (.string ⟨#[]⟩) (.bool false) (.string ⟨#[]⟩) w0 (w.heap.size + 1 + 1)) := by
    show ZC4 _ _ _ _ _ _
    rw [hw0]; refine ⟨⟨?_, ?_, ?_, ?_⟩, ?_, ?_, ?_, ?_⟩ <;> simp [go_sem]
  have Hw0 := Lib.hid hw0
  clear hw0
  go_enter Tryz.func80, Tryz.ntmps80
  go_wp2_with fail
  rw [← Hw0.out]
  refine (HA.out _).mono ?_
  rintro e wa ⟨rfl, ba⟩
  have D := Lib.hid ba
  clear ba
  obtain ⟨⟨n0, n1, n2, n3⟩, n4, n5, n6, n7⟩ := I3.out.next D.out
  have HZ := Lib.hid (below_set4 (chain hb0.out D.out) (g := w.heap.size + 1 + 1) (by omega) (.bool false) (.string ⟨#[]⟩) (.bool false) (.string ⟨#[]⟩))
  go_wp2
  exact bodyPost_ret (v := .tuple #[.agg #[.bool false, .string ⟨#[]⟩, .bool false, .string ⟨#[]⟩], .int .i64 2]) (by simp [results, Tryz.results80, go_sem, n0, n1, n2, n3]) rfl ⟨rfl, HZ.out⟩

set_option maxRecDepth 100000 in
set_option maxHeartbeats 2000000 in
theorem combine_sub_bad2 (na1 nb1 na2 nb2 : Bool) (s1 t1 s2 t2 : ByteArray) (w : World) (z1 : s1.size ≤ 140737488351232) (z2 : t1.size ≤ 140737488351232) (z3 : s2.size ≤ 140737488351232) (z4 : t2.size ≤ 140737488351232) (h1 : vldR na1 s1 nb1 t1 = true) (h2 : vldR na2 s2 nb2 t2 = false) :
    Calls Tryz.prog 80 #[rat na1 s1 nb1 t1, rat na2 s2 nb2 t2, .func (Fn.func 84) #[] #[]] w (RPost false ⟨#[]⟩ false ⟨#[]⟩ 2 w) := by
  have HA := Lib.hid (fun w => ValidRatio_any na1 nb1 s1 t1 w z1 z2)
  rw [h1] at HA
  have HB := Lib.hid (fun w => ValidRatio_any na2 nb2 s2 t2 w z3 z4)
  rw [h2] at HB
  unfold BPost at *
  unfold RPost
  unfold rat
  obtain ⟨w0, hw0⟩ : ∃ w0 : World, w0 = ((w.alloc (.cells #[.bool na1, .string s1, .bool nb1, .string t1] 27)).alloc (.cells #[.bool na2, .string s2, .bool nb2, .string t2] 27)).alloc (.cells #[.bool false, .string ⟨#[]⟩, .bool false, .string ⟨#[]⟩] 27) := ⟨_, rfl⟩
  have hb0 : Hid (Below w.heap.size w w0) := by rw [hw0]; exact (((Below.refl _ _).alloc (Nat.le_refl _) _).alloc (by simp) _).alloc (by simp; omega) _
  have I2 : Hid (ZC4 (.bool na2) (.string s2) (.bool nb2) (.string t2) w0 (w.heap.size + 1)) := by
    show ZC4 _ _ _ _ _ _
    rw [hw0]; refine ⟨⟨?_, ?_, ?_, ?_⟩, ?_, ?_, ?_, ?_⟩ <;> simp [go_sem]
  have I3 : Hid (ZC4 (.bool false) (.string ⟨#[]⟩) (.bool false) (.string ⟨#[]⟩) w0 (w.heap.size + 1 + 1)) := by
    show ZC4 _ _ _ _ _ _
    rw [hw0]; refine ⟨⟨?_, ?_, ?_, ?_⟩, ?_, ?_, ?_, ?_⟩ <;> simp [go_sem]
  have Hw0 := Lib.hid hw0
  clear hw0
  go_enter Tryz.func80, Tryz.ntmps80
  go_wp2_with fail
  rw [← Hw0.out]
  refine (HA.out _).mono ?_
  rintro e wa ⟨rfl, ba⟩
  have D := Lib.hid ba
  clear ba
  obtain ⟨⟨q0, q1, q2, q3⟩, _⟩ := I2.out.next D.out
  go_wp2_with fail
  refine (HB.out _).mono ?_
  rintro e wb ⟨rfl, bb⟩
  have D := Lib.hid (chain D.out bb)
  clear bb q0 q1 q2 q3
  obtain ⟨⟨n0, n1, n2, n3⟩, n4, n5, n6, n7⟩ := I3.out.next D.out
  have HZ := Lib.hid (below_set4 (chain hb0.out D.out) (g := w.heap.size + 1 + 1) (by omega) (.bool false) (.string ⟨#[]⟩) (.bool false) (.string ⟨#[]⟩))
  go_wp2
  exact bodyPost_ret (v := .tuple #[.agg #[.bool false, .string ⟨#[]⟩, .bool false, .string ⟨#[]⟩], .int .i64 2]) (by simp [results, Tryz.results80, go_sem, n0, n1, n2, n3]) rfl ⟨rfl, HZ.out⟩

set_option maxRecDepth 100000 in
set_option maxHeartbeats 2000000 in
theorem SubRatio_bad (na1 nb1 na2 nb2 : Bool) (s1 t1 s2 t2 : ByteArray) (w : World) (z1 : s1.size ≤ 140737488351232) (z2 : t1.size ≤ 140737488351232) (z3 : s2.size ≤ 140737488351232) (z4 : t2.size ≤ 140737488351232) (h : (vldR na1 s1 nb1 t1 && vldR na2 s2 nb2 t2) = false) :
    Calls Tryz.prog 24 #[rat na1 s1 nb1 t1, rat na2 s2 nb2 t2] w (RPost false ⟨#[]⟩ false ⟨#[]⟩ 2 w) := by
  have HC : Hid (∀ w, Calls Tryz.prog 80 #[rat na1 s1 nb1 t1, rat na2 s2 nb2 t2, .func (Fn.func 84) #[] #[]] w (RPost false ⟨#[]⟩ false ⟨#[]⟩ 2 w)) := fun w => by
    cases h1 : vldR na1 s1 nb1 t1 with
    | false => exact combine_sub_bad1 na1 nb1 na2 nb2 s1 t1 s2 t2 w z1 z2 z3 z4 h1
    | true => exact combine_sub_bad2 na1 nb1 na2 nb2 s1 t1 s2 t2 w z1 z2 z3 z4 h1 (by rw [h1] at h; simpa using h)
  clear h
  unfold rat at HC ⊢
  obtain ⟨w0, hw0⟩ : ∃ w0 : World, w0 = ((w.alloc (.cells #[.bool na1, .string s1, .bool nb1, .string t1] 27)).alloc (.cells #[.bool na2, .string s2, .bool nb2, .string t2] 27)).alloc (.cells #[.bool false, .string ⟨#[]⟩, .bool false, .string ⟨#[]⟩] 27) := ⟨_, rfl⟩
  have hb0 : Hid (Below w.heap.size w w0) := by rw [hw0]; exact (((Below.refl _ _).alloc (Nat.le_refl _) _).alloc (by simp) _).alloc (by simp; omega) _
  have i3 : ZC4 (.bool false) (.string ⟨#[]⟩) (.bool false) (.string ⟨#[]⟩) w0 (w.heap.size + 1 + 1) := by
    rw [hw0]; refine ⟨⟨?_, ?_, ?_, ?_⟩, ?_, ?_, ?_, ?_⟩ <;> simp [go_sem]
  have I3 := Lib.hid i3
  have Hw0 := Lib.hid hw0
  clear i3 hw0
  go_enter Tryz.func24, Tryz.ntmps24
  go_wp2_with fail
  rw [← Hw0.out]
  refine (HC.out _).mono ?_
  rintro e wc ⟨rfl, bc⟩
  obtain ⟨⟨x0, x1, x2, x3⟩, x4, x5, x6, x7⟩ := I3.out.next bc
  have HZ := Lib.hid (below_set4 (chain hb0.out bc) (g := w.heap.size + 1 + 1) (by omega) (.bool false) (.string ⟨#[]⟩) (.bool false) (.string ⟨#[]⟩))
  unfold rat at *
  clear bc
  go_wp2
  exact bodyPost_ret (v := .tuple #[.agg #[.bool false, .string ⟨#[]⟩, .bool false, .string ⟨#[]⟩], .int .i64 2]) (by simp [results, Tryz.results24, go_sem, x0, x1, x2, x3]) rfl ⟨rfl, HZ.out⟩

set_option maxRecDepth 100000 in
set_option maxHeartbeats 2000000 in
theorem combine_mul_bad1 (na1 nb1 na2 nb2 : Bool) (s1 t1 s2 t2 : ByteArray) (w : World) (z1 : s1.size ≤ 140737488351232) (z2 : t1.size ≤ 140737488351232) (z3 : s2.size ≤ 140737488351232) (z4 : t2.size ≤ 140737488351232) (h1 : vldR na1 s1 nb1 t1 = false) :
    Calls Tryz.prog 80 #[rat na1 s1 nb1 t1, rat na2 s2 nb2 t2, .func (Fn.func 86) #[] #[]] w (RPost false ⟨#[]⟩ false ⟨#[]⟩ 2 w) := by
  have HA := Lib.hid (fun w => ValidRatio_any na1 nb1 s1 t1 w z1 z2)
  rw [h1] at HA
  unfold BPost at *
  unfold RPost
  unfold rat
  obtain ⟨w0, hw0⟩ : ∃ w0 : World, w0 = ((w.alloc (.cells #[.bool na1, .string s1, .bool nb1, .string t1] 27)).alloc (.cells #[.bool na2, .string s2, .bool nb2, .string t2] 27)).alloc (.cells #[.bool false, .string ⟨#[]⟩, .bool false, .string ⟨#[]⟩] 27) := ⟨_, rfl⟩
  have hb0 : Hid (Below w.heap.size w w0) := by rw [hw0]; exact (((Below.refl _ _).alloc (Nat.le_refl _) _).alloc (by simp) _).alloc (by simp; omega) _
  have I2 : Hid (ZC4 (.bool na2) (.string s2) (.bool nb2) (.string t2) w0 (w.heap.size + 1)) := by
    show ZC4 _ _ _ _ _ _
    rw [hw0]; refine ⟨⟨?_, ?_, ?_, ?_⟩, ?_, ?_, ?_, ?_⟩ <;> simp [go_sem]
  have I3 : Hid (ZC4 (.bool false) (.string ⟨#[]⟩) (.bool false) (.string ⟨#[]⟩) w0 (w.heap.size + 1 + 1)) := by
    show ZC4 _ _ _ _ _ _
    rw [hw0]; refine ⟨⟨?_, ?_, ?_, ?_⟩, ?_, ?_, ?_, ?_⟩ <;> simp [go_sem]
  have Hw0 := Lib.hid hw0
  clear hw0
  go_enter Tryz.func80, Tryz.ntmps80
  go_wp2_with fail
  rw [← Hw0.out]
  refine (HA.out _).mono ?_
  rintro e wa ⟨rfl, ba⟩
  have D := Lib.hid ba
  clear ba
  obtain ⟨⟨n0, n1, n2, n3⟩, n4, n5, n6, n7⟩ := I3.out.next D.out
  have HZ := Lib.hid (below_set4 (chain hb0.out D.out) (g := w.heap.size + 1 + 1) (by omega) (.bool false) (.string ⟨#[]⟩) (.bool false) (.string ⟨#[]⟩))
  go_wp2
  exact bodyPost_ret (v := .tuple #[.agg #[.bool false, .string ⟨#[]⟩, .bool false, .string ⟨#[]⟩], .int .i64 2]) (by simp [results, Tryz.results80, go_sem, n0, n1, n2, n3]) rfl ⟨rfl, HZ.out⟩

set_option maxRecDepth 100000 in
set_option maxHeartbeats 2000000 in
theorem combine_mul_bad2 (na1 nb1 na2 nb2 : Bool) (s1 t1 s2 t2 : ByteArray) (w : World) (z1 : s1.size ≤ 140737488351232) (z2 : t1.size ≤ 140737488351232) (z3 : s2.size ≤ 140737488351232) (z4 : t2.size ≤ 140737488351232) (h1 : vldR na1 s1 nb1 t1 = true) (h2 : vldR na2 s2 nb2 t2 = false) :
    Calls Tryz.prog 80 #[rat na1 s1 nb1 t1, rat na2 s2 nb2 t2, .func (Fn.func 86) #[] #[]] w (RPost false ⟨#[]⟩ false ⟨#[]⟩ 2 w) := by
  have HA := Lib.hid (fun w => ValidRatio_any na1 nb1 s1 t1 w z1 z2)
  rw [h1] at HA
  have HB := Lib.hid (fun w => ValidRatio_any na2 nb2 s2 t2 w z3 z4)
  rw [h2] at HB
  unfold BPost at *
  unfold RPost
  unfold rat
  obtain ⟨w0, hw0⟩ : ∃ w0 : World, w0 = ((w.alloc (.cells #[.bool na1, .string s1, .bool nb1, .string t1] 27)).alloc (.cells #[.bool na2, .string s2, .bool nb2, .string t2] 27)).alloc (.cells #[.bool false, .string ⟨#[]⟩, .bool false, .string ⟨#[]⟩] 27) := ⟨_, rfl⟩
  have hb0 : Hid (Below w.heap.size w w0) := by rw [hw0]; exact (((Below.refl _ _).alloc (Nat.le_refl _) _).alloc (by simp) _).alloc (by simp; omega) _
  have I2 : Hid (ZC4 (.bool na2) (.string s2) (.bool nb2) (.string t2) w0 (w.heap.size + 1)) := by
    show ZC4 _ _ _ _ _ _
    rw [hw0]; refine ⟨⟨?_, ?_, ?_, ?_⟩, ?_, ?_, ?_, ?_⟩ <;> simp [go_sem]
  have I3 : Hid (ZC4 (.bool false) (.string ⟨#[]⟩) (.bool false) (.string ⟨#[]⟩) w0 (w.heap.size + 1 + 1)) := by
    show ZC4 _ _ _ _ _ _
    rw [hw0]; refine ⟨⟨?_, ?_, ?_, ?_⟩, ?_, ?_, ?_, ?_⟩ <;> simp [go_sem]
  have Hw0 := Lib.hid hw0
  clear hw0
  go_enter Tryz.func80, Tryz.ntmps80
  go_wp2_with fail
  rw [← Hw0.out]
  refine (HA.out _).mono ?_
  rintro e wa ⟨rfl, ba⟩
  have D := Lib.hid ba
  clear ba
  obtain ⟨⟨q0, q1, q2, q3⟩, _⟩ := I2.out.next D.out
  go_wp2_with fail
  refine (HB.out _).mono ?_
  rintro e wb ⟨rfl, bb⟩
  have D := Lib.hid (chain D.out bb)
  clear bb q0 q1 q2 q3
  obtain ⟨⟨n0, n1, n2, n3⟩, n4, n5, n6, n7⟩ := I3.out.next D.out
  have HZ := Lib.hid (below_set4 (chain hb0.out D.out) (g := w.heap.size + 1 + 1) (by omega) (.bool false) (.string ⟨#[]⟩) (.bool false) (.string ⟨#[]⟩))
  go_wp2
  exact bodyPost_ret (v := .tuple #[.agg #[.bool false, .string ⟨#[]⟩, .bool false, .string ⟨#[]⟩], .int .i64 2]) (by simp [results, Tryz.results80, go_sem, n0, n1, n2, n3]) rfl ⟨rfl, HZ.out⟩

set_option maxRecDepth 100000 in
set_option maxHeartbeats 2000000 in
theorem MulRatio_bad (na1 nb1 na2 nb2 : Bool) (s1 t1 s2 t2 : ByteArray) (w : World) (z1 : s1.size ≤ 140737488351232) (z2 : t1.size ≤ 140737488351232) (z3 : s2.size ≤ 140737488351232) (z4 : t2.size ≤ 140737488351232) (h : (vldR na1 s1 nb1 t1 && vldR na2 s2 nb2 t2) = false) :
    Calls Tryz.prog 25 #[rat na1 s1 nb1 t1, rat na2 s2 nb2 t2] w (RPost false ⟨#[]⟩ false ⟨#[]⟩ 2 w) := by
  have HC : Hid (∀ w, Calls Tryz.prog 80 #[rat na1 s1 nb1 t1, rat na2 s2 nb2 t2, .func (Fn.func 86) #[] #[]] w (RPost false ⟨#[]⟩ false ⟨#[]⟩ 2 w)) := fun w => by
    cases h1 : vldR na1 s1 nb1 t1 with
    | false => exact combine_mul_bad1 na1 nb1 na2 nb2 s1 t1 s2 t2 w z1 z2 z3 z4 h1
    | true => exact combine_mul_bad2 na1 nb1 na2 nb2 s1 t1 s2 t2 w z1 z2 z3 z4 h1 (by rw [h1] at h; simpa using h)
  clear h
  unfold rat at HC ⊢
  obtain ⟨w0, hw0⟩ : ∃ w0 : World, w0 = ((w.alloc (.cells #[.bool na1, .string s1, .bool nb1, .string t1] 27)).alloc (.cells #[.bool na2, .string s2, .bool nb2, .string t2] 27)).alloc (.cells #[.bool false, .string ⟨#[]⟩, .bool false, .string ⟨#[]⟩] 27) := ⟨_, rfl⟩
  have hb0 : Hid (Below w.heap.size w w0) := by rw [hw0]; exact (((Below.refl _ _).alloc (Nat.le_refl _) _).alloc (by simp) _).alloc (by simp; omega) _
  have i3 : ZC4 (.bool false) (.string ⟨#[]⟩) (.bool false) (.string ⟨#[]⟩) w0 (w.heap.size + 1 + 1) := by
    rw [hw0]; refine ⟨⟨?_, ?_, ?_, ?_⟩, ?_, ?_, ?_, ?_⟩ <;> simp [go_sem]
  have I3 := Lib.hid i3
  have Hw0 := Lib.hid hw0
  clear i3 hw0
  go_enter Tryz.func25, Tryz.ntmps25
  go_wp2_with fail
  rw [← Hw0.out]
  refine (HC.out _).mono ?_
  rintro e wc ⟨rfl, bc⟩
  obtain ⟨⟨x0, x1, x2, x3⟩, x4, x5, x6, x7⟩ := I3.out.next bc
  have HZ := Lib.hid (below_set4 (chain hb0.out bc) (g := w.heap.size + 1 + 1) (by omega) (.bool false) (.string ⟨#[]⟩) (.bool false) (.string ⟨#[]⟩))
  unfold rat at *
  clear bc
  go_wp2
  exact bodyPost_ret (v := .tuple #[.agg #[.bool false, .string ⟨#[]⟩, .bool false, .string ⟨#[]⟩], .int .i64 2]) (by simp [results, Tryz.results25, go_sem, x0, x1, x2, x3]) rfl ⟨rfl, HZ.out⟩
end Go.Proofs.YtlmklhffafcmmaaGreat

/- How a list of digits to the base 1000000000 lies in memory, for the references. -/
namespace Go.Proofs.YtlmklhffafcmmaaGreat
open Go.RowKit

/-- The base of the digits. -/
def D9 : Nat := 1000000000
theorem D92 : 2 ≤ D9 := by decide
theorem D90 : 0 < D9 := by decide

/-- The digits as values. -/
def iv (l : List Nat) : List Value := l.map fun (n : Nat) => Value.int .i64 (n : Int)
theorem iv_length (l : List Nat) : (iv l).length = l.length := by simp [iv]
theorem iv_get (l : List Nat) (k : Nat) (h : k < l.length) : (iv l)[k]? = some (.int .i64 (l[k] : Int)) := by simp [iv, List.getElem?_eq_getElem h]
theorem iv_snoc (l : List Nat) (x : Nat) : iv (l ++ [x]) = iv l ++ [Value.int .i64 (x : Int)] := by simp [iv]

/-- A slice value reads as a list of digits. -/
def Ri (w : World) (v : Value) (xs : List Nat) : Prop :=
  ∃ (p : Option Addr) (b off cap : Nat), v = .slice p xs.length cap ∧ xs.length ≤ cap ∧ cap ≤ maxLen ∧ (xs ≠ [] → p = some ⟨b, off, none⟩) ∧ ((p = none ∧ cap = 0) ∨ (p = some ⟨b, off, none⟩ ∧ b < w.heap.size)) ∧
    ∀ k (h : k < xs.length), w.cell? ⟨b, off + k, none⟩ = some (.int .i64 (xs[k] : Int))

theorem Ri.below {w w' : World} {B : Nat} {v : Value} {xs : List Nat} (h : Ri w v xs) (hb : Below B w w') (hB : w.heap.size ≤ B) : Ri w' v xs := by
  obtain ⟨p, b, off, cap, h1, h2, h3, h4, h5, h6⟩ := h
  refine ⟨p, b, off, cap, h1, h2, h3, h4, ?_, fun k hk => ?_⟩
  · rcases h5 with h5 | ⟨h5, h7⟩
    · exact Or.inl h5
    · exact Or.inr ⟨h5, Nat.lt_of_lt_of_le h7 hb.size⟩
  · have hl : b < w.heap.size := World.block_lt_of_cell? w _ (h6 k hk)
    rw [hb.cell (p := ⟨b, off + k, none⟩) (Nat.lt_of_lt_of_le hl hB)]
    exact h6 k hk


theorem Ri.drewN {w : World} {v : Value} {xs : List Nat} (h : Ri w v xs) (n : Nat) : Ri (w.drewN n) v xs := h
theorem Ri.nil (w : World) : Ri w (.slice none 0 0) [] := ⟨none, 0, 0, 0, rfl, by simp, by simp, fun h => absurd rfl h, Or.inl ⟨rfl, rfl⟩, fun k h => absurd h (by simp)⟩

/-- What the call itself gathered reads as it was gathered. -/
theorem Ri.of_own {w : World} {B : Nat} {v : Value} {l : List Nat} (h : w.ownsRow B 3 1 v l.length (iv l)) : Ri w v l := by
  rcases h.2 with ⟨rfl, h0⟩ | ⟨g, cap, cur, rfl, hB, hg, hn, hm, hs, ht⟩
  · rw [List.eq_nil_of_length_eq_zero h0]; exact Ri.nil w
  · refine ⟨some ⟨g, 0, none⟩, g, 0, cap, rfl, hn, hm, fun _ => rfl, Or.inr ⟨rfl, lt_of_block hg⟩, fun k hk => ?_⟩
    have := h.cells (g := g) rfl k (.int .i64 (l[k] : Int)) (iv_get l k hk)
    have hadd : ((⟨g, 0, none⟩ : Addr).add k) = ⟨g, 0 + k, none⟩ := by unfold Addr.add; split <;> simp_all
    rwa [hadd] at this

def lenOf : Value → Nat
  | .slice _ n _ => n
  | _ => 0

/-- The digits of a number come back. -/
def GivesI (n : Nat) (w : World) (e : Ending) (w' : World) : Prop := ∃ v, e = .returned v ∧ Ri w' v (Nm.dg D9 n) ∧ Below w.heap.size w w'
def TrimI (xs : List Nat) (w : World) (e : Ending) (w' : World) : Prop := ∃ v, e = .returned v ∧ Ri w v (Nm.trimL xs) ∧ w = w'

set_option maxRecDepth 100000 in
set_option maxHeartbeats 400000 in
theorem rtrim_any (v : Value) (xs : List Nat) (w : World) (h : Ri w v xs) : Calls Tryz.prog 69 #[v] w (TrimI xs w) := by
  obtain ⟨p, b, off, cap, rfl, h2, h3, h4, h5, h6⟩ := h
  have hc := h3
  unfold maxLen at hc
  have hl : xs.length ≤ 9223372036854775807 := by omega
  have H4 := Lib.hid h4
  have H5 := Lib.hid h5
  have H6 := Lib.hid h6
  have H23 := Lib.hid (And.intro h2 h3)
  clear h2 h3 h4 h5 h6 hc
  go_enter Tryz.func69, Tryz.ntmps69
  go_wp2
  go_loop [0] (fun v => ∃ k : Nat, k ≤ xs.length ∧ v = .slice p k cap ∧ Hid (∀ i (h : i < xs.length), k ≤ i → xs[i] = 0)) (fun v => lenOf v)
  case atStart => exact ⟨xs.length, Nat.le_refl _, rfl, fun i h hi => absurd h (by omega)⟩
  case round =>
    obtain ⟨k, hk, rfl, hz⟩ := hrel
    have htake : ∀ n, n ≤ xs.length → Ri w (.slice p n cap) (xs.take n) := by
      intro n hn
      have e : (xs.take n).length = n := by simp; omega
      refine ⟨p, b, off, cap, by rw [e], by have := H23.out.1; omega, H23.out.2, fun hne => H4.out (fun e0 => hne (by rw [e0]; simp)), H5.out, fun j hj => ?_⟩
      rw [e] at hj
      rw [H6.out j (by omega)]; simp
    have HT := Lib.hid htake
    clear htake
    rcases Nat.eq_zero_or_pos k with h0 | h0
    · subst h0
      have e0 : Hid (Nm.trimL xs = xs.take 0) := Nm.trimL_take (Nat.zero_le _) (fun i h _ => hz.out i h (Nat.zero_le _)) trivial
      go_wp2
      go_ret
      exact ⟨_, rfl, by rw [e0.out]; exact HT.out 0 (Nat.zero_le _), rfl⟩
    · obtain ⟨j, rfl⟩ : ∃ j, k = j + 1 := ⟨k - 1, by omega⟩
      have hj : j < xs.length := by omega
      obtain rfl := H4.out (by intro e; rw [e] at hj; exact absurd hj (Nat.not_lt_zero _))
      have hcell := H6.out j hj
      have hjc : j ≤ cap := by have := H23.out.1; omega
      by_cases hv : xs[j] = 0
      · have HV := Lib.hid hv
        have hvi : ((xs[j] : Int) == 0) = true := by simp [hv]
        clear hv
        go_wp2
        go_round
        case rel =>
          refine ⟨j, by omega, rfl, fun i h hi => ?_⟩
          rcases Nat.lt_or_ge j i with g | g
          · exact hz.out i h g
          · obtain rfl : i = j := by omega
            exact HV.out
        case measure => simp [lenOf]
      · have e0 : Hid (Nm.trimL xs = xs.take (j + 1)) := Nm.trimL_take hk hz.out (Nm.nrm_take_last hj hv)
        have hvi : ((xs[j] : Int) == 0) = false := by simp [hv]
        clear hv
        go_wp2
        go_ret
        exact ⟨_, rfl, by rw [e0.out]; exact HT.out (j + 1) hk, rfl⟩
end Go.Proofs.YtlmklhffafcmmaaGreat

/- The reference's sum of two lists of digits. -/
namespace Go.Proofs.YtlmklhffafcmmaaGreat
open Go.RowKit

/-- Behind k rounds: the digits so far and the carry. -/
def PInv (X Y : List Nat) (k c : Nat) (l : List Nat) : Prop :=
  l.length = k ∧ Nm.Dig D9 l ∧ c ≤ 1 ∧ Nm.val D9 l + D9 ^ k * c = Nm.val D9 (X.take k) + Nm.val D9 (Y.take k) ∧ k ≤ max X.length Y.length + 1 ∧ (k = max X.length Y.length + 1 → c = 0) ∧ (k = 0 ∨ D9 ^ (k - 1) ≤ Nm.val D9 X + Nm.val D9 Y)

theorem val_take_getD (B : Nat) (l : List Nat) (k : Nat) : Nm.val B (l.take (k + 1)) = Nm.val B (l.take k) + B ^ k * l.getD k 0 := by
  rcases Nat.lt_or_ge k l.length with h | h
  · rw [Nm.val_take_succ B l k h]; simp [h]
  · rw [List.take_of_length_le (by omega), List.take_of_length_le h]; simp [h]

theorem PInv.step {X Y l : List Nat} {k c : Nat} (h : PInv X Y k c l) (dx : Nm.Dig D9 X) (dy : Nm.Dig D9 Y) (nx : Nm.Nrm X) (ny : Nm.Nrm Y) (hc : k < X.length ∨ k < Y.length ∨ 0 < c) :
    PInv X Y (k + 1) ((c + X.getD k 0 + Y.getD k 0) / D9) (l ++ [(c + X.getD k 0 + Y.getD k 0) % D9]) := by
  obtain ⟨h1, h2, h3, h4, h5, h6, h7⟩ := h
  have hx : X.getD k 0 < D9 := by
    rcases Nat.lt_or_ge k X.length with g | g
    · simp [g]; exact Nm.dig_get dx k g
    · simp [g]; exact D90
  have hy : Y.getD k 0 < D9 := by
    rcases Nat.lt_or_ge k Y.length with g | g
    · simp [g]; exact Nm.dig_get dy k g
    · simp [g]; exact D90
  have hk : k ≤ max X.length Y.length := by
    rcases hc with g | g | g
    · omega
    · omega
    · rcases Nat.lt_or_ge (max X.length Y.length) k with q | q
      · have := h6 (by omega); omega
      · exact q
  have hpow : D9 ^ k ≤ Nm.val D9 X + Nm.val D9 Y := by
    rcases hc with g | g | g
    · have a1 := Nm.val_pos (B := D9) nx (by intro e; rw [e] at g; simp at g)
      have a2 : D9 ^ k ≤ D9 ^ (X.length - 1) := Nat.pow_le_pow_right D90 (by omega)
      omega
    · have a1 := Nm.val_pos (B := D9) ny (by intro e; rw [e] at g; simp at g)
      have a2 : D9 ^ k ≤ D9 ^ (Y.length - 1) := Nat.pow_le_pow_right D90 (by omega)
      omega
    · have b1 := Nm.val_split D9 X (min k X.length) (by omega)
      have b2 : Nm.val D9 (X.take k) ≤ Nm.val D9 X := by
        rcases Nat.lt_or_ge k X.length with q | q
        · have := Nm.val_split D9 X k (by omega); omega
        · rw [List.take_of_length_le q]; exact Nat.le_refl _
      have b3 : Nm.val D9 (Y.take k) ≤ Nm.val D9 Y := by
        rcases Nat.lt_or_ge k Y.length with q | q
        · have := Nm.val_split D9 Y k (by omega); omega
        · rw [List.take_of_length_le q]; exact Nat.le_refl _
      have b4 : D9 ^ k * 1 ≤ D9 ^ k * c := Nat.mul_le_mul_left _ g
      omega
  have hz : k = max X.length Y.length → X.getD k 0 = 0 ∧ Y.getD k 0 = 0 := fun e => by
    have g1 : X.length ≤ k := by omega
    have g2 : Y.length ≤ k := by omega
    exact ⟨by simp [g1], by simp [g2]⟩
  generalize hxx : X.getD k 0 = x at *
  generalize hyy : Y.getD k 0 = y at *
  have hd := Nat.mod_add_div (c + x + y) D9
  have hq : (c + x + y) / D9 ≤ 1 := by
    have : (c + x + y) / D9 < 2 := by rw [Nat.div_lt_iff_lt_mul D90]; omega
    omega
  refine ⟨by simp [h1], Nm.dig_append.2 ⟨h2, Nm.dig_cons.2 ⟨Nat.mod_lt _ D90, Nm.dig_nil _⟩⟩, hq, ?_, by omega, ?_, Or.inr (by simpa using hpow)⟩
  · rw [Nm.val_snoc, h1, val_take_getD, val_take_getD, Nat.pow_succ, hxx, hyy]
    have e1 : D9 ^ k * ((c + x + y) % D9 + D9 * ((c + x + y) / D9)) = D9 ^ k * (c + x + y) := by rw [hd]
    generalize (c + x + y) % D9 = r at *
    generalize (c + x + y) / D9 = q at *
    generalize D9 ^ k = P at *
    grind
  · intro e
    obtain ⟨z1, z2⟩ := hz (by omega)
    rw [z1, z2]
    exact Nat.div_eq_of_lt (by have : (2 : Nat) < D9 := by decide
                               omega)

theorem PInv.finish {X Y l : List Nat} {k : Nat} (h : PInv X Y k 0 l) (hX : X.length ≤ k) (hY : Y.length ≤ k) : l = Nm.dg D9 (Nm.val D9 X + Nm.val D9 Y) := by
  obtain ⟨h1, h2, h3, h4, h5, h6, h7⟩ := h
  rw [Nat.mul_zero, Nat.add_zero, List.take_of_length_le hX, List.take_of_length_le hY] at h4
  rw [← h4]
  refine Nm.eq_dg D92 h2 ?_
  rcases h7 with h7 | h7
  · subst h7
    rw [List.eq_nil_of_length_eq_zero h1]; trivial
  · refine Nm.nrm_of_val h2 ?_
    rw [h1, h4]; exact h7

theorem one_cell {w : World} {b : Nat} {v : Value} (h : w.cell? ⟨b, 0, none⟩ = some v) : ∀ j u, [v][j]? = some u → w.cell? (Addr.add ⟨b, 0, none⟩ j) = some u := by
  intro j u hj
  match j, hj with
  | 0, hj => simp at hj; subst hj; simpa [Addr.add] using h

theorem cast_add {c x y r q : Nat} (hr : (c + x + y) % D9 = r) (hq : (c + x + y) / D9 = q) : ((c : Int) + (x : Int) + (y : Int)) % 1000000000 = (r : Int) ∧ ((c : Int) + (x : Int) + (y : Int)) / 1000000000 = (q : Int) := by
  unfold D9 at hr hq
  subst hr hq
  exact ⟨by omega, by omega⟩
theorem num_add {c x y r q : Int} (h1 : (c + x + y) % 1000000000 = r) (h2 : (c + x + y) / 1000000000 = q) (hc : 0 ≤ c ∧ c ≤ 1) (hx : 0 ≤ x ∧ x < 1000000000) (hy : 0 ≤ y ∧ y < 1000000000) :
    0 ≤ q ∧ q ≤ 1 ∧ 0 ≤ r ∧ r < 1000000000 := by
  subst h1 h2; omega

set_option maxRecDepth 100000 in
set_option maxHeartbeats 2000000 in
theorem rplus_any (v1 v2 : Value) (m n : Nat) (w : World) (h1 : Ri w v1 (Nm.dg D9 m)) (h2 : Ri w v2 (Nm.dg D9 n)) (l1 : (Nm.dg D9 m).length ≤ 1000000) (l2 : (Nm.dg D9 n).length ≤ 1000000) :
    Calls Tryz.prog 71 #[v1, v2] w (GivesI (m + n) w) := by
  have dx := Nm.dig_dg D92 m
  have dy := Nm.dig_dg D92 n
  have nx := Nm.nrm_dg D92 m
  have ny := Nm.nrm_dg D92 n
  have HV := Lib.hid (show Nm.val D9 (Nm.dg D9 m) + Nm.val D9 (Nm.dg D9 n) = m + n by rw [Nm.val_dg D92, Nm.val_dg D92])
  rw [← HV.out]
  clear HV
  generalize Nm.dg D9 m = X at *
  generalize Nm.dg D9 n = Y at *
  obtain ⟨p1, b1, o1, c1, rfl, _, _, hp1, _, g1⟩ := h1
  obtain ⟨p2, b2, o2, c2, rfl, _, _, hp2, _, g2⟩ := h2
  have hi3 : (Tryz.prog.info? 3).map (fun i => (i.zero, i.size, i.bytes)) = some (some (.int .i64 0), 1, 8) := by kernel_rfl
  obtain ⟨i0, hi0, hz0, hz1, hz2⟩ := info_parts hi3
  have HI := Lib.hid (And.intro hi0 (And.intro hz0 (And.intro hz1 hz2)))
  have Hp1 := Lib.hid hp1
  have Hp2 := Lib.hid hp2
  have G1 := Lib.hid g1
  have G2 := Lib.hid g2
  have NN := Lib.hid (And.intro dx (And.intro dy (And.intro nx ny)))
  clear hi3 hi0 hz0 hz1 hz2 hp1 hp2 g1 g2 dx dy nx ny
  go_enter Tryz.func71, Tryz.ntmps71
  go_wp2
  go_loopw [5, 6, 7] (fun v cv i wr => ∃ (k c : Nat) (cc : Int) (l : List Nat), k ≤ 1000001 ∧ i = .int .i64 (k : Nat) ∧ cv = .int .i64 cc ∧ 0 ≤ cc ∧ cc ≤ 1 ∧ Hid (cc = (c : Int)) ∧ Hid (PInv X Y k c l) ∧ Hid (wr.ownsRow w.heap.size 3 1 v l.length (iv l)) ∧ Hid (Below w.heap.size w wr))
    (fun _ _ i _ => max X.length Y.length + 1 - (intOf i).toNat)
  case atStart =>
    exact ⟨0, 0, 0, [], by omega, rfl, rfl, by omega, by omega, rfl, ⟨rfl, Nm.dig_nil _, by omega, by simp [Nm.val], by omega, fun h => rfl, Or.inl rfl⟩, World.ownsRow_nil _ _ _ _, Below.refl _ _⟩
  case round =>
    rename_i v _ _ wr _
    obtain ⟨k, c, cc, l, hk, rfl, rfl, hc0, hc1, hcc, hinv, hown, hbl⟩ := hrel
    by_cases hx : k < X.length
    · by_cases hy : k < Y.length
      · have _ := hx
        obtain rfl := Hp1.out (by intro e; rw [e] at hx; exact absurd hx (Nat.not_lt_zero _))
        have e1 := at_old hbl.out (G1.out k hx)
        have hX : (0 : Int) ≤ (X[k] : Int) ∧ (X[k] : Int) < 1000000000 := by have h5 : X[k] < 1000000000 := Nm.dig_get NN.out.1 k hx; omega
        have hx0 : X.getD k 0 = X[k] := by simp [hx]
        obtain rfl := Hp2.out (by intro e; rw [e] at hy; exact absurd hy (Nat.not_lt_zero _))
        have e2 := at_old hbl.out (G2.out k hy)
        have hY : (0 : Int) ≤ (Y[k] : Int) ∧ (Y[k] : Int) < 1000000000 := by have h5 : Y[k] < 1000000000 := Nm.dig_get NN.out.2.1 k hy; omega
        have hy0 : Y.getD k 0 = Y[k] := by simp [hy]
        have hst := hinv.out.step NN.out.1 NN.out.2.1 NN.out.2.2.1 NN.out.2.2.2 (Or.inl hx)
        obtain ⟨r, hr⟩ : ∃ r, (c + X.getD k 0 + Y.getD k 0) % D9 = r := ⟨_, rfl⟩
        obtain ⟨q, hq⟩ : ∃ q, (c + X.getD k 0 + Y.getD k 0) / D9 = q := ⟨_, rfl⟩
        rw [hr, hq] at hst
        obtain ⟨hmod, hdiv⟩ := cast_add hr hq
        rw [hx0, hy0, ← hcc.out] at hmod hdiv
        obtain ⟨x, hxx⟩ : ∃ x : Int, (X[k] : Int) = x := ⟨_, rfl⟩
        rw [hxx] at hmod hdiv hX e1
        obtain ⟨y, hyy⟩ : ∃ y : Int, (Y[k] : Int) = y := ⟨_, rfl⟩
        rw [hyy] at hmod hdiv hY e2
        obtain ⟨rr, hrr⟩ : ∃ rr : Int, (r : Int) = rr := ⟨_, rfl⟩
        obtain ⟨qq, hqq⟩ : ∃ qq : Int, (q : Int) = qq := ⟨_, rfl⟩
        rw [hrr] at hmod
        rw [hqq] at hdiv
        have hq1 : 0 ≤ qq ∧ qq ≤ 1 := by have h5 := hst.2.2.1; omega
        obtain ⟨hq1, hq2⟩ := hq1
        obtain ⟨hX1, hX2⟩ := hX
        obtain ⟨hY1, hY2⟩ := hY
        have HS := Lib.hid hst
        have HR := Lib.hid hrr
        have HQ := Lib.hid hqq
        have hlk : Hid (l.length ≤ 1000001) := by rw [hinv.out.1]; exact hk
        have hk2 : k + 1 ≤ 1000001 := by have h5 := hst.2.2.2.2.1; have h6 := l1; have h7 := l2; omega
        have hmx : Hid (k < max X.length Y.length + 1) := by have h5 := hst.2.2.2.2.1; show _ < _; omega
        have hbase : Hid (w.heap.size ≤ wr.heap.size) := hbl.out.size
        clear hst hr hq hx0 hy0 hinv hrr hqq hxx hyy
        go_wp2_with (at_builtin; refine wpList_append_own _ rfl _ _ 36 rfl w.heap.size 3 i0 (.int .i64 0) 1 8 Tryz.underlying36 HI.out.1 HI.out.2.1 HI.out.2.2.1 HI.out.2.2.2 rfl (by decide) _ _ _ rfl (hown.out.alloc _) ⟨wr.heap.size, 0, none⟩ 1 1 [.int .i64 rr] rfl rfl ?dc1 ?dc2 ?dc3 ?dc4 ?dc5 ?_)
        case dc2 => rfl
        case dc3 => have h5 := hlk.out; unfold maxLen; omega
        case dc4 => have h5 := hlk.out; omega
        case dc5 => have h5 := hbase.out; omega
        intro v' w1 hown1 hgrow1 _
        have hbl1 : Hid (Below w.heap.size w w1) := (hbl.out.alloc hbase.out _).grown hgrow1 (by have h5 := hbase.out; simp; omega) (fun q hq => (hown.out.lt q hq).1)
        have hown2 : Hid (w1.ownsRow w.heap.size 3 1 v' (l ++ [r]).length (iv (l ++ [r]))) := by
            show World.ownsRow _ _ _ _ _ _ _
            rw [iv_snoc, List.length_append, HR.out]
            exact hown1
        clear hown1 hgrow1 hbl hown
        go_wp2
        go_roundw
        case rel => exact ⟨k + 1, q, qq, l ++ [r], hk2, by go_num, by rw [hdiv], hq1, hq2, HQ.out.symm, HS.out, hown2, hbl1⟩
        case measure => have := hmx.out; simp [intOf]; omega
      · have _ := hx
        obtain rfl := Hp1.out (by intro e; rw [e] at hx; exact absurd hx (Nat.not_lt_zero _))
        have e1 := at_old hbl.out (G1.out k hx)
        have hX : (0 : Int) ≤ (X[k] : Int) ∧ (X[k] : Int) < 1000000000 := by have h5 : X[k] < 1000000000 := Nm.dig_get NN.out.1 k hx; omega
        have hx0 : X.getD k 0 = X[k] := by simp [hx]
        have hy0 : Y.getD k 0 = 0 := by simp at hy; simp [hy]
        have hst := hinv.out.step NN.out.1 NN.out.2.1 NN.out.2.2.1 NN.out.2.2.2 (Or.inl hx)
        obtain ⟨r, hr⟩ : ∃ r, (c + X.getD k 0 + Y.getD k 0) % D9 = r := ⟨_, rfl⟩
        obtain ⟨q, hq⟩ : ∃ q, (c + X.getD k 0 + Y.getD k 0) / D9 = q := ⟨_, rfl⟩
        rw [hr, hq] at hst
        obtain ⟨hmod, hdiv⟩ := cast_add hr hq
        rw [hx0, hy0, ← hcc.out] at hmod hdiv
        obtain ⟨x, hxx⟩ : ∃ x : Int, (X[k] : Int) = x := ⟨_, rfl⟩
        rw [hxx] at hmod hdiv hX e1
        obtain ⟨rr, hrr⟩ : ∃ rr : Int, (r : Int) = rr := ⟨_, rfl⟩
        obtain ⟨qq, hqq⟩ : ∃ qq : Int, (q : Int) = qq := ⟨_, rfl⟩
        rw [hrr] at hmod
        rw [hqq] at hdiv
        have hz : (((0 : Nat) : Int)) = 0 := rfl
        rw [hz, Int.add_zero] at hmod hdiv
        have hq1 : 0 ≤ qq ∧ qq ≤ 1 := by have h5 := hst.2.2.1; omega
        obtain ⟨hq1, hq2⟩ := hq1
        obtain ⟨hX1, hX2⟩ := hX
        have HS := Lib.hid hst
        have HR := Lib.hid hrr
        have HQ := Lib.hid hqq
        have hlk : Hid (l.length ≤ 1000001) := by rw [hinv.out.1]; exact hk
        have hk2 : k + 1 ≤ 1000001 := by have h5 := hst.2.2.2.2.1; have h6 := l1; have h7 := l2; omega
        have hmx : Hid (k < max X.length Y.length + 1) := by have h5 := hst.2.2.2.2.1; show _ < _; omega
        have hbase : Hid (w.heap.size ≤ wr.heap.size) := hbl.out.size
        clear hst hr hq hx0 hy0 hinv hrr hqq hxx 
        go_wp2_with (at_builtin; refine wpList_append_own _ rfl _ _ 36 rfl w.heap.size 3 i0 (.int .i64 0) 1 8 Tryz.underlying36 HI.out.1 HI.out.2.1 HI.out.2.2.1 HI.out.2.2.2 rfl (by decide) _ _ _ rfl (hown.out.alloc _) ⟨wr.heap.size, 0, none⟩ 1 1 [.int .i64 rr] rfl rfl ?cc1 ?cc2 ?cc3 ?cc4 ?cc5 ?_)
        case cc2 => rfl
        case cc3 => have h5 := hlk.out; unfold maxLen; omega
        case cc4 => have h5 := hlk.out; omega
        case cc5 => have h5 := hbase.out; omega
        intro v' w1 hown1 hgrow1 _
        have hbl1 : Hid (Below w.heap.size w w1) := (hbl.out.alloc hbase.out _).grown hgrow1 (by have h5 := hbase.out; simp; omega) (fun q hq => (hown.out.lt q hq).1)
        have hown2 : Hid (w1.ownsRow w.heap.size 3 1 v' (l ++ [r]).length (iv (l ++ [r]))) := by
            show World.ownsRow _ _ _ _ _ _ _
            rw [iv_snoc, List.length_append, HR.out]
            exact hown1
        clear hown1 hgrow1 hbl hown
        go_wp2
        go_roundw
        case rel => exact ⟨k + 1, q, qq, l ++ [r], hk2, by go_num, by rw [hdiv], hq1, hq2, HQ.out.symm, HS.out, hown2, hbl1⟩
        case measure => have := hmx.out; simp [intOf]; omega
    · by_cases hy : k < Y.length
      · have _ := hy
        have hx0 : X.getD k 0 = 0 := by simp at hx; simp [hx]
        obtain rfl := Hp2.out (by intro e; rw [e] at hy; exact absurd hy (Nat.not_lt_zero _))
        have e2 := at_old hbl.out (G2.out k hy)
        have hY : (0 : Int) ≤ (Y[k] : Int) ∧ (Y[k] : Int) < 1000000000 := by have h5 : Y[k] < 1000000000 := Nm.dig_get NN.out.2.1 k hy; omega
        have hy0 : Y.getD k 0 = Y[k] := by simp [hy]
        have hst := hinv.out.step NN.out.1 NN.out.2.1 NN.out.2.2.1 NN.out.2.2.2 (Or.inr (Or.inl hy))
        obtain ⟨r, hr⟩ : ∃ r, (c + X.getD k 0 + Y.getD k 0) % D9 = r := ⟨_, rfl⟩
        obtain ⟨q, hq⟩ : ∃ q, (c + X.getD k 0 + Y.getD k 0) / D9 = q := ⟨_, rfl⟩
        rw [hr, hq] at hst
        obtain ⟨hmod, hdiv⟩ := cast_add hr hq
        rw [hx0, hy0, ← hcc.out] at hmod hdiv
        obtain ⟨y, hyy⟩ : ∃ y : Int, (Y[k] : Int) = y := ⟨_, rfl⟩
        rw [hyy] at hmod hdiv hY e2
        obtain ⟨rr, hrr⟩ : ∃ rr : Int, (r : Int) = rr := ⟨_, rfl⟩
        obtain ⟨qq, hqq⟩ : ∃ qq : Int, (q : Int) = qq := ⟨_, rfl⟩
        rw [hrr] at hmod
        rw [hqq] at hdiv
        have hz : (((0 : Nat) : Int)) = 0 := rfl
        rw [hz, Int.add_zero] at hmod hdiv
        have hq1 : 0 ≤ qq ∧ qq ≤ 1 := by have h5 := hst.2.2.1; omega
        obtain ⟨hq1, hq2⟩ := hq1
        obtain ⟨hY1, hY2⟩ := hY
        have HS := Lib.hid hst
        have HR := Lib.hid hrr
        have HQ := Lib.hid hqq
        have hlk : Hid (l.length ≤ 1000001) := by rw [hinv.out.1]; exact hk
        have hk2 : k + 1 ≤ 1000001 := by have h5 := hst.2.2.2.2.1; have h6 := l1; have h7 := l2; omega
        have hmx : Hid (k < max X.length Y.length + 1) := by have h5 := hst.2.2.2.2.1; show _ < _; omega
        have hbase : Hid (w.heap.size ≤ wr.heap.size) := hbl.out.size
        clear hst hr hq hx0 hy0 hinv hrr hqq hz hyy
        go_wp2_with (at_builtin; refine wpList_append_own _ rfl _ _ 36 rfl w.heap.size 3 i0 (.int .i64 0) 1 8 Tryz.underlying36 HI.out.1 HI.out.2.1 HI.out.2.2.1 HI.out.2.2.2 rfl (by decide) _ _ _ rfl (hown.out.alloc _) ⟨wr.heap.size, 0, none⟩ 1 1 [.int .i64 rr] rfl rfl ?bc1 ?bc2 ?bc3 ?bc4 ?bc5 ?_)
        case bc2 => rfl
        case bc3 => have h5 := hlk.out; unfold maxLen; omega
        case bc4 => have h5 := hlk.out; omega
        case bc5 => have h5 := hbase.out; omega
        intro v' w1 hown1 hgrow1 _
        have hbl1 : Hid (Below w.heap.size w w1) := (hbl.out.alloc hbase.out _).grown hgrow1 (by have h5 := hbase.out; simp; omega) (fun q hq => (hown.out.lt q hq).1)
        have hown2 : Hid (w1.ownsRow w.heap.size 3 1 v' (l ++ [r]).length (iv (l ++ [r]))) := by
            show World.ownsRow _ _ _ _ _ _ _
            rw [iv_snoc, List.length_append, HR.out]
            exact hown1
        clear hown1 hgrow1 hbl hown
        go_wp2
        go_roundw
        case rel => exact ⟨k + 1, q, qq, l ++ [r], hk2, by go_num, by rw [hdiv], hq1, hq2, HQ.out.symm, HS.out, hown2, hbl1⟩
        case measure => have := hmx.out; simp [intOf]; omega
      · rcases Nat.eq_zero_or_pos c with hcp | hcp
        · have hcz : cc = 0 := by rw [hcc.out, hcp]; rfl
          subst hcz
          subst hcp
          have HE : Hid (l = Nm.dg D9 (Nm.val D9 X + Nm.val D9 Y)) := hinv.out.finish (by omega) (by omega)
          clear hinv
          go_wp2
          go_ret
          exact ⟨_, rfl, by rw [← HE.out]; exact Ri.of_own hown.out, hbl.out⟩
        · have _ := hcp
          have hx0 : X.getD k 0 = 0 := by simp at hx; simp [hx]
          have hy0 : Y.getD k 0 = 0 := by simp at hy; simp [hy]
          have hst := hinv.out.step NN.out.1 NN.out.2.1 NN.out.2.2.1 NN.out.2.2.2 (Or.inr (Or.inr hcp))
          obtain ⟨r, hr⟩ : ∃ r, (c + X.getD k 0 + Y.getD k 0) % D9 = r := ⟨_, rfl⟩
          obtain ⟨q, hq⟩ : ∃ q, (c + X.getD k 0 + Y.getD k 0) / D9 = q := ⟨_, rfl⟩
          rw [hr, hq] at hst
          obtain ⟨hmod, hdiv⟩ := cast_add hr hq
          rw [hx0, hy0, ← hcc.out] at hmod hdiv
          obtain ⟨rr, hrr⟩ : ∃ rr : Int, (r : Int) = rr := ⟨_, rfl⟩
          obtain ⟨qq, hqq⟩ : ∃ qq : Int, (q : Int) = qq := ⟨_, rfl⟩
          rw [hrr] at hmod
          rw [hqq] at hdiv
          have hz : (((0 : Nat) : Int)) = 0 := rfl
          rw [hz, Int.add_zero, Int.add_zero] at hmod hdiv
          have hq1 : 0 ≤ qq ∧ qq ≤ 1 := by have h5 := hst.2.2.1; omega
          obtain ⟨hq1, hq2⟩ := hq1
          have hcp1 : 0 < cc := by rw [hcc.out]; omega
          have HS := Lib.hid hst
          have HR := Lib.hid hrr
          have HQ := Lib.hid hqq
          have hlk : Hid (l.length ≤ 1000001) := by rw [hinv.out.1]; exact hk
          have hk2 : k + 1 ≤ 1000001 := by have h5 := hst.2.2.2.2.1; have h6 := l1; have h7 := l2; omega
          have hmx : Hid (k < max X.length Y.length + 1) := by have h5 := hst.2.2.2.2.1; show _ < _; omega
          have hbase : Hid (w.heap.size ≤ wr.heap.size) := hbl.out.size
          clear hst hr hq hx0 hy0 hinv hrr hqq hz 
          go_wp2_with (at_builtin; refine wpList_append_own _ rfl _ _ 36 rfl w.heap.size 3 i0 (.int .i64 0) 1 8 Tryz.underlying36 HI.out.1 HI.out.2.1 HI.out.2.2.1 HI.out.2.2.2 rfl (by decide) _ _ _ rfl (hown.out.alloc _) ⟨wr.heap.size, 0, none⟩ 1 1 [.int .i64 rr] rfl rfl ?ac1 ?ac2 ?ac3 ?ac4 ?ac5 ?_)
          case ac1 =>
              intro j u hj
              match j, hj with
              | 0, hj => simp at hj; subst hj; simp [Addr.add]
          case ac2 => intro u hu; simp at hu; subst hu; rfl
          case ac3 => have h5 := hlk.out; unfold maxLen; omega
          case ac4 => have h5 := hlk.out; omega
          case ac5 => have h5 := hbase.out; simp; omega
          intro v' w1 hown1 hgrow1 _
          have hbl1 : Hid (Below w.heap.size w w1) := (hbl.out.alloc hbase.out _).grown hgrow1 (by have h5 := hbase.out; simp; omega) (fun q hq => (hown.out.lt q hq).1)
          have hown2 : Hid (w1.ownsRow w.heap.size 3 1 v' (l ++ [r]).length (iv (l ++ [r]))) := by
              show World.ownsRow _ _ _ _ _ _ _
              rw [iv_snoc, List.length_append, HR.out]
              exact hown1
          clear hown1 hgrow1 hbl hown
          go_wp2
          go_roundw
          case rel => exact ⟨k + 1, q, qq, l ++ [r], hk2, by go_num, by rw [hdiv], hq1, hq2, HQ.out.symm, HS.out, hown2, hbl1⟩
          case measure => have := hmx.out; simp [intOf]; omega
end Go.Proofs.YtlmklhffafcmmaaGreat

/- The reference's comparison of two lists of digits. -/
namespace Go.Proofs.YtlmklhffafcmmaaGreat
open Go.RowKit

theorem cmp9_at {X Y : List Nat} (d1 : Nm.Dig D9 X) (d2 : Nm.Dig D9 Y) (hl : X.length = Y.length) (i : Nat) (hi : i < X.length) (hj : i < Y.length) (he : X.drop (i + 1) = Y.drop (i + 1)) (h : X[i] ≠ Y[i]) : cmpN X[i] Y[i] = cmpN (Nm.val D9 X) (Nm.val D9 Y) := by
  rcases Nat.lt_or_gt_of_ne h with h | h
  · rw [cmpN_lt h, cmpN_lt (Nm.val_lt_of_at d1 hl i hi he h)]
  · rw [cmpN_gt h, cmpN_gt (Nm.val_lt_of_at d2 hl.symm i hj he.symm h)]

set_option maxRecDepth 100000 in
set_option maxHeartbeats 1000000 in
theorem rorder_any (v1 v2 : Value) (m n : Nat) (w : World) (h1 : Ri w v1 (Nm.dg D9 m)) (h2 : Ri w v2 (Nm.dg D9 n)) (l1 : (Nm.dg D9 m).length ≤ 1000000) (l2 : (Nm.dg D9 n).length ≤ 1000000) :
    Calls Tryz.prog 130 #[v1, v2] w (CmpPost (cmpN m n) w) := by
  have d1 := Nm.dig_dg D92 m
  have d2 := Nm.dig_dg D92 n
  have n1 := Nm.nrm_dg D92 m
  have n2 := Nm.nrm_dg D92 n
  rw [show cmpN m n = cmpN (Nm.val D9 (Nm.dg D9 m)) (Nm.val D9 (Nm.dg D9 n)) by rw [Nm.val_dg D92, Nm.val_dg D92]]
  generalize Nm.dg D9 m = X at *
  generalize Nm.dg D9 n = Y at *
  obtain ⟨p1, b1, o1, c1, rfl, _, _, hp1, _, h1⟩ := h1
  obtain ⟨p2, b2, o2, c2, rfl, _, _, hp2, _, h2⟩ := h2
  have Hp1 := Lib.hid hp1
  have Hp2 := Lib.hid hp2
  have H1 := Lib.hid h1
  have H2 := Lib.hid h2
  have NN := Lib.hid (And.intro d1 d2)
  clear hp1 hp2 h1 h2
  rcases Nat.lt_trichotomy X.length Y.length with hl | hl | hl
  · have E := Lib.hid (cmpN_lt (Nm.val_lt_of_len D90 d1 n2 hl))
    have hb : (((X.length : Int)) != (Y.length : Int)) = true := by simp; omega
    clear NN d1 d2 n1 n2
    go_enter Tryz.func130, Tryz.ntmps130
    go_wp2
    go_ret
    exact ⟨by rw [E.out]; rfl, 0, rfl⟩
  · have Hl := Lib.hid hl
    have hb : (((X.length : Int)) != (Y.length : Int)) = false := by simp [hl]
    have hle : Y.length ≤ X.length := by omega
    have hge : X.length ≤ Y.length := by omega
    clear hl d1 d2 n1 n2
    go_enter Tryz.func130, Tryz.ntmps130
    go_wp2
    clear hb
    go_loopw [5] (fun i wr => ∃ k n : Nat, k ≤ X.length ∧ i = .int .i64 ((k : Int) - 1) ∧ Hid (X.drop k = Y.drop k) ∧ wr = w.drewN n) (fun i _ => (intOf i + 1).toNat)
    case atStart => exact ⟨X.length, 0, Nat.le_refl _, rfl, by show _ = _; rw [List.drop_of_length_le (Nat.le_refl _), List.drop_of_length_le hle], rfl⟩
    case round =>
      obtain ⟨k, n, hk, rfl, Hd, rfl⟩ := hrel
      rcases Nat.eq_zero_or_pos k with h0 | h0
      · subst h0
        go_wp2
        go_ret
        refine ⟨?_, n, rfl⟩
        have := Hd.out
        simp only [List.drop_zero] at this
        rw [this, cmpN_eq]; rfl
      · obtain ⟨j, rfl⟩ : ∃ j, k = j + 1 := ⟨k - 1, by omega⟩
        have hx : j < X.length := by omega
        have hy : j < Y.length := by omega
        obtain rfl := Hp1.out (by intro e; rw [e] at hx; exact absurd hx (Nat.not_lt_zero _))
        obtain rfl := Hp2.out (by intro e; rw [e] at hy; exact absurd hy (Nat.not_lt_zero _))
        have e1 := H1.out j hx
        have e2 := H2.out j hy
        rw [show ((j + 1 : Nat) : Int) - 1 = (j : Int) by omega]
        rcases Nat.lt_trichotomy X[j] Y[j] with hv | hv | hv
        · have E := Lib.hid (cmp9_at NN.out.1 NN.out.2 Hl.out j hx hy Hd.out (Nat.ne_of_lt hv))
          have E2 := Lib.hid (cmpN_lt hv)
          have hvi : (X[j] : Int) < (Y[j] : Int) := by omega
          clear hv
          go_wp2_with fail
          go_quiet (fail)
          go_wp2
          go_ret
          exact ⟨by rw [← E.out, E2.out]; rfl, _, World.drewN_drewN _ _ _⟩
        · have Hv := Lib.hid hv
          rw [hv] at e1
          clear hv
          go_wp2_with fail
          go_quiet (fail)
          go_wp2_with fail
          go_quiet (fail)
          go_wp2
          go_roundw
          case rel => exact ⟨j, _, by omega, by go_num, by show _ = _; rw [List.drop_eq_getElem_cons hx, List.drop_eq_getElem_cons hy, Hv.out, Hd.out], rfl⟩
          case measure => simp [intOf]
        · have E := Lib.hid (cmp9_at NN.out.1 NN.out.2 Hl.out j hx hy Hd.out (Nat.ne_of_gt hv))
          have E2 := Lib.hid (cmpN_gt hv)
          have hvi : (Y[j] : Int) < (X[j] : Int) := by omega
          clear hv
          go_wp2_with fail
          go_quiet (fail)
          go_wp2_with fail
          go_quiet (fail)
          go_wp2
          go_ret
          exact ⟨by rw [← E.out, E2.out]; rfl, _, (by rw [World.drewN_drewN, World.drewN_drewN])⟩
  · have E := Lib.hid (cmpN_gt (Nm.val_lt_of_len D90 d2 n1 hl))
    have hb : (((X.length : Int)) != (Y.length : Int)) = true := by simp; omega
    have hge : ¬ ((X.length : Int) < (Y.length : Int)) := by omega
    clear NN d1 d2 n1 n2
    go_enter Tryz.func130, Tryz.ntmps130
    go_wp2
    go_ret
    exact ⟨by rw [E.out]; rfl, 0, rfl⟩
end Go.Proofs.YtlmklhffafcmmaaGreat

/- The reference's difference of two lists of digits, the first one of which is not less. -/
namespace Go.Proofs.YtlmklhffafcmmaaGreat
open Go.RowKit

/-- Behind k rounds: the digits so far and the borrow. -/
def MInv (X Y : List Nat) (k c : Nat) (l : List Nat) : Prop :=
  l.length = k ∧ Nm.Dig D9 l ∧ c ≤ 1 ∧ Nm.val D9 l + Nm.val D9 (Y.take k) = Nm.val D9 (X.take k) + D9 ^ k * c

theorem MInv.step {X Y l : List Nat} {k c x y r q : Nat} (h : MInv X Y k c l) (hX : X.getD k 0 = x) (hY : Y.getD k 0 = y) (hr : r < D9) (hq : q ≤ 1) (he : r + y + c = x + D9 * q) :
    MInv X Y (k + 1) q (l ++ [r]) := by
  obtain ⟨h1, h2, h3, h4⟩ := h
  refine ⟨by simp [h1], Nm.dig_append.2 ⟨h2, Nm.dig_cons.2 ⟨hr, Nm.dig_nil _⟩⟩, hq, ?_⟩
  rw [Nm.val_snoc, h1, val_take_getD, val_take_getD, Nat.pow_succ, hX, hY]
  have e1 : D9 ^ k * (r + y + c) = D9 ^ k * (x + D9 * q) := by rw [he]
  generalize D9 ^ k = P at *
  grind

theorem MInv.finish {X Y l : List Nat} {c : Nat} (h : MInv X Y X.length c l) (hY : Y.length ≤ X.length) (hle : Nm.val D9 Y ≤ Nm.val D9 X) : Nm.trimL l = Nm.dg D9 (Nm.val D9 X - Nm.val D9 Y) := by
  obtain ⟨h1, h2, h3, h4⟩ := h
  rw [List.take_length, List.take_of_length_le hY] at h4
  have hlt := Nm.val_lt h2
  rw [h1] at hlt
  rw [Nm.trimL_dg D92 h2]
  have : c = 0 := by
    rcases Nat.eq_zero_or_pos c with h0 | h0
    · exact h0
    · have : D9 ^ X.length * 1 ≤ D9 ^ X.length * c := Nat.mul_le_mul_left _ h0
      omega
  subst this
  congr 1
  omega

theorem minus_digit {x y c : Nat} {xx yy cc : Int} (hx : (x : Int) = xx) (hy : (y : Int) = yy) (hc : cc = (c : Int)) (bx : xx < 1000000000) (by0 : yy < 1000000000) (bc : cc ≤ 1) :
    (xx - cc - yy < 0 → ∃ r : Nat, (r : Int) = xx - cc - yy + 1000000000 ∧ r < D9 ∧ r + y + c = x + D9 * 1) ∧ (¬ xx - cc - yy < 0 → ∃ r : Nat, (r : Int) = xx - cc - yy ∧ r < D9 ∧ r + y + c = x + D9 * 0) := by
  unfold D9
  subst hx hy hc
  refine ⟨fun h => ⟨((x : Int) - c - y + 1000000000).toNat, by omega, by omega, by omega⟩, fun h => ⟨((x : Int) - c - y).toNat, by omega, by omega, by omega⟩⟩
theorem minus_digit0 {x c : Nat} {xx cc : Int} (hx : (x : Int) = xx) (hc : cc = (c : Int)) (bx : xx < 1000000000) (bc : cc ≤ 1) :
    (xx - cc < 0 → ∃ r : Nat, (r : Int) = xx - cc + 1000000000 ∧ r < D9 ∧ r + 0 + c = x + D9 * 1) ∧ (¬ xx - cc < 0 → ∃ r : Nat, (r : Int) = xx - cc ∧ r < D9 ∧ r + 0 + c = x + D9 * 0) := by
  unfold D9
  subst hx hc
  refine ⟨fun h => ⟨((x : Int) - c + 1000000000).toNat, by omega, by omega, by omega⟩, fun h => ⟨((x : Int) - c).toNat, by omega, by omega, by omega⟩⟩

set_option maxRecDepth 100000 in
set_option maxHeartbeats 2000000 in
theorem rminus_any (v1 v2 : Value) (m n : Nat) (w : World) (hmn : n ≤ m) (h1 : Ri w v1 (Nm.dg D9 m)) (h2 : Ri w v2 (Nm.dg D9 n)) (l1 : (Nm.dg D9 m).length ≤ 1000000) (l2 : (Nm.dg D9 n).length ≤ 1000000) :
    Calls Tryz.prog 131 #[v1, v2] w (GivesI (m - n) w) := by
  have dx := Nm.dig_dg D92 m
  have dy := Nm.dig_dg D92 n
  have ny := Nm.nrm_dg D92 n
  have e1 := Nm.val_dg D92 m
  have e2 := Nm.val_dg D92 n
  have HV := Lib.hid (show Nm.val D9 (Nm.dg D9 m) - Nm.val D9 (Nm.dg D9 n) = m - n by rw [e1, e2])
  have HL := Lib.hid (show Nm.val D9 (Nm.dg D9 n) ≤ Nm.val D9 (Nm.dg D9 m) by rw [e1, e2]; exact hmn)
  rw [← HV.out]
  clear HV e1 e2
  generalize Nm.dg D9 m = X at *
  generalize Nm.dg D9 n = Y at *
  have HLL : Hid (Y.length ≤ X.length) := by
    rcases Nat.lt_or_ge X.length Y.length with g | g
    · have g1 := Nm.val_lt_of_len D90 dx ny g
      have g2 := HL.out
      omega
    · exact g
  obtain ⟨p1, b1, o1, c1, rfl, _, _, hp1, _, g1⟩ := h1
  obtain ⟨p2, b2, o2, c2, rfl, _, _, hp2, _, g2⟩ := h2
  have hi3 : (Tryz.prog.info? 3).map (fun i => (i.zero, i.size, i.bytes)) = some (some (.int .i64 0), 1, 8) := by kernel_rfl
  obtain ⟨i0, hi0, hz0, hz1, hz2⟩ := info_parts hi3
  have HI := Lib.hid (And.intro hi0 (And.intro hz0 (And.intro hz1 hz2)))
  have Hp1 := Lib.hid hp1
  have Hp2 := Lib.hid hp2
  have G1 := Lib.hid g1
  have G2 := Lib.hid g2
  have NN := Lib.hid (And.intro dx dy)
  have HT := Lib.hid (fun v xs w h => rtrim_any v xs w h)
  clear hi3 hi0 hz0 hz1 hz2 hp1 hp2 g1 g2 dx dy ny hmn
  go_enter Tryz.func131, Tryz.ntmps131
  go_wp2
  go_loopw [5, 6, 7] (fun v cv i wr => ∃ (k c : Nat) (cc : Int) (l : List Nat), k ≤ X.length ∧ i = .int .i64 (k : Nat) ∧ cv = .int .i64 cc ∧ 0 ≤ cc ∧ cc ≤ 1 ∧ Hid (cc = (c : Int)) ∧ Hid (MInv X Y k c l) ∧ Hid (wr.ownsRow w.heap.size 3 1 v l.length (iv l)) ∧ Hid (Below w.heap.size w wr))
    (fun _ _ i _ => X.length - (intOf i).toNat)
  case atStart =>
    exact ⟨0, 0, 0, [], by omega, rfl, rfl, by omega, by omega, rfl, ⟨rfl, Nm.dig_nil _, by omega, by simp [Nm.val]⟩, World.ownsRow_nil _ _ _ _, Below.refl _ _⟩
  case round =>
    rename_i wr _
    obtain ⟨k, c, cc, l, hk, rfl, rfl, hc0, hc1, hcc, hinv, hown, hbl⟩ := hrel
    by_cases hx : k < X.length
    · by_cases hy : k < Y.length
      · have _ := hx
        obtain rfl := Hp1.out (by intro e; rw [e] at hx; exact absurd hx (Nat.not_lt_zero _))
        have e1 := at_old hbl.out (G1.out k hx)
        have hX : (0 : Int) ≤ (X[k] : Int) ∧ (X[k] : Int) < 1000000000 := by have h5 : X[k] < 1000000000 := Nm.dig_get NN.out.1 k hx; omega
        have hx0 : X.getD k 0 = X[k] := by simp [hx]
        obtain ⟨x, hxx⟩ : ∃ x : Int, (X[k] : Int) = x := ⟨_, rfl⟩
        rw [hxx] at hX e1
        obtain ⟨hX1, hX2⟩ := hX
        obtain rfl := Hp2.out (by intro e; rw [e] at hy; exact absurd hy (Nat.not_lt_zero _))
        have e2 := at_old hbl.out (G2.out k hy)
        have hY : (0 : Int) ≤ (Y[k] : Int) ∧ (Y[k] : Int) < 1000000000 := by have h5 : Y[k] < 1000000000 := Nm.dig_get NN.out.2 k hy; omega
        have hy0 : Y.getD k 0 = Y[k] := by simp [hy]
        obtain ⟨y, hyy⟩ : ∃ y : Int, (Y[k] : Int) = y := ⟨_, rfl⟩
        rw [hyy] at hY e2
        obtain ⟨hY1, hY2⟩ := hY
        have hd := minus_digit hxx hyy hcc.out hX2 hY2 hc1
        by_cases hn : x - cc - y < 0
        · have _ := hn
          obtain ⟨r, hr0, hr1, hr2⟩ := hd.1 hn
          have hst := hinv.out.step hx0 hy0 hr1 (Nat.le_refl 1) hr2
          have HS := Lib.hid hst
          have HR := Lib.hid hr0
          have hlk : Hid (l.length ≤ 1000000) := by rw [hinv.out.1]; show _ ≤ _; omega
          have hk2 : k + 1 ≤ X.length := hx
          have hbase : Hid (w.heap.size ≤ wr.heap.size) := hbl.out.size
          clear hst hr0 hr1 hr2 hd hinv hx0 hy0 hxx hyy
          go_wp2_with (at_builtin; refine wpList_append_own _ rfl _ _ 36 rfl w.heap.size 3 i0 (.int .i64 0) 1 8 Tryz.underlying36 HI.out.1 HI.out.2.1 HI.out.2.2.1 HI.out.2.2.2 rfl (by decide) _ _ _ rfl (hown.out.alloc _) ⟨wr.heap.size, 0, none⟩ 1 1 [.int .i64 (x - cc - y + 1000000000)] rfl rfl ?dc1 ?dc2 ?dc3 ?dc4 ?dc5 ?_)
          case dc2 => rfl
          case dc3 => have h5 := hlk.out; unfold maxLen; omega
          case dc4 => have h5 := hlk.out; omega
          case dc5 => have h5 := hbase.out; omega
          intro v' w1 hown1 hgrow1 _
          have hbl1 : Hid (Below w.heap.size w w1) := (hbl.out.alloc hbase.out _).grown hgrow1 (by have h5 := hbase.out; simp; omega) (fun q hq => (hown.out.lt q hq).1)
          have hown2 : Hid (w1.ownsRow w.heap.size 3 1 v' (l ++ [r]).length (iv (l ++ [r]))) := by
              show World.ownsRow _ _ _ _ _ _ _
              rw [iv_snoc, List.length_append, HR.out]
              exact hown1
          clear hown1 hgrow1 hbl hown
          go_wp2
          go_roundw
          case rel => exact ⟨k + 1, 1, 1, l ++ [r], hk2, by go_num, rfl, by omega, by omega, rfl, HS.out, hown2, hbl1⟩
          case measure => simp [intOf]; omega
        · have _ := hn
          obtain ⟨r, hr0, hr1, hr2⟩ := hd.2 hn
          have hst := hinv.out.step hx0 hy0 hr1 (Nat.zero_le 1) hr2
          have HS := Lib.hid hst
          have HR := Lib.hid hr0
          have hlk : Hid (l.length ≤ 1000000) := by rw [hinv.out.1]; show _ ≤ _; omega
          have hk2 : k + 1 ≤ X.length := hx
          have hbase : Hid (w.heap.size ≤ wr.heap.size) := hbl.out.size
          clear hst hr0 hr1 hr2 hd hinv hx0 hy0 hxx hyy
          go_wp2_with (at_builtin; refine wpList_append_own _ rfl _ _ 36 rfl w.heap.size 3 i0 (.int .i64 0) 1 8 Tryz.underlying36 HI.out.1 HI.out.2.1 HI.out.2.2.1 HI.out.2.2.2 rfl (by decide) _ _ _ rfl (hown.out.alloc _) ⟨wr.heap.size, 0, none⟩ 1 1 [.int .i64 (x - cc - y)] rfl rfl ?cc1 ?cc2 ?cc3 ?cc4 ?cc5 ?_)
          case cc2 => rfl
          case cc3 => have h5 := hlk.out; unfold maxLen; omega
          case cc4 => have h5 := hlk.out; omega
          case cc5 => have h5 := hbase.out; omega
          intro v' w1 hown1 hgrow1 _
          have hbl1 : Hid (Below w.heap.size w w1) := (hbl.out.alloc hbase.out _).grown hgrow1 (by have h5 := hbase.out; simp; omega) (fun q hq => (hown.out.lt q hq).1)
          have hown2 : Hid (w1.ownsRow w.heap.size 3 1 v' (l ++ [r]).length (iv (l ++ [r]))) := by
              show World.ownsRow _ _ _ _ _ _ _
              rw [iv_snoc, List.length_append, HR.out]
              exact hown1
          clear hown1 hgrow1 hbl hown
          go_wp2
          go_roundw
          case rel => exact ⟨k + 1, 0, 0, l ++ [r], hk2, by go_num, rfl, by omega, by omega, rfl, HS.out, hown2, hbl1⟩
          case measure => simp [intOf]; omega
      · have _ := hx
        obtain rfl := Hp1.out (by intro e; rw [e] at hx; exact absurd hx (Nat.not_lt_zero _))
        have e1 := at_old hbl.out (G1.out k hx)
        have hX : (0 : Int) ≤ (X[k] : Int) ∧ (X[k] : Int) < 1000000000 := by have h5 : X[k] < 1000000000 := Nm.dig_get NN.out.1 k hx; omega
        have hx0 : X.getD k 0 = X[k] := by simp [hx]
        obtain ⟨x, hxx⟩ : ∃ x : Int, (X[k] : Int) = x := ⟨_, rfl⟩
        rw [hxx] at hX e1
        obtain ⟨hX1, hX2⟩ := hX
        have hy0 : Y.getD k 0 = 0 := by simp at hy; simp [hy]
        have hd := minus_digit0 hxx hcc.out hX2 hc1
        by_cases hn : x - cc < 0
        · have _ := hn
          obtain ⟨r, hr0, hr1, hr2⟩ := hd.1 hn
          have hst := hinv.out.step hx0 hy0 hr1 (Nat.le_refl 1) hr2
          have HS := Lib.hid hst
          have HR := Lib.hid hr0
          have hlk : Hid (l.length ≤ 1000000) := by rw [hinv.out.1]; show _ ≤ _; omega
          have hk2 : k + 1 ≤ X.length := hx
          have hbase : Hid (w.heap.size ≤ wr.heap.size) := hbl.out.size
          clear hst hr0 hr1 hr2 hd hinv hx0 hy0 hxx
          go_wp2_with (at_builtin; refine wpList_append_own _ rfl _ _ 36 rfl w.heap.size 3 i0 (.int .i64 0) 1 8 Tryz.underlying36 HI.out.1 HI.out.2.1 HI.out.2.2.1 HI.out.2.2.2 rfl (by decide) _ _ _ rfl (hown.out.alloc _) ⟨wr.heap.size, 0, none⟩ 1 1 [.int .i64 (x - cc + 1000000000)] rfl rfl ?bc1 ?bc2 ?bc3 ?bc4 ?bc5 ?_)
          case bc2 => rfl
          case bc3 => have h5 := hlk.out; unfold maxLen; omega
          case bc4 => have h5 := hlk.out; omega
          case bc5 => have h5 := hbase.out; omega
          intro v' w1 hown1 hgrow1 _
          have hbl1 : Hid (Below w.heap.size w w1) := (hbl.out.alloc hbase.out _).grown hgrow1 (by have h5 := hbase.out; simp; omega) (fun q hq => (hown.out.lt q hq).1)
          have hown2 : Hid (w1.ownsRow w.heap.size 3 1 v' (l ++ [r]).length (iv (l ++ [r]))) := by
              show World.ownsRow _ _ _ _ _ _ _
              rw [iv_snoc, List.length_append, HR.out]
              exact hown1
          clear hown1 hgrow1 hbl hown
          go_wp2
          go_roundw
          case rel => exact ⟨k + 1, 1, 1, l ++ [r], hk2, by go_num, rfl, by omega, by omega, rfl, HS.out, hown2, hbl1⟩
          case measure => simp [intOf]; omega
        · have _ := hn
          obtain ⟨r, hr0, hr1, hr2⟩ := hd.2 hn
          have hst := hinv.out.step hx0 hy0 hr1 (Nat.zero_le 1) hr2
          have HS := Lib.hid hst
          have HR := Lib.hid hr0
          have hlk : Hid (l.length ≤ 1000000) := by rw [hinv.out.1]; show _ ≤ _; omega
          have hk2 : k + 1 ≤ X.length := hx
          have hbase : Hid (w.heap.size ≤ wr.heap.size) := hbl.out.size
          clear hst hr0 hr1 hr2 hd hinv hx0 hy0 hxx
          go_wp2_with (at_builtin; refine wpList_append_own _ rfl _ _ 36 rfl w.heap.size 3 i0 (.int .i64 0) 1 8 Tryz.underlying36 HI.out.1 HI.out.2.1 HI.out.2.2.1 HI.out.2.2.2 rfl (by decide) _ _ _ rfl (hown.out.alloc _) ⟨wr.heap.size, 0, none⟩ 1 1 [.int .i64 (x - cc)] rfl rfl ?ac1 ?ac2 ?ac3 ?ac4 ?ac5 ?_)
          case ac2 => rfl
          case ac3 => have h5 := hlk.out; unfold maxLen; omega
          case ac4 => have h5 := hlk.out; omega
          case ac5 => have h5 := hbase.out; omega
          intro v' w1 hown1 hgrow1 _
          have hbl1 : Hid (Below w.heap.size w w1) := (hbl.out.alloc hbase.out _).grown hgrow1 (by have h5 := hbase.out; simp; omega) (fun q hq => (hown.out.lt q hq).1)
          have hown2 : Hid (w1.ownsRow w.heap.size 3 1 v' (l ++ [r]).length (iv (l ++ [r]))) := by
              show World.ownsRow _ _ _ _ _ _ _
              rw [iv_snoc, List.length_append, HR.out]
              exact hown1
          clear hown1 hgrow1 hbl hown
          go_wp2
          go_roundw
          case rel => exact ⟨k + 1, 0, 0, l ++ [r], hk2, by go_num, rfl, by omega, by omega, rfl, HS.out, hown2, hbl1⟩
          case measure => simp [intOf]; omega
    · obtain rfl : k = X.length := by omega
      have HE : Hid (Nm.trimL l = Nm.dg D9 (Nm.val D9 X - Nm.val D9 Y)) := hinv.out.finish HLL.out HL.out
      have HO := Lib.hid (Ri.of_own hown.out)
      clear hinv
      go_wp2_with (go_at_call 69; (with_reducible refine (HT.out _ _ _ HO.out).mono ?_); rintro e w5 ⟨v5, rfl, h5, rfl⟩)
      go_ret
      exact ⟨_, rfl, by rw [← HE.out]; exact h5, hbl.out⟩
end Go.Proofs.YtlmklhffafcmmaaGreat
