/- What the theorem leans on, part 0: Lim1, Lim2, Lim3, SInts, Lim4, Lim5. -/
import Derived.Test.YtlmklhffafcmmaaT5
import Derived.Test.YtlmklhffafcmmaaT10
import Derived.Test.YtlmklhffafcmmaaT13
import Derived.Test.YtlmklhffafcmmaaT12
import Derived.Test.YtlmklhffafcmmaaRows
import Derived.Test.YtlmklhffafcmmaaT9
import Derived.ProofKit
import Derived.OpenShut
import Derived.ShutString
import Derived.ChangeOld
import Derived.Below
import Derived.Lib.SmallJoins

/- wide.MulRatio where the numerator is too large. -/
namespace Go.Proofs.Ytlmklhffafcmmaa
open Go.RowKit

set_option maxRecDepth 100000 in
set_option maxHeartbeats 2000000 in
theorem lowest_full (a b : Bool) (v1 v2 : Value) (m n g A B : Nat) (w : World) (hg : GcdOK m n) (e0 : Nat.gcd m n = g) (d1 : DivOK m g) (d2 : DivOK n g) (e1 : m / g = A) (e2 : n / g = B)
    (h1 : Rd w v1 (Nm.dg W m)) (h2 : Rd w v2 (Nm.dg W n)) (l1 : (Nm.dg W A).length ≤ 1000000) (t1 : Top ≤ A) :
    Calls Try.prog 106 #[.agg #[.bool a, v1], .agg #[.bool b, v2]] w (RPost false ⟨#[]⟩ false ⟨#[]⟩ 7 w) := by
  obtain ⟨ab, hab⟩ : ∃ ab, (a != b) = ab := ⟨_, rfl⟩
  have HW1 := Lib.hid (fun v w h => write_any ab v A w h l1)
  rw [wres_full _ t1, werr_full t1, wd_none] at HW1
  have HG : Hid (∀ v1 v2 w, Rd w v1 (Nm.dg W m) → Rd w v2 (Nm.dg W n) → Calls Try.prog 70 #[v1, v2] w (Gives g w)) := by rw [← e0]; exact hg
  have HD1 : Hid (∀ v1 v2 w, Rd w v1 (Nm.dg W m) → Rd w v2 (Nm.dg W g) → Calls Try.prog 95 #[v1, v2] w (DivPost m g w)) := d1
  have HD2 : Hid (∀ v1 v2 w, Rd w v1 (Nm.dg W n) → Rd w v2 (Nm.dg W g) → Calls Try.prog 95 #[v1, v2] w (DivPost n g w)) := d2
  unfold DivPost at HD1 HD2
  rw [e1] at HD1
  rw [e2] at HD2
  have hab2 : (!(a == b)) = ab := hab
  clear hab
  have H1 := Lib.hid h1
  have H2 := Lib.hid h2
  clear t1 l1 e0 e1 e2 hg d1 d2
  generalize m % g = mr at *
  generalize n % g = nr at *
  obtain ⟨p1, b1, o1, c1, rfl, hr1⟩ := h1
  obtain ⟨p2, b2, o2, c2, rfl, hr2⟩ := h2
  clear hr1 hr2
  generalize (Nm.dg W m).length = s1 at *
  generalize (Nm.dg W n).length = s2 at *
  obtain ⟨w0, hw0⟩ : ∃ w0 : World, w0 = ((w.alloc (.cells #[.bool a, .slice p1 s1 c1] 86)).alloc (.cells #[.bool b, .slice p2 s2 c2] 86)).alloc (.cells #[.bool false, .string ⟨#[]⟩, .bool false, .string ⟨#[]⟩] 64) := ⟨_, rfl⟩
  have hb0 : Hid (Below w.heap.size w w0) := by rw [hw0]; exact (((Below.refl _ _).alloc (Nat.le_refl _) _).alloc (by simp) _).alloc (by simp; omega) _
  have k0 : w0.cell? ⟨w.heap.size, 0, none⟩ = some (.bool a) := by rw [hw0]; simp [go_sem]
  have k1 : w0.cell? ⟨w.heap.size, 1, none⟩ = some (.slice p1 s1 c1) := by rw [hw0]; simp [go_sem]
  have k2 : w0.cell? ⟨w.heap.size + 1, 0, none⟩ = some (.bool b) := by rw [hw0]; simp [go_sem]
  have k3 : w0.cell? ⟨w.heap.size + 1, 1, none⟩ = some (.slice p2 s2 c2) := by rw [hw0]; simp [go_sem]
  have k4 : w0.cell? ⟨w.heap.size + 1 + 1, 0, none⟩ = some (.bool false) ∧ w0.cell? ⟨w.heap.size + 1 + 1, 1, none⟩ = some (.string ⟨#[]⟩) ∧ w0.cell? ⟨w.heap.size + 1 + 1, 2, none⟩ = some (.bool false) ∧ w0.cell? ⟨w.heap.size + 1 + 1, 3, none⟩ = some (.string ⟨#[]⟩) := by
    rw [hw0]; refine ⟨?_, ?_, ?_, ?_⟩ <;> simp [go_sem]
  have k5 : w0.frozen? ⟨w.heap.size + 1 + 1, 0, none⟩ = false ∧ w0.frozen? ⟨w.heap.size + 1 + 1, 1, none⟩ = false ∧ w0.frozen? ⟨w.heap.size + 1 + 1, 2, none⟩ = false ∧ w0.frozen? ⟨w.heap.size + 1 + 1, 3, none⟩ = false := by
    rw [hw0]; refine ⟨?_, ?_, ?_, ?_⟩ <;> simp [go_sem]
  have hsz : w0.heap.size = w.heap.size + 3 := by rw [hw0]; simp
  have KK := Lib.hid (And.intro k0 (And.intro k1 (And.intro k2 k3)))
  have KR := Lib.hid (And.intro k4 k5)
  have Hsz := Lib.hid hsz
  have Hw0 := Lib.hid hw0
  clear k0 k1 k2 k3 k4 k5 hw0 hsz
  have R1 := Lib.hid (H1.out.below hb0.out (Nat.le_refl _))
  have R2 := Lib.hid (H2.out.below hb0.out (Nat.le_refl _))
  clear H1 H2
  go_enter Try.func106, Try.ntmps106
  go_wp2_with fail
  rw [← Hw0.out]
  refine (HG.out _ _ _ R1.out R2.out).mono ?_
  rintro e wa ⟨v3, rfl, r3, ba⟩
  have q0 := keep1 ba KK.out.1
  have q1 := keep1 ba KK.out.2.1
  have q2 := keep1 ba KK.out.2.2.1
  have q3 := keep1 ba KK.out.2.2.2
  have BA := Lib.hid ba
  have RG := Lib.hid r3
  have R1a := Lib.hid (R1.out.below ba (Nat.le_refl _))
  have R2a := Lib.hid (R2.out.below ba (Nat.le_refl _))
  clear ba r3 R1 R2
  go_wp2_with fail
  refine (HD1.out _ _ _ R1a.out RG.out).mono ?_
  rintro e wb ⟨v4, v5, rfl, r4, r5, bb⟩
  have q0 := keep1 bb q0
  have q1 := keep1 bb q1
  have q2 := keep1 bb q2
  have q3 := keep1 bb q3
  have BB := Lib.hid (chain BA.out bb)
  have RGb := Lib.hid (RG.out.below bb (Nat.le_refl _))
  have R2b := Lib.hid (R2a.out.below bb (Nat.le_refl _))
  have RA := Lib.hid r4
  obtain ⟨p4, b4, o4, c4, rfl, hr4⟩ := r4
  clear bb r5 hr4 R1a R2a RG
  go_wp2_with fail
  refine (HD2.out _ _ _ R2b.out RGb.out).mono ?_
  rintro e wc ⟨v6, v7, rfl, r6, r7, bc⟩
  have q0 := keep1 bc q0
  have q1 := keep1 bc q1
  have q2 := keep1 bc q2
  have q3 := keep1 bc q3
  have BC := Lib.hid (chain BB.out bc)
  have RAc := Lib.hid (RA.out.below bc (Nat.le_refl _))
  have RB := Lib.hid r6
  obtain ⟨p6, b6, o6, c6, rfl, hr6⟩ := r6
  clear bc r7 hr6 R2b RGb RA
  go_wp2_with fail
  refine (HW1.out _ _ RAc.out).mono ?_
  rintro e wd1 ⟨rfl, bd⟩
  have BD := Lib.hid (chain BC.out bd)
  clear bd q0 q1 q2 q3 RAc RB hab2
  have q0 := keep1 BD.out KR.out.1.1
  have q1 := keep1 BD.out KR.out.1.2.1
  have q2 := keep1 BD.out KR.out.1.2.2.1
  have q3 := keep1 BD.out KR.out.1.2.2.2
  have q4 := keepf BD.out KR.out.1.1 KR.out.2.1
  have q5 := keepf BD.out KR.out.1.2.1 KR.out.2.2.1
  have q6 := keepf BD.out KR.out.1.2.2.1 KR.out.2.2.2.1
  have q7 := keepf BD.out KR.out.1.2.2.2 KR.out.2.2.2.2
  have s1 := BD.out.size
  have s2 := Hsz.out
  have f3 : ¬ wd1.heap.size = w.heap.size + 1 + 1 := by omega
  have f5 : ¬ w.heap.size + 1 + 1 = wd1.heap.size := by omega
  have f7 : w.heap.size + 1 + 1 < wd1.heap.size := by omega
  have HZ := Lib.hid ((below_set4 (chain hb0.out BD.out) (g := w.heap.size + 1 + 1) (by omega) (.bool false) (.string ⟨#[]⟩) (.bool false) (.string ⟨#[]⟩)).alloc (by simpa using (chain hb0.out BD.out).size) (.cells #[.bool false, .string ⟨#[]⟩] 23))
  have HZ2 := Lib.hid (below_set4 ((chain hb0.out BD.out).alloc (chain hb0.out BD.out).size (.cells #[.bool false, .string ⟨#[]⟩] 23)) (g := w.heap.size + 1 + 1) (by omega) (.bool false) (.string ⟨#[]⟩) (.bool false) (.string ⟨#[]⟩))
  clear s1 s2
  go_wp2
  exact bodyPost_ret (v := .tuple #[.agg #[.bool false, .string ⟨#[]⟩, .bool false, .string ⟨#[]⟩], .int .i64 7]) (by simp [results, Try.results106, go_sem, q0, q1, q2, q3, f3, f5, f7]) rfl ⟨rfl, by first | exact HZ.out | exact HZ2.out⟩

set_option maxRecDepth 100000 in
set_option maxHeartbeats 4000000 in
theorem combine_mulfull (na1 nb1 na2 nb2 : Bool) (s1 t1 s2 t2 : ByteArray) (sg : Bool) (k : Nat) (w : World) (hf : FracOK 82 na1 nb1 na2 nb2 (bv s1) (bv t1) (bv s2) (bv t2) sg k) (hl : ∀ v1 v2 w, Rd w v1 (Nm.dg W k) → Rd w v2 (Nm.dg W (bv t1 * bv t2)) → Calls Try.prog 106 #[.agg #[.bool sg, v1], .agg #[.bool (nb1 != nb2), v2]] w (RPost false ⟨#[]⟩ false ⟨#[]⟩ 7 w))
    (v1 : vld na1 s1 = true) (v2 : vld nb1 t1 = true) (v3 : vld na2 s2 = true) (v4 : vld nb2 t2 = true) (g1 : 0 < sgV nb1 t1) (g2 : 0 < sgV nb2 t2) :
    Calls Try.prog 81 #[rat na1 s1 nb1 t1, rat na2 s2 nb2 t2, .func (Fn.func 82) #[] #[]] w (RPost false ⟨#[]⟩ false ⟨#[]⟩ 7 w) := by
  have z1 := vld_size v1
  have z2 := vld_size v2
  have z3 := vld_size v3
  have z4 := vld_size v4
  have HV1 := ValidRatio_any na1 nb1 s1 t1
  have HV2 := ValidRatio_any na2 nb2 s2 t2
  have hvr1 : vldR na1 s1 nb1 t1 = true := by unfold vldR; rw [v1, decide_eq_true g1]; rfl
  have hvr2 : vldR na2 s2 nb2 t2 = true := by unfold vldR; rw [v3, decide_eq_true g2]; rfl
  rw [hvr1] at HV1
  rw [hvr2] at HV2
  have HA := Lib.hid (fun w => HV1 w (by omega) (by omega))
  have HB := Lib.hid (fun w => HV2 w (by omega) (by omega))
  have HR1 := Lib.hid (fun w => read_any na1 s1 w (by omega) (vld_can v1))
  have HR2 := Lib.hid (fun w => read_any nb1 t1 w (by omega) (vld_can v2))
  have HR3 := Lib.hid (fun w => read_any na2 s2 w (by omega) (vld_can v3))
  have HR4 := Lib.hid (fun w => read_any nb2 t2 w (by omega) (vld_can v4))
  have HT := Lib.hid (fun y1 y2 w h1 h2 => times_any nb1 nb2 y1 y2 (bv t1) (bv t2) w h1 h2 (Nat.le_trans (len_top (bv_lt v2)) (by decide)) (Nat.le_trans (len_top (bv_lt v4)) (by decide)))
  have HF := Lib.hid hf
  have HL := Lib.hid hl
  clear HV1 HV2 hvr1 hvr2 v1 v2 v3 v4 g1 g2 hf hl
  unfold FracOK at HF
  generalize (nb1 != nb2) = bb at *
  generalize bv t1 * bv t2 = nn at *
  generalize bv s1 = M1 at *
  generalize bv t1 = N1 at *
  generalize bv s2 = M2 at *
  generalize bv t2 = N2 at *
  unfold rat
  obtain ⟨w0, hw0⟩ : ∃ w0 : World, w0 = ((w.alloc (.cells #[.bool na1, .string s1, .bool nb1, .string t1] 64)).alloc (.cells #[.bool na2, .string s2, .bool nb2, .string t2] 64)).alloc (.cells #[.bool false, .string ⟨#[]⟩, .bool false, .string ⟨#[]⟩] 64) := ⟨_, rfl⟩
  have hb0 : Hid (Below w.heap.size w w0) := by rw [hw0]; exact (((Below.refl _ _).alloc (Nat.le_refl _) _).alloc (by simp) _).alloc (by simp; omega) _
  have i1 : ZC4 (.bool na1) (.string s1) (.bool nb1) (.string t1) w0 w.heap.size := by
    rw [hw0]; refine ⟨⟨?_, ?_, ?_, ?_⟩, ?_, ?_, ?_, ?_⟩ <;> simp [go_sem]
  have i2 : ZC4 (.bool na2) (.string s2) (.bool nb2) (.string t2) w0 (w.heap.size + 1) := by
    rw [hw0]; refine ⟨⟨?_, ?_, ?_, ?_⟩, ?_, ?_, ?_, ?_⟩ <;> simp [go_sem]
  have i3 : ZC4 (.bool false) (.string ⟨#[]⟩) (.bool false) (.string ⟨#[]⟩) w0 (w.heap.size + 1 + 1) := by
    rw [hw0]; refine ⟨⟨?_, ?_, ?_, ?_⟩, ?_, ?_, ?_, ?_⟩ <;> simp [go_sem]
  have hsz : w.heap.size + 3 ≤ w0.heap.size := by rw [hw0]; simp
  have I1 := Lib.hid i1
  have I2 := Lib.hid i2
  have I3 := Lib.hid i3
  have Hsz := Lib.hid hsz
  have Hw0 := Lib.hid hw0
  clear i1 i2 i3 hw0 hsz
  go_enter Try.func81, Try.ntmps81
  go_wp2_with fail
  rw [← Hw0.out]
  refine (HA.out _).mono ?_
  rintro e wa ⟨rfl, ba⟩
  obtain ⟨⟨q0, q1, q2, q3⟩, _⟩ := I2.out.next ba
  have BA := Lib.hid ba
  clear ba
  go_wp2_with fail
  refine (HB.out _).mono ?_
  rintro e wb ⟨rfl, hbb⟩
  have BB := Lib.hid (chain BA.out hbb)
  clear q0 q1 q2 q3 hbb
  obtain ⟨⟨k0, k1, k2, k3⟩, _⟩ := I1.out.next BB.out
  have HSB : Hid (w.heap.size + 3 ≤ wb.heap.size) := Nat.le_trans Hsz.out BB.out.size
  go_upto_region 3 with (fail)
  obtain ⟨jba, jbb, jbc, jbd, jbe, jbf, jbg, jbh, jbi⟩ := far6 HSB.out
  go_cut [8] (fun s8 wx => ∃ (g8 : Nat) (y1 y2 : Option Addr) (l1 c1 l2 c2 : Nat), s8 = .pointer (some ⟨g8, 0, none⟩) ∧ Hid (CutF na1 nb1 (.slice y1 l1 c1) (.slice y2 l2 c2) (Nm.dg W M1) (Nm.dg W N1) wb.heap.size wb wx g8))
  case first =>
    rename_i J0 K0 hRJ hMK
    go_region_held3 (fun W' => W'.cell? ⟨w.heap.size, 0, none⟩ = some (.bool na1) ∧ W'.cell? ⟨w.heap.size, 1, none⟩ = some (.string s1) ∧ W'.cell? ⟨w.heap.size, 2, none⟩ = some (.bool nb1) ∧ W'.cell? ⟨w.heap.size, 3, none⟩ = some (.string t1)) (go_keep)
      (first
        | (go_at_call 63; (with_reducible refine (HR1.out _).mono ?_); rintro e w1 ⟨v1, rfl, r1, b1⟩; (try (have b1 := undrew b1)); have d1 : Below wb.heap.size wb w1 := chain (by first | exact Below.refl _ _ | exact (Below.refl _ _).drew | exact below_one _ _ | exact ((Below.refl _ _).drew).alloc (Nat.le_refl _) _) b1; have c1 : Below wb.heap.size wb w1 := d1; have p0 := keep1 c1 k0; have p1 := keep1 c1 k1; have p2 := keep1 c1 k2; have p3 := keep1 c1 k3; obtain ⟨j1a, j1b, j1c, j1d, j1e, j1f, j1g, j1h, j1i⟩ := far6 (show w.heap.size + 3 ≤ w1.heap.size from Nat.le_trans HSB.out c1.size); (try (have A0 := Lib.hid (ZC4.made (g := wb.heap.size) rfl b1); obtain ⟨⟨A0a, A0b, A0c, A0d⟩, A0e, A0f, A0g, A0h⟩ := A0.out)); (try (have L01 := Lib.hid (apart_b (g := wb.heap.size) rfl b1); obtain ⟨l01x, l01y, l01z⟩ := L01.out)); have G1 := Lib.hid r1; obtain ⟨pp1, bb1, oo1, cc1, rfl, rr1⟩ := r1; clear rr1)
        | (go_at_call 63; (with_reducible refine (HR2.out _).mono ?_); rintro e w2 ⟨v2, rfl, r2, b2⟩; (try (have b2 := undrew b2)); have d2 : Below w1.heap.size w1 w2 := chain (by first | exact Below.refl _ _ | exact (Below.refl _ _).drew | exact below_one _ _ | exact ((Below.refl _ _).drew).alloc (Nat.le_refl _) _) b2; have c2 : Below wb.heap.size wb w2 := chain c1 d2; have p0 := keep1 c2 k0; have p1 := keep1 c2 k1; have p2 := keep1 c2 k2; have p3 := keep1 c2 k3; obtain ⟨j2a, j2b, j2c, j2d, j2e, j2f, j2g, j2h, j2i⟩ := far6 (show w.heap.size + 3 ≤ w2.heap.size from Nat.le_trans HSB.out c2.size); (try (have A1 := Lib.hid (ZC4.made (g := w1.heap.size) rfl b2); obtain ⟨⟨A1a, A1b, A1c, A1d⟩, A1e, A1f, A1g, A1h⟩ := A1.out)); (try (have A0 := Lib.hid (A0.out.next d2); obtain ⟨⟨A0a, A0b, A0c, A0d⟩, A0e, A0f, A0g, A0h⟩ := A0.out)); (try (have L02 := Lib.hid (apart_t L01.out d2.size); obtain ⟨l02x, l02y, l02z⟩ := L02.out)); (try (have L12 := Lib.hid (apart_b (g := w1.heap.size) rfl b2); obtain ⟨l12x, l12y, l12z⟩ := L12.out)); have G2 := Lib.hid (And.intro (G1.out.below d2 (Nat.le_refl _)) r2); obtain ⟨pp2, bb2, oo2, cc2, rfl, rr2⟩ := r2; clear rr2)
        | fail)
    all_goals
      obtain ⟨r1, r2⟩ := G2.out
      refine hMK _ _ (Met.intro (hRJ _ _ ?_))
      (repeat apply Exists.intro)
      refine ⟨?_, rfl⟩
      refine ⟨_, pp1, pp2, (Nm.dg W M1).length, cc1, (Nm.dg W N1).length, cc2, rfl, ?_⟩
      show CutF na1 nb1 (.slice pp1 _ cc1) (.slice pp2 _ cc2) (Nm.dg W M1) (Nm.dg W N1) wb.heap.size wb _ _
      have sA0 : wb.heap.size ≤ wb.heap.size := Nat.le_refl _
      have sA1 : wb.heap.size ≤ w1.heap.size := c1.size
      have sA2 : wb.heap.size ≤ w2.heap.size := c2.size
      first
        | with_reducible exact (CutF.k1 r1 r2 c2 sA2)
        | with_reducible exact (CutF.k2 A0.out sA0 r1 r2 c2)
        | with_reducible exact (CutF.k2 A1.out sA1 r1 r2 c2)
        | with_reducible exact (CutF.k1 r1 r2 c2 sA2).drew
        | with_reducible exact (CutF.k2 A0.out sA0 r1 r2 c2).drew
        | with_reducible exact (CutF.k2 A1.out sA1 r1 r2 c2).drew
        | fail
  case rest =>
    obtain ⟨g8, y1, y2, l1, c1, l2, c2, rfl, hcut⟩ := hcut
    obtain ⟨hg8, z8, r1, r2, bx, lg8⟩ := hcut.out
    have Z8 := Lib.hid z8
    have RR1 := Lib.hid r1
    have RR2 := Lib.hid r2
    have BX := Lib.hid (chain BB.out bx)
    have LG8 : Hid (w.heap.size + 3 ≤ g8) := Nat.le_trans HSB.out hg8
    have hsb2 : w.heap.size + 3 ≤ wc.heap.size := Nat.le_trans HSB.out bx.size
    clear HSB jba jbb jbc jbd jbe jbf jbg jbh jbi k0 k1 k2 k3 hcut hg8 z8 r1 r2 bx lg8
    have HSB := Lib.hid hsb2
    clear hsb2
    obtain ⟨⟨k0, k1, k2, k3⟩, _⟩ := I2.out.next BX.out
    go_upto_region 4 with (fail)
    obtain ⟨jba, jbb, jbc, jbd, jbe, jbf, jbg, jbh, jbi⟩ := far6 HSB.out
    go_cut [9] (fun s8 wx => ∃ (g8 : Nat) (y1 y2 : Option Addr) (l1 c1 l2 c2 : Nat), s8 = .pointer (some ⟨g8, 0, none⟩) ∧ Hid (CutF na2 nb2 (.slice y1 l1 c1) (.slice y2 l2 c2) (Nm.dg W M2) (Nm.dg W N2) wc.heap.size wc wx g8))
    case first =>
      rename_i J0 K0 hRJ hMK
      go_region_held3 (fun W' => W'.cell? ⟨w.heap.size + 1, 0, none⟩ = some (.bool na2) ∧ W'.cell? ⟨w.heap.size + 1, 1, none⟩ = some (.string s2) ∧ W'.cell? ⟨w.heap.size + 1, 2, none⟩ = some (.bool nb2) ∧ W'.cell? ⟨w.heap.size + 1, 3, none⟩ = some (.string t2)) (go_keep)
        (first
          | (go_at_call 63; (with_reducible refine (HR3.out _).mono ?_); rintro e w1 ⟨v1, rfl, r1, b1⟩; (try (have b1 := undrew b1)); have d1 : Below wc.heap.size wc w1 := chain (by first | exact Below.refl _ _ | exact (Below.refl _ _).drew | exact below_one _ _ | exact ((Below.refl _ _).drew).alloc (Nat.le_refl _) _) b1; have c1 : Below wc.heap.size wc w1 := d1; have p0 := keep1 c1 k0; have p1 := keep1 c1 k1; have p2 := keep1 c1 k2; have p3 := keep1 c1 k3; obtain ⟨j1a, j1b, j1c, j1d, j1e, j1f, j1g, j1h, j1i⟩ := far6 (show w.heap.size + 3 ≤ w1.heap.size from Nat.le_trans HSB.out c1.size); (try (have A0 := Lib.hid (ZC4.made (g := wc.heap.size) rfl b1); obtain ⟨⟨A0a, A0b, A0c, A0d⟩, A0e, A0f, A0g, A0h⟩ := A0.out)); (try (have L01 := Lib.hid (apart_b (g := wc.heap.size) rfl b1); obtain ⟨l01x, l01y, l01z⟩ := L01.out)); have G1 := Lib.hid r1; obtain ⟨pp1, bb1, oo1, cc1, rfl, rr1⟩ := r1; clear rr1)
          | (go_at_call 63; (with_reducible refine (HR4.out _).mono ?_); rintro e w2 ⟨v2, rfl, r2, b2⟩; (try (have b2 := undrew b2)); have d2 : Below w1.heap.size w1 w2 := chain (by first | exact Below.refl _ _ | exact (Below.refl _ _).drew | exact below_one _ _ | exact ((Below.refl _ _).drew).alloc (Nat.le_refl _) _) b2; have c2 : Below wc.heap.size wc w2 := chain c1 d2; have p0 := keep1 c2 k0; have p1 := keep1 c2 k1; have p2 := keep1 c2 k2; have p3 := keep1 c2 k3; obtain ⟨j2a, j2b, j2c, j2d, j2e, j2f, j2g, j2h, j2i⟩ := far6 (show w.heap.size + 3 ≤ w2.heap.size from Nat.le_trans HSB.out c2.size); (try (have A1 := Lib.hid (ZC4.made (g := w1.heap.size) rfl b2); obtain ⟨⟨A1a, A1b, A1c, A1d⟩, A1e, A1f, A1g, A1h⟩ := A1.out)); (try (have A0 := Lib.hid (A0.out.next d2); obtain ⟨⟨A0a, A0b, A0c, A0d⟩, A0e, A0f, A0g, A0h⟩ := A0.out)); (try (have L02 := Lib.hid (apart_t L01.out d2.size); obtain ⟨l02x, l02y, l02z⟩ := L02.out)); (try (have L12 := Lib.hid (apart_b (g := w1.heap.size) rfl b2); obtain ⟨l12x, l12y, l12z⟩ := L12.out)); have G2 := Lib.hid (And.intro (G1.out.below d2 (Nat.le_refl _)) r2); obtain ⟨pp2, bb2, oo2, cc2, rfl, rr2⟩ := r2; clear rr2)
          | fail)
      all_goals
        obtain ⟨r1, r2⟩ := G2.out
        refine hMK _ _ (Met.intro (hRJ _ _ ?_))
        (repeat apply Exists.intro)
        refine ⟨?_, rfl⟩
        refine ⟨_, pp1, pp2, (Nm.dg W M2).length, cc1, (Nm.dg W N2).length, cc2, rfl, ?_⟩
        show CutF na2 nb2 (.slice pp1 _ cc1) (.slice pp2 _ cc2) (Nm.dg W M2) (Nm.dg W N2) wc.heap.size wc _ _
        have sA0 : wc.heap.size ≤ wc.heap.size := Nat.le_refl _
        have sA1 : wc.heap.size ≤ w1.heap.size := c1.size
        have sA2 : wc.heap.size ≤ w2.heap.size := c2.size
        first
          | with_reducible exact (CutF.k1 r1 r2 c2 sA2)
          | with_reducible exact (CutF.k2 A0.out sA0 r1 r2 c2)
          | with_reducible exact (CutF.k2 A1.out sA1 r1 r2 c2)
          | with_reducible exact (CutF.k1 r1 r2 c2 sA2).drew
          | with_reducible exact (CutF.k2 A0.out sA0 r1 r2 c2).drew
          | with_reducible exact (CutF.k2 A1.out sA1 r1 r2 c2).drew
          | fail
    case rest =>
      obtain ⟨g9, y3, y4, l3, c3, l4, c4, rfl, hcut⟩ := hcut
      obtain ⟨hg9, z9, r3, r4, bx, lg9⟩ := hcut.out
      have RR3 : Hid (Rd wc.drew (.slice y3 l3 c3) (Nm.dg W M2)) := r3
      have RR4 : Hid (Rd wc.drew (.slice y4 l4 c4) (Nm.dg W N2)) := r4
      have SS1 : Hid (Rd wc.drew (.slice y1 l1 c1) (Nm.dg W M1)) := RR1.out.below bx.drew (Nat.le_refl _)
      have SS2 : Hid (Rd wc.drew (.slice y2 l2 c2) (Nm.dg W N1)) := RR2.out.below bx.drew (Nat.le_refl _)
      have BY := Lib.hid (chain BX.out bx)
      have LG9 : Hid (w.heap.size + 3 ≤ g9) := Nat.le_trans HSB.out hg9
      have z8b := Z8.out.next bx
      obtain ⟨⟨b0, b1, b2, b3⟩, _⟩ := z8b
      obtain ⟨⟨b4, b5, b6, b7⟩, _⟩ := z9
      clear HSB jba jbb jbc jbd jbe jbf jbg jbh jbi k0 k1 k2 k3 hcut hg9 r3 r4 bx lg9 RR1 RR2 Z8
      have k0 := b0
      have k1 := b1
      have k2 := b2
      have k3 := b3
      have k4 := b4
      have k5 := b5
      have k6 := b6
      have k7 := b7
      clear b0 b1 b2 b3 b4 b5 b6 b7
      have e1 : ¬ g8 = w.heap.size + 1 + 1 := by have := LG8.out; omega
      have e2 : ¬ w.heap.size + 1 + 1 = g8 := fun e => e1 e.symm
      have e3 : ¬ g9 = w.heap.size + 1 + 1 := by have := LG9.out; omega
      have e4 : ¬ w.heap.size + 1 + 1 = g9 := fun e => e3 e.symm
      go_wp2_with fail
      go_region_held3 (fun W' => W'.cell? ⟨g8, 0, none⟩ = some (.bool na1) ∧ W'.cell? ⟨g8, 1, none⟩ = some (.slice y1 l1 c1) ∧ W'.cell? ⟨g8, 2, none⟩ = some (.bool nb1) ∧ W'.cell? ⟨g8, 3, none⟩ = some (.slice y2 l2 c2) ∧ W'.cell? ⟨g9, 0, none⟩ = some (.bool na2) ∧ W'.cell? ⟨g9, 1, none⟩ = some (.slice y3 l3 c3) ∧ W'.cell? ⟨g9, 2, none⟩ = some (.bool nb2) ∧ W'.cell? ⟨g9, 3, none⟩ = some (.slice y4 l4 c4)) (go_keep)
        (first
          | (go_at_call 82; (with_reducible refine (HF.out _ _ _ _ _ SS1.out SS2.out RR3.out RR4.out).mono ?_); rintro e w1 ⟨v5, rfl, r5, b5⟩; have d1 := chain ((Below.refl _ _).drew) b5; have p0 := keep1 d1 k0; have p1 := keep1 d1 k1; have p2 := keep1 d1 k2; have p3 := keep1 d1 k3; have p4 := keep1 d1 k4; have p5 := keep1 d1 k5; have p6 := keep1 d1 k6; have p7 := keep1 d1 k7; have G1 := Lib.hid (And.intro r5 d1); have T2 := Lib.hid (SS2.out.below b5 (Nat.le_refl _)); have T4 := Lib.hid (RR4.out.below b5 (Nat.le_refl _)); obtain ⟨p5, q5, o5, c5, rfl, hr5⟩ := r5; clear hr5 b5)
          | (go_at_call 68; (with_reducible refine (HT.out _ _ _ T2.out T4.out).mono ?_); rintro e w2 ⟨v6, rfl, r6, b6⟩; have d2 := chain G1.out.2 b6; have p0 := keep1 d2 k0; have p1 := keep1 d2 k1; have p2 := keep1 d2 k2; have p3 := keep1 d2 k3; have p4 := keep1 d2 k4; have p5 := keep1 d2 k5; have p6 := keep1 d2 k6; have p7 := keep1 d2 k7; have G2 := Lib.hid (And.intro (G1.out.1.below b6 (Nat.le_refl _)) (And.intro r6 d2)); obtain ⟨p6, q6, o6, c6, rfl, hr6⟩ := r6; clear hr6 b6)
          | (go_at_call 106; (with_reducible refine (HL.out _ _ _ G2.out.1 G2.out.2.1).mono ?_); rintro e w3 ⟨rfl, b7⟩; have d3 := chain G2.out.2.2 b7; have p0 := keep1 d3 k0; have p1 := keep1 d3 k1; have p2 := keep1 d3 k2; have p3 := keep1 d3 k3; have p4 := keep1 d3 k4; have p5 := keep1 d3 k5; have p6 := keep1 d3 k6; have p7 := keep1 d3 k7; obtain ⟨⟨x0, x1, x2, x3⟩, x4, x5, x6, x7⟩ := I3.out.next (chain BY.out d3); have G3 := Lib.hid d3; unfold rat at *; clear b7)
          | fail)
      have HZ := Lib.hid (below_set4 (chain hb0.out (chain BY.out G3.out)) (g := w.heap.size + 1 + 1) (by omega) (.bool false) (.string ⟨#[]⟩) (.bool false) (.string ⟨#[]⟩))
      go_wp2
      exact bodyPost_ret (v := .tuple #[.agg #[.bool false, .string ⟨#[]⟩, .bool false, .string ⟨#[]⟩], .int .i64 7]) (by simp [results, Try.results81, go_sem, x0, x1, x2, x3]) rfl ⟨rfl, HZ.out⟩

set_option maxRecDepth 100000 in
set_option maxHeartbeats 2000000 in
theorem MulRatio_full (na1 nb1 na2 nb2 : Bool) (s1 t1 s2 t2 : ByteArray) (sg : Bool) (k : Nat) (w : World) (hf : FracOK 82 na1 nb1 na2 nb2 (bv s1) (bv t1) (bv s2) (bv t2) sg k) (hl : ∀ v1 v2 w, Rd w v1 (Nm.dg W k) → Rd w v2 (Nm.dg W (bv t1 * bv t2)) → Calls Try.prog 106 #[.agg #[.bool sg, v1], .agg #[.bool (nb1 != nb2), v2]] w (RPost false ⟨#[]⟩ false ⟨#[]⟩ 7 w))
    (v1 : vld na1 s1 = true) (v2 : vld nb1 t1 = true) (v3 : vld na2 s2 = true) (v4 : vld nb2 t2 = true) (g1 : 0 < sgV nb1 t1) (g2 : 0 < sgV nb2 t2) :
    Calls Try.prog 47 #[rat na1 s1 nb1 t1, rat na2 s2 nb2 t2] w (RPost false ⟨#[]⟩ false ⟨#[]⟩ 7 w) := by
  have HC := Lib.hid (fun w => combine_mulfull na1 nb1 na2 nb2 s1 t1 s2 t2 sg k w hf hl v1 v2 v3 v4 g1 g2)
  clear hf hl v1 v2 v3 v4 g1 g2
  unfold rat at HC ⊢
  obtain ⟨w0, hw0⟩ : ∃ w0 : World, w0 = ((w.alloc (.cells #[.bool na1, .string s1, .bool nb1, .string t1] 64)).alloc (.cells #[.bool na2, .string s2, .bool nb2, .string t2] 64)).alloc (.cells #[.bool false, .string ⟨#[]⟩, .bool false, .string ⟨#[]⟩] 64) := ⟨_, rfl⟩
  have hb0 : Hid (Below w.heap.size w w0) := by rw [hw0]; exact (((Below.refl _ _).alloc (Nat.le_refl _) _).alloc (by simp) _).alloc (by simp; omega) _
  have i3 : ZC4 (.bool false) (.string ⟨#[]⟩) (.bool false) (.string ⟨#[]⟩) w0 (w.heap.size + 1 + 1) := by
    rw [hw0]; refine ⟨⟨?_, ?_, ?_, ?_⟩, ?_, ?_, ?_, ?_⟩ <;> simp [go_sem]
  have I3 := Lib.hid i3
  have Hw0 := Lib.hid hw0
  clear i3 hw0
  go_enter Try.func47, Try.ntmps47
  go_wp2_with fail
  rw [← Hw0.out]
  refine (HC.out _).mono ?_
  rintro e wc ⟨rfl, bc⟩
  obtain ⟨⟨x0, x1, x2, x3⟩, x4, x5, x6, x7⟩ := I3.out.next bc
  have HZ := Lib.hid (below_set4 (chain hb0.out bc) (g := w.heap.size + 1 + 1) (by omega) (.bool false) (.string ⟨#[]⟩) (.bool false) (.string ⟨#[]⟩))
  unfold rat at *
  clear bc
  go_wp2
  exact bodyPost_ret (v := .tuple #[.agg #[.bool false, .string ⟨#[]⟩, .bool false, .string ⟨#[]⟩], .int .i64 7]) (by simp [results, Try.results47, go_sem, x0, x1, x2, x3]) rfl ⟨rfl, HZ.out⟩
end Go.Proofs.Ytlmklhffafcmmaa

/- The numbers of WideLimits: bytes that are all 255. -/
namespace Go.Proofs.Ytlmklhffafcmmaa
open Go.RowKit

/-- Bytes that are all 255. -/
def ff (n : Nat) : ByteArray := ⟨((List.replicate n 255).map UInt8.ofNat).toArray⟩
theorem ff_size (n : Nat) : (ff n).size = n := by
  show ((List.replicate n 255).map UInt8.ofNat).toArray.size = n
  simp
theorem val_ff (n : Nat) : Nm.val 256 (List.replicate n 255) + 1 = 256 ^ n := by
  induction n with
  | zero => rfl
  | succ n ih => rw [List.replicate_succ, Nm.val_cons, Nat.pow_succ]; omega
theorem dg_ff (n : Nat) : Nm.dg 256 (256 ^ n - 1) = List.replicate n 255 := by
  have hd : Nm.Dig 256 (List.replicate n 255) := fun x hx => by have := List.eq_of_mem_replicate hx; omega
  have hn : Nm.Nrm (List.replicate n 255) := by
    rcases Nat.eq_zero_or_pos n with h | h
    · subst h; exact trivial
    · exact Nm.nrm_of_last (by simpa using h) (by simp)
  rw [Nm.eq_dg (by decide : 2 ≤ 256) hd hn, show Nm.val 256 (List.replicate n 255) = 256 ^ n - 1 by have := val_ff n; omega]
theorem bs_ff (n : Nat) : bs (256 ^ n - 1) = ff n := by
  unfold bs ff
  rw [dg_ff, List.reverse_replicate]
theorem bs_one : bs 1 = ⟨#[1]⟩ := by
  have h := Nm.eq_dg (B := 256) (by decide) (l := [1]) (fun x hx => by simp at hx; omega) (by simp [Nm.Nrm])
  have h2 : Nm.dg 256 1 = [1] := h.symm
  unfold bs
  rw [h2]
  rfl
theorem bs_two : bs 2 = ⟨#[2]⟩ := by
  have h := Nm.eq_dg (B := 256) (by decide) (l := [2]) (fun x hx => by simp at hx; omega) (by simp [Nm.Nrm])
  have h2 : Nm.dg 256 2 = [2] := h.symm
  unfold bs
  rw [h2]
  rfl
theorem TopBits_8 {K : Nat} (hK : K = 8192) : TopBits = 8 * K := by rw [TopBits_eq, hK]
theorem Top_pow {K : Nat} (hK : K = 8192) : Top = 256 ^ K := by
  rw [pow_256, ← TopBits_8 hK]
  rfl
theorem pow_256_ge {n : Nat} (h : 1 ≤ n) : 256 ≤ 256 ^ n := by
  have := Nat.pow_le_pow_right (by decide : 0 < 256) h
  simpa using this
/-- A product of such numbers fills all bits. -/
theorem ff_mul {a b : Nat} (ha : 256 ≤ a) (hb : 256 ≤ b) : a * b ≤ 2 * ((a - 1) * (b - 1)) ∧ (a - 1) * (b - 1) < a * b := by
  obtain ⟨x, rfl⟩ : ∃ x, a = x + 2 := ⟨a - 2, by omega⟩
  obtain ⟨y, rfl⟩ : ∃ y, b = y + 2 := ⟨b - 2, by omega⟩
  have e1 : x + 2 - 1 = x + 1 := by omega
  have e2 : y + 2 - 1 = y + 1 := by omega
  rw [e1, e2]
  have h : 2 * 2 ≤ x * y := Nat.mul_le_mul (by omega) (by omega)
  constructor <;> grind
theorem lenB_half {s : ByteArray} (hc : Can s) (k : Nat) (h1 : 2 ^ k ≤ 2 * bv s) (h2 : bv s < 2 ^ k) (hk : 1 ≤ k) : lenB s = (k : Int) := by
  have h0 : 0 < s.size := by
    rcases Nat.eq_zero_or_pos s.size with h | h
    · have h3 := (bv_zero_iff hc).2 h
      have := Nat.pow_pos (n := k) (by decide : 0 < 2)
      omega
    · exact h
  obtain ⟨l, e1, l1, a1, a2⟩ := lenB_spec hc h0
  obtain ⟨j, rfl⟩ : ∃ j, k = j + 1 := ⟨k - 1, by omega⟩
  obtain ⟨i, rfl⟩ : ∃ i, l = i + 1 := ⟨l - 1, by omega⟩
  rw [Nat.add_sub_cancel] at a1
  have hj : 2 ^ j ≤ bv s := by rw [Nat.pow_succ] at h1; omega
  have h3 : 2 ^ i < 2 ^ (j + 1) := Nat.lt_of_le_of_lt a1 h2
  have h4 : 2 ^ j < 2 ^ (i + 1) := Nat.lt_of_le_of_lt hj a2
  have h5 := (Nat.pow_lt_pow_iff_right (by decide : 1 < 2)).1 h3
  have h6 := (Nat.pow_lt_pow_iff_right (by decide : 1 < 2)).1 h4
  rw [e1]
  omega
/-- The greatest integer has at most 19729 digits. -/
theorem Top_ten : Top ≤ 10 ^ 19729 := by
  have h1 : (2 : Nat) ^ 485 ≤ 10 ^ 146 := by decide +kernel
  have h2 : (2 : Nat) ^ 61 ≤ 10 ^ 19 := by decide +kernel
  obtain ⟨a, ha⟩ : ∃ a : Nat, a = 135 := ⟨_, rfl⟩
  obtain ⟨d, hd⟩ : ∃ d : Nat, d = 19729 := ⟨_, rfl⟩
  have e1 : TopBits = 485 * a + 61 := by rw [TopBits_eq, ha]
  have e2 : d = 146 * a + 19 := by rw [hd, ha]
  rw [← hd, e2]
  unfold Top
  rw [e1, Nat.pow_add, Nat.pow_add, Nat.pow_mul, Nat.pow_mul]
  exact Nat.mul_le_mul (Nat.pow_le_pow_left h1 a) h2
end Go.Proofs.Ytlmklhffafcmmaa

/- The law WideLimits: the walk over what its calls give. -/
namespace Go.Proofs.Ytlmklhffafcmmaa
open Go.RowKit

/-- A block of 8193 bytes of 255. -/
def FF (w : World) (g : Nat) : Prop := ∀ k, k < 8193 → w.cell? ⟨g, k, none⟩ = some (.int .u8 255) ∧ w.frozen? ⟨g, k, none⟩ = false
theorem FF.next {w w' : World} {g : Nat} (h : FF w g) (b : Below w.heap.size w w') : FF w' g := fun k hk => ⟨keep1 b (h k hk).1, keepf b (h k hk).1 (h k hk).2⟩
theorem FF.alloc {w : World} {g : Nat} (h : FF w g) (o : Obj) : FF (w.alloc o) g := h.next (below_one w o)
theorem FF.drew {w : World} {g : Nat} (h : FF w g) : FF w.drew g := h
theorem FF.other {w : World} {g b o : Nat} {v : Value} (h : FF w g) (hn : ¬ g = b) : FF (w.setCell ⟨b, o, none⟩ v) g := fun k hk => by
  have hn2 : ¬ b = g := fun e => hn e.symm
  obtain ⟨h1, h2⟩ := h k hk
  refine ⟨?_, ?_⟩ <;> simp [go_sem, h1, h2, hn, hn2]
theorem FF.lt {w : World} {g : Nat} (h : FF w g) : g < w.heap.size := World.block_lt_of_cell? w _ (h 0 (by decide)).1
theorem FF.wr {w : World} {g : Nat} (h : FF w g) (n : Nat) (hn : n ≤ 8193) : WrB w g (List.replicate n 255) := fun k hk => by
  have hk2 : k < 8193 := by simp at hk; omega
  rw [List.getElem_replicate]
  exact h k hk2
theorem FF.of_wr {w : World} {g : Nat} (h : WrB w g (List.replicate 8193 255)) : FF w g := fun k hk => by
  have := h k (by rw [List.length_replicate]; exact hk)
  rw [List.getElem_replicate] at this
  exact this
theorem FF.conv {w : World} {g : Nat} (h : FF w g) (n cap : Nat) (hn : n ≤ 8193) : (convert 62 9 (.slice (some ⟨g, 0, none⟩) n cap)).run Try.prog w = .ok (.string (ff n)) w :=
  conv_wr (cap := cap) (n := n) (l := List.replicate n 255) (by simp) (h.wr n hn) (fun x hx => by have := List.eq_of_mem_replicate hx; omega)
theorem WrB.new (w : World) (l : List Nat) : WrB (w.alloc (.cells (bvl l).toArray 5)) w.heap.size l := fun k hk => by
  have hb := heap_alloc_new w (.cells (bvl l).toArray 5)
  refine ⟨?_, frozen_of_row _ _ _ _ _ hb⟩
  rw [cell_of_row _ _ k _ _ _ hb]
  simpa using bvl_get l k hk
/-- Two wide integers lie in blocks of their own. -/
def CutB (a b : Bool) (s t : ByteArray) (v wx : World) (g h : Nat) : Prop := ZC (.bool a) (.string s) wx g ∧ ZC (.bool b) (.string t) wx h ∧ Below v.heap.size v wx
theorem CutB.k1 {a b : Bool} {s t : ByteArray} {v : World} {ty : TypeId} : CutB a b s t v ((v.alloc (.cells #[.bool a, .string s] ty)).alloc (.cells #[.bool b, .string t] ty)).drew v.heap.size (v.heap.size + 1) :=
  ⟨(ZC.new rfl).alloc _, ZC.new (by simp), ((below_one _ _).alloc (by simp) _).drew⟩
theorem CutB.k2 {a b : Bool} {s t : ByteArray} {v : World} {ty : TypeId} : CutB a b s t v ((v.alloc (.cells #[.bool b, .string t] ty)).alloc (.cells #[.bool a, .string s] ty)).drew (v.heap.size + 1) v.heap.size :=
  ⟨ZC.new (by simp), (ZC.new rfl).alloc _, ((below_one _ _).alloc (by simp) _).drew⟩
/-- A wide integer lies in a block of its own. -/
def CutV (a : Bool) (s : ByteArray) (v wx : World) (g : Nat) : Prop := ZC (.bool a) (.string s) wx g ∧ Below v.heap.size v wx
theorem CutV.k1 {a : Bool} {s : ByteArray} {v w : World} {ty : TypeId} (b : Below v.heap.size v w) : CutV a s v (w.alloc (.cells #[.bool a, .string s] ty)) w.heap.size := ⟨ZC.new rfl, b.alloc b.size _⟩
theorem CutV.k2 {a : Bool} {s : ByteArray} {v w : World} {x y : Value} {g : Nat} (b : Below v.heap.size v w) (z : ZC x y w g) (hg : v.heap.size ≤ g) : CutV a s v ((w.setCell ⟨g, 0, none⟩ (.bool a)).setCell ⟨g, 1, none⟩ (.string s)) g := ⟨z.set, below_set2 b hg _ _⟩
theorem CutV.drew {a : Bool} {s : ByteArray} {v w : World} {g : Nat} (h : CutV a s v w g) : CutV a s v w.drew g := ⟨h.1, h.2.drew⟩
section
variable {x y z u : Value} {w : World} {t : TypeId} {g : Nat}
theorem ZC4.alloc (h : ZC4 x y z u w g) (o : Obj) : ZC4 x y z u (w.alloc o) g := h.next (below_one w o)
theorem ZC4.new (hg : g = w.heap.size) : ZC4 x y z u (w.alloc (.cells #[x, y, z, u] t)) g := by subst hg; exact ZC4.made0 w
end
/-- The bytes that are written already. -/
theorem fill_step (N j : Nat) (h : j < N) : (List.replicate j 255 ++ List.replicate (N - j) 0).set j 255 = List.replicate (j + 1) 255 ++ List.replicate (N - (j + 1)) 0 := by
  obtain ⟨m, hm⟩ : ∃ m, N - j = m + 1 := ⟨N - j - 1, by omega⟩
  have hm2 : N - (j + 1) = m := by omega
  rw [hm, hm2, List.replicate_succ, List.set_append_right _ _ (by simp), List.length_replicate, Nat.sub_self, List.set_cons_zero, List.replicate_succ', List.append_assoc]
  rfl

set_option maxRecDepth 100000 in
set_option maxHeartbeats 8000000 in
theorem limits_walk (k m m1 : Nat) (n : Int) (a : Bool) (w : World) (hn : n = (k : Int)) (h1 : 1 ≤ k) (h2 : k ≤ 8191) (hm : m + k = 8192) (hm1 : m1 + k = 8193)
    (d1 p1 : Bool) (st sl sx sy sz sd sp sg tt : ByteArray) (htt : tt.size ≤ 20000) (e_st : ff 8192 = st) (e_sl : ff 8193 = sl) (e_sx : ff k = sx) (e_sy : ff m = sy) (e_sz : ff m1 = sz)
    (h_v1 : ∀ w, Calls Try.prog 13 #[.agg #[.bool a, .string st]] w fun e w' => e = .returned (.bool true) ∧ Below w.heap.size w w')
    (h_v2 : ∀ w, Calls Try.prog 13 #[.agg #[.bool false, .string sl]] w fun e w' => e = .returned (.bool false) ∧ Below w.heap.size w w')
    (h_l1 : ∀ w, Calls Try.prog 17 #[.agg #[.bool a, .string st]] w fun e w' => e = .returned (.int .i64 65536) ∧ Below w.heap.size w w')
    (h_c : ∀ w, Calls Try.prog 27 #[.agg #[.bool a, .string st], .agg #[.bool a, .string ⟨#[1]⟩]] w fun e w' => e = .returned (.tuple #[.agg #[.bool false, .string ⟨#[]⟩], .int .i64 7]) ∧ Below w.heap.size w w')
    (h_d : ∀ w, Calls Try.prog 28 #[.agg #[.bool a, .string st], .agg #[.bool a, .string ⟨#[1]⟩]] w fun e w' => e = .returned (.tuple #[.agg #[.bool d1, .string sd], .int .i64 0]) ∧ Below w.heap.size w w')
    (h_b : ∀ w, Calls Try.prog 27 #[.agg #[.bool d1, .string sd], .agg #[.bool a, .string ⟨#[1]⟩]] w fun e w' => e = .returned (.tuple #[.agg #[.bool a, .string st], .int .i64 0]) ∧ Below w.heap.size w w')
    (h_p : ∀ w, Calls Try.prog 34 #[.agg #[.bool false, .string sx], .agg #[.bool a, .string sy]] w fun e w' => e = .returned (.tuple #[.agg #[.bool p1, .string sp], .int .i64 0]) ∧ Below w.heap.size w w')
    (h_q : ∀ w, Calls Try.prog 35 #[.agg #[.bool p1, .string sp], .agg #[.bool a, .string sy]] w fun e w' => e = .returned (.tuple #[.agg #[.bool false, .string sx], .agg #[.bool false, .string ⟨#[]⟩], .int .i64 0]) ∧ Below w.heap.size w w')
    (h_l2 : ∀ w, Calls Try.prog 17 #[.agg #[.bool p1, .string sp]] w fun e w' => e = .returned (.int .i64 65536) ∧ Below w.heap.size w w')
    (h_m : ∀ w, Calls Try.prog 34 #[.agg #[.bool false, .string sx], .agg #[.bool false, .string sz]] w fun e w' => e = .returned (.tuple #[.agg #[.bool false, .string ⟨#[]⟩], .int .i64 7]) ∧ Below w.heap.size w w')
    (h_g : ∀ w, Calls Try.prog 36 #[.agg #[.bool a, .string st], .agg #[.bool false, .string sx]] w fun e w' => e = .returned (.tuple #[.agg #[.bool false, .string sg], .int .i64 0]) ∧ Below w.heap.size w w')
    (h_s : ∀ w, Calls Try.prog 16 #[.agg #[.bool false, .string sg]] w fun e w' => e = .returned (.int .i64 1) ∧ Below w.heap.size w w')
    (h_t : ∀ w, Calls Try.prog 42 #[.agg #[.bool a, .string st]] w fun e w' => e = .returned (.tuple #[.string tt, .int .i64 0]) ∧ Below w.heap.size w w')
    (h_pa : ∀ w, Calls Try.prog 44 #[.string tt] w fun e w' => e = .returned (.tuple #[.agg #[.bool a, .string st], .int .i64 0]) ∧ Below w.heap.size w w')
    (h_pb : ∀ w, Calls Try.prog 44 #[.string (tt ++ ⟨#[48]⟩)] w fun e w' => e = .returned (.tuple #[.agg #[.bool false, .string ⟨#[]⟩], .int .i64 7]) ∧ Below w.heap.size w w')
    (h_u : ∀ w, Calls Try.prog 47 #[.agg #[.bool a, .string st, .bool false, .string sx], .agg #[.bool false, .string sx, .bool false, .string ⟨#[1]⟩]] w fun e w' => e = .returned (.tuple #[.agg #[.bool a, .string st, .bool false, .string ⟨#[1]⟩], .int .i64 0]) ∧ Below w.heap.size w w')
    (h_w : ∀ w, Calls Try.prog 47 #[.agg #[.bool a, .string st, .bool false, .string ⟨#[1]⟩], .agg #[.bool false, .string ⟨#[2]⟩, .bool false, .string ⟨#[1]⟩]] w fun e w' => e = .returned (.tuple #[.agg #[.bool false, .string ⟨#[]⟩, .bool false, .string ⟨#[]⟩], .int .i64 7]) ∧ Below w.heap.size w w') :
    Calls Try.prog 9 #[.int .i64 n, .bool a] w (Ret (.bool true) w) := by
  have H_v1 := Lib.hid h_v1
  have H_v2 := Lib.hid h_v2
  have H_l1 := Lib.hid h_l1
  have H_c := Lib.hid h_c
  have H_d := Lib.hid h_d
  have H_b := Lib.hid h_b
  have H_p := Lib.hid h_p
  have H_q := Lib.hid h_q
  have H_l2 := Lib.hid h_l2
  have H_m := Lib.hid h_m
  have H_g := Lib.hid h_g
  have H_s := Lib.hid h_s
  have H_t := Lib.hid h_t
  have H_pa := Lib.hid h_pa
  have H_pb := Lib.hid h_pb
  have H_u := Lib.hid h_u
  have H_w := Lib.hid h_w
  clear h_v1 h_v2 h_l1 h_c h_d h_b h_p h_q h_l2 h_m h_g h_s h_t h_pa h_pb h_u h_w
  have C_st : Hid (∀ w' g, FF w' g → (convert 62 9 (.slice (some ⟨g, 0, none⟩) 8192 8193)).run Try.prog w' = .ok (.string st) w') := fun w' g h => by rw [← e_st]; exact h.conv 8192 8193 (by omega)
  have C_sl : Hid (∀ w' g, FF w' g → (convert 62 9 (.slice (some ⟨g, 0, none⟩) 8193 8193)).run Try.prog w' = .ok (.string sl) w') := fun w' g h => by rw [← e_sl]; exact h.conv 8193 8193 (by omega)
  have C_sx : Hid (∀ w' g, FF w' g → (convert 62 9 (.slice (some ⟨g, 0, none⟩) k 8193)).run Try.prog w' = .ok (.string sx) w') := fun w' g h => by rw [← e_sx]; exact h.conv k 8193 (by omega)
  have C_sy : Hid (∀ w' g, FF w' g → (convert 62 9 (.slice (some ⟨g, 0, none⟩) m 8193)).run Try.prog w' = .ok (.string sy) w') := fun w' g h => by rw [← e_sy]; exact h.conv m 8193 (by omega)
  have C_sz : Hid (∀ w' g, FF w' g → (convert 62 9 (.slice (some ⟨g, 0, none⟩) m1 8193)).run Try.prog w' = .ok (.string sz) w') := fun w' g h => by rw [← e_sz]; exact h.conv m1 8193 (by omega)
  have H_known := Lib.hid known_true
  clear e_st e_sl e_sx e_sy e_sz
  obtain ⟨N, hN⟩ : ∃ N : Nat, N = 8193 := ⟨_, rfl⟩
  have hmk : (Instr.makeSlice 62 (.int .i64 8193) (.int .i64 8193)).run Try.prog w = .ok (.slice (some ⟨w.heap.size, 0, none⟩) 8193 8193) (w.alloc (.cells (bvl (List.replicate N 0)).toArray 5)) := by
    have := mk_bytes N w (by omega)
    rw [hN] at this ⊢
    exact this
  have HN := Lib.hid hN
  have hw0 : ∃ w0 : World, w0 = w.alloc (.cells (bvl (List.replicate N 0)).toArray 5) := ⟨_, rfl⟩
  obtain ⟨w0, hw0⟩ := hw0
  rw [← hw0] at hmk
  have hb0 : Hid (Below w.heap.size w w0) := by rw [hw0]; exact below_one _ _
  have WR0 : Hid (WrB w0 w.heap.size (List.replicate N 0)) := by rw [hw0]; exact WrB.new w _
  have hg : Hid (w0.heap.size = w.heap.size + 1) := by rw [hw0]; show _ = _; simp
  obtain ⟨g, hgw⟩ : ∃ g : Nat, g = w.heap.size := ⟨_, rfl⟩
  rw [← hgw] at hmk WR0
  have HG := Lib.hid hgw
  have HNK := Lib.hid hn
  clear hN hw0 hgw
  subst hn
  go_enter Try.func9, Try.ntmps9
  go_wp2
  clear hmk
  go_loopw [6] (fun iv wr => ∃ (wz : World) (j : Nat), wz = wr ∧ j ≤ 8193 ∧ iv = .int .i64 (j : Int) ∧ Hid (WrB wz g (List.replicate j 255 ++ List.replicate (N - j) 0)) ∧ Hid (Only g w0 wz))
    (fun iv _ => 8193 - (intOf iv).toNat)
  case atStart => exact ⟨w0, 0, rfl, Nat.zero_le _, rfl, by show WrB _ _ _; have := WR0.out; simpa using this, Only.refl g w0⟩
  case round =>
    clear WR0
    obtain ⟨wz, j, rfl, hj, rfl, hwr, ho⟩ := hrel
    by_cases hlt : j < 8193
    · have hjl : j < (List.replicate j 255 ++ List.replicate (N - j) 0).length := by simp; have := HN.out; omega
      obtain ⟨e1, e2⟩ := hwr.out j hjl
      have hs := hwr.out.set j 255
      rw [fill_step N j (by have := HN.out; omega)] at hs
      have HS := Lib.hid hs
      have HO := Lib.hid (ho.out.setCell j (.int .u8 255))
      obtain ⟨old, hold⟩ : ∃ old : Nat, (List.replicate j 255 ++ List.replicate (N - j) 0)[j] = old := ⟨_, rfl⟩
      rw [hold] at e1
      clear hold
      clear hs hjl hwr ho
      go_wp2
      go_roundw
      case rel => exact ⟨_, j + 1, rfl, by omega, by go_num, HS.out, HO.out⟩
      case measure => simp [intOf]; omega
    · obtain rfl : j = 8193 := by omega
      have hff : FF wz g := by
        have h5 := hwr.out
        rw [HN.out, Nat.sub_self, List.replicate_zero, List.append_nil] at h5
        exact FF.of_wr h5
      have hb1 : Hid (Below w.heap.size w wz) := ho.out.below hb0.out (Nat.le_of_eq HG.out.symm)
      have FV0 := Lib.hid hff
      clear hwr ho hff hb0
      obtain ⟨v0, hv0⟩ : ∃ v : World, v = ((wz.alloc (.cells #[.bool a, .string st] 23)).alloc (.cells #[.bool a, .string ⟨#[1]⟩] 23)).alloc (.cells #[.bool false, .string ⟨#[]⟩] 23) := ⟨_, rfl⟩
      have cvst := C_st.out _ _ FV0.out
      go_upto_region 11 with (fail)
      rw [← hv0]
      have D : Hid (Below wz.heap.size wz v0) := by rw [hv0]; exact (((Below.refl _ _).alloc (Nat.le_refl _) _).alloc (by simp) _).alloc (by simp; omega) _
      have T7 : Hid (ZC (.bool a) (.string st) v0 wz.heap.size) := by rw [hv0]; exact ((ZC.new rfl).alloc _).alloc _
      have T8 : Hid (ZC (.bool a) (.string ⟨#[1]⟩) v0 (wz.heap.size + 1)) := by rw [hv0]; exact (ZC.new (by simp)).alloc _
      have T9 : Hid (ZC (.bool false) (.string ⟨#[]⟩) v0 (wz.heap.size + 1 + 1)) := by rw [hv0]; exact ZC.new (by simp)
      have FV0 := Lib.hid (FV0.out.next D.out)
      clear cvst hv0
      obtain ⟨k7a, k7b, _⟩ := T7.out
      go_wp2_with fail
      refine (H_v1.out _).mono ?_
      rintro e y1 ⟨rfl, b9⟩
      have E := Lib.hid b9
      have D := Lib.hid (chain D.out E.out)
      have T7 := Lib.hid (T7.out.next E.out)
      have T8 := Lib.hid (T8.out.next E.out)
      have T9 := Lib.hid (T9.out.next E.out)
      have FV0 := Lib.hid (FV0.out.next E.out)
      clear b9 E
      clear k7a k7b
      have cvsl := C_sl.out _ _ FV0.out
      obtain ⟨k7a, k7b, _⟩ := T7.out
      go_wp2_with fail
      refine (H_v2.out _).mono ?_
      rintro e y2 ⟨rfl, b9⟩
      have E := Lib.hid b9
      have D := Lib.hid (chain D.out E.out)
      have T7 := Lib.hid (T7.out.next E.out)
      have T8 := Lib.hid (T8.out.next E.out)
      have T9 := Lib.hid (T9.out.next E.out)
      have FV0 := Lib.hid (FV0.out.next E.out)
      clear cvsl
      clear b9 E
      clear k7a k7b
      obtain ⟨k7a, k7b, _⟩ := T7.out
      go_wp2_with fail
      refine (H_l1.out _).mono ?_
      rintro e y3 ⟨rfl, b9⟩
      have E := Lib.hid b9
      have D := Lib.hid (chain D.out E.out)
      have T7 := Lib.hid (T7.out.next E.out)
      have T8 := Lib.hid (T8.out.next E.out)
      have T9 := Lib.hid (T9.out.next E.out)
      have FV0 := Lib.hid (FV0.out.next E.out)
      clear b9 E
      clear k7a k7b
      obtain ⟨k7a, k7b, _⟩ := T7.out
      obtain ⟨k8a, k8b, _⟩ := T8.out
      go_wp2_with fail
      refine (H_c.out _).mono ?_
      rintro e y10 ⟨rfl, b9⟩
      obtain ⟨u10, hu10⟩ : ∃ u : World, u = (y10.alloc (.cells #[.bool false, .string ⟨#[]⟩] 23)) := ⟨_, rfl⟩
      have E : Hid (Below y3.heap.size y3 u10) := by rw [hu10]; exact b9.alloc b9.size _
      have D := Lib.hid (chain D.out E.out)
      have T7 := Lib.hid (T7.out.next E.out)
      have T8 := Lib.hid (T8.out.next E.out)
      have T9 := Lib.hid (T9.out.next E.out)
      have FV0 := Lib.hid (FV0.out.next E.out)
      have T10 : Hid (ZC (.bool false) (.string ⟨#[]⟩) u10 y10.heap.size) := by rw [hu10]; exact ZC.new rfl
      have Hu10 := Lib.hid hu10
      clear hu10 b9 E
      clear k7a
      clear k7b
      clear k8a
      clear k8b
      go_upto_region 14 with (fail)
      rw [← Hu10.out]
      clear Hu10
      obtain ⟨k7a, k7b, _⟩ := T7.out
      obtain ⟨k8a, k8b, _⟩ := T8.out
      go_wp2_with fail
      refine (H_d.out _).mono ?_
      rintro e y12 ⟨rfl, b9⟩
      obtain ⟨u12, hu12⟩ : ∃ u : World, u = (y12.alloc (.cells #[.bool d1, .string sd] 23)) := ⟨_, rfl⟩
      have E : Hid (Below u10.heap.size u10 u12) := by rw [hu12]; exact b9.alloc b9.size _
      have D := Lib.hid (chain D.out E.out)
      have T7 := Lib.hid (T7.out.next E.out)
      have T8 := Lib.hid (T8.out.next E.out)
      have T9 := Lib.hid (T9.out.next E.out)
      have T10 := Lib.hid (T10.out.next E.out)
      have FV0 := Lib.hid (FV0.out.next E.out)
      have T12 : Hid (ZC (.bool d1) (.string sd) u12 y12.heap.size) := by rw [hu12]; exact ZC.new rfl
      have Hu12 := Lib.hid hu12
      clear hu12 b9 E
      clear k7a
      clear k7b
      clear k8a
      clear k8b
      go_upto_region 15 with (fail)
      rw [← Hu12.out]
      clear Hu12
      obtain ⟨k12a, k12b, _⟩ := T12.out
      obtain ⟨k8a, k8b, _⟩ := T8.out
      go_wp2_with fail
      refine (H_b.out _).mono ?_
      rintro e y14 ⟨rfl, b9⟩
      obtain ⟨u14, hu14⟩ : ∃ u : World, u = (y14.alloc (.cells #[.bool a, .string st] 23)) := ⟨_, rfl⟩
      have E : Hid (Below u12.heap.size u12 u14) := by rw [hu14]; exact b9.alloc b9.size _
      have D := Lib.hid (chain D.out E.out)
      have T7 := Lib.hid (T7.out.next E.out)
      have T8 := Lib.hid (T8.out.next E.out)
      have T9 := Lib.hid (T9.out.next E.out)
      have T10 := Lib.hid (T10.out.next E.out)
      have T12 := Lib.hid (T12.out.next E.out)
      have FV0 := Lib.hid (FV0.out.next E.out)
      have T14 : Hid (ZC (.bool a) (.string st) u14 y14.heap.size) := by rw [hu14]; exact ZC.new rfl
      have Hu14 := Lib.hid hu14
      clear hu14 b9 E
      clear k12a
      clear k12b
      clear k8a
      clear k8b
      go_upto_region 16 with (fail)
      rw [← Hu14.out]
      clear Hu14
      obtain ⟨k10a, k10b, _⟩ := T10.out
      obtain ⟨k9a, k9b, _⟩ := T9.out
      obtain ⟨k14a, k14b, _⟩ := T14.out
      obtain ⟨k7a, k7b, _⟩ := T7.out
      go_upto_region 18 with (fail)
      clear k10a k10b k9a k9b k14a k14b k7a k7b
      have km : IntKind.i64.wrap ((8192 : Int) - (k : Int)) = (m : Int) := by rw [IntWalk.i64_in _ (by omega)]; omega
      have km1 : IntKind.i64.wrap ((8193 : Int) - (k : Int)) = (m1 : Int) := by rw [IntWalk.i64_in _ (by omega)]; omega
      have KM := Lib.hid km
      have KM1 := Lib.hid km1
      have k0 : (0 : Int) ≤ (k : Int) := by omega
      have k1 : (k : Int) ≤ 8193 := by omega
      have m0 : (0 : Int) ≤ (m : Int) := by omega
      have mm1 : (m : Int) ≤ 8193 := by omega
      have n0 : (0 : Int) ≤ (m1 : Int) := by omega
      have nm1 : (m1 : Int) ≤ 8193 := by omega
      clear hm hm1 hj hlt km1
      go_cut [16, 17] (fun s16 s17 wx => ∃ g16 g17 : Nat, s16 = .pointer (some ⟨g16, 0, none⟩) ∧ s17 = .pointer (some ⟨g17, 0, none⟩) ∧ Hid (CutB false a sx sy u14 wx g16 g17))
      case first =>
        rename_i J0 K0 hRJ hMK
        have cvx := C_sx.out
        have cvy := C_sy.out
        have ffv := FV0.out
        have glt : g < u14.heap.size := ffv.lt
        go_region_held3 (fun W' => FF W' g) (repeat (first | assumption | with_reducible refine FF.alloc ?_ _ | with_reducible refine FF.drew ?_ | with_reducible refine FF.other ?_ (by first | assumption | omega)))
          (fail)
        all_goals
          refine hMK _ _ (Met.intro (hRJ _ _ ?_))
          (repeat apply Exists.intro)
          refine ⟨?_, rfl⟩
          refine ⟨_, _, rfl, rfl, ?_⟩
          show CutB false a sx sy u14 _ _ _
          first
            | with_reducible exact CutB.k1
            | with_reducible exact CutB.k2
            | fail
      case rest =>
        obtain ⟨g16, g17, rfl, rfl, hcut⟩ := hcut
        obtain ⟨z16, z17, b9⟩ := hcut.out
        have T16 := Lib.hid z16
        have T17 := Lib.hid z17
        have E := Lib.hid b9
        have D := Lib.hid (chain D.out E.out)
        have T7 := Lib.hid (T7.out.next E.out)
        have T8 := Lib.hid (T8.out.next E.out)
        have T9 := Lib.hid (T9.out.next E.out)
        have T10 := Lib.hid (T10.out.next E.out)
        have T12 := Lib.hid (T12.out.next E.out)
        have T14 := Lib.hid (T14.out.next E.out)
        have FV0 := Lib.hid (FV0.out.next E.out)
        clear hcut z16 z17 b9 E km
        obtain ⟨k16a, k16b, _⟩ := T16.out
        obtain ⟨k17a, k17b, _⟩ := T17.out
        go_wp2_with fail
        refine (H_p.out _).mono ?_
        rintro e y18 ⟨rfl, b9⟩
        obtain ⟨u18, hu18⟩ : ∃ u : World, u = (y18.alloc (.cells #[.bool p1, .string sp] 23)) := ⟨_, rfl⟩
        have E : Hid (Below wc.heap.size wc u18) := by rw [hu18]; exact b9.alloc b9.size _
        have D := Lib.hid (chain D.out E.out)
        have T7 := Lib.hid (T7.out.next E.out)
        have T8 := Lib.hid (T8.out.next E.out)
        have T9 := Lib.hid (T9.out.next E.out)
        have T10 := Lib.hid (T10.out.next E.out)
        have T12 := Lib.hid (T12.out.next E.out)
        have T14 := Lib.hid (T14.out.next E.out)
        have T16 := Lib.hid (T16.out.next E.out)
        have T17 := Lib.hid (T17.out.next E.out)
        have FV0 := Lib.hid (FV0.out.next E.out)
        have T18 : Hid (ZC (.bool p1) (.string sp) u18 y18.heap.size) := by rw [hu18]; exact ZC.new rfl
        have Hu18 := Lib.hid hu18
        clear hu18 b9 E
        clear k16a
        clear k16b
        clear k17a
        clear k17b
        go_upto_region 20 with (fail)
        rw [← Hu18.out]
        clear Hu18
        obtain ⟨k18a, k18b, _⟩ := T18.out
        obtain ⟨k17a, k17b, _⟩ := T17.out
        go_wp2_with fail
        refine (H_q.out _).mono ?_
        rintro e y19 ⟨rfl, b9⟩
        obtain ⟨u19, hu19⟩ : ∃ u : World, u = ((y19.alloc (.cells #[.bool false, .string sx] 23)).alloc (.cells #[.bool false, .string ⟨#[]⟩] 23)) := ⟨_, rfl⟩
        have E : Hid (Below u18.heap.size u18 u19) := by rw [hu19]; exact (b9.alloc b9.size _).alloc (by simp; exact Nat.le_succ_of_le b9.size) _
        have D := Lib.hid (chain D.out E.out)
        have T7 := Lib.hid (T7.out.next E.out)
        have T8 := Lib.hid (T8.out.next E.out)
        have T9 := Lib.hid (T9.out.next E.out)
        have T10 := Lib.hid (T10.out.next E.out)
        have T12 := Lib.hid (T12.out.next E.out)
        have T14 := Lib.hid (T14.out.next E.out)
        have T16 := Lib.hid (T16.out.next E.out)
        have T17 := Lib.hid (T17.out.next E.out)
        have T18 := Lib.hid (T18.out.next E.out)
        have FV0 := Lib.hid (FV0.out.next E.out)
        have T19 : Hid (ZC (.bool false) (.string sx) u19 y19.heap.size) := by rw [hu19]; exact (ZC.new rfl).alloc _
        have T20 : Hid (ZC (.bool false) (.string ⟨#[]⟩) u19 (y19.heap.size + 1)) := by rw [hu19]; exact ZC.new (by simp)
        have Hu19 := Lib.hid hu19
        clear hu19 b9 E
        clear k18a
        clear k18b
        clear k17a
        clear k17b
        go_upto_region 21 with (fail)
        rw [← Hu19.out]
        clear Hu19
        obtain ⟨k19a, k19b, _⟩ := T19.out
        obtain ⟨k16a, k16b, _⟩ := T16.out
        obtain ⟨k20a, k20b, _⟩ := T20.out
        obtain ⟨k9a, k9b, _⟩ := T9.out
        obtain ⟨k18a, k18b, _⟩ := T18.out
        go_wp2_with fail
        refine (H_l2.out _).mono ?_
        rintro e y21 ⟨rfl, b9⟩
        have E := Lib.hid b9
        have D := Lib.hid (chain D.out E.out)
        have T7 := Lib.hid (T7.out.next E.out)
        have T8 := Lib.hid (T8.out.next E.out)
        have T9 := Lib.hid (T9.out.next E.out)
        have T10 := Lib.hid (T10.out.next E.out)
        have T12 := Lib.hid (T12.out.next E.out)
        have T14 := Lib.hid (T14.out.next E.out)
        have T16 := Lib.hid (T16.out.next E.out)
        have T17 := Lib.hid (T17.out.next E.out)
        have T18 := Lib.hid (T18.out.next E.out)
        have T19 := Lib.hid (T19.out.next E.out)
        have T20 := Lib.hid (T20.out.next E.out)
        have FV0 := Lib.hid (FV0.out.next E.out)
        clear b9 E
        clear k19a k19b k16a k16b k20a k20b k9a k9b k18a k18b
        go_upto_region 23 with (fail)
        have T16u := T16.out
        obtain ⟨j16a, j16b, _⟩ := T16.out
        have km1 := KM1.out
        go_cut [11] (fun s11 wx => s11 = .int .i64 7 ∧ Hid (Below y21.heap.size y21 wx))
        case first =>
          rename_i J0 K0 hRJ hMK
          have cvz := C_sz.out
          have ffv := FV0.out
          go_region_held3 (fun W' => FF W' g ∧ W'.cell? ⟨g16, 0, none⟩ = some (.bool false) ∧ W'.cell? ⟨g16, 1, none⟩ = some (.string sx)) ((refine ⟨?_, ?_, ?_⟩; (focus (repeat (first | assumption | with_reducible refine FF.alloc ?_ _ | with_reducible refine FF.drew ?_ | with_reducible refine FF.other ?_ (by first | assumption | omega)))); (focus go_keep); (focus go_keep)))
            (first
              | (go_at_call 34; (with_reducible refine (H_m.out _).mono ?_); rintro e w1 ⟨rfl, b1⟩; (try (have b1 := undrew b1)); have d1 : Below y21.heap.size y21 w1 := chain (by first | exact Below.refl _ _ | exact (Below.refl _ _).drew | exact below_one _ _ | exact ((Below.refl _ _).drew).alloc (Nat.le_refl _) _ | exact (below_one _ _).drew) b1; have DD := Lib.hid d1; have f1 : FF w1 g := FV0.out.next d1; have p1 := keep1 d1 j16a; have p2 := keep1 d1 j16b; clear b1)
              | fail)
          all_goals
            refine hMK _ _ (Met.intro (hRJ _ _ ?_))
            (repeat apply Exists.intro)
            refine ⟨?_, rfl⟩
            refine ⟨rfl, ?_⟩
            show Below _ _ _
            first | exact DD.out | exact DD.out.drew
        case rest =>
          obtain ⟨rfl, hE⟩ := hcut
          have E := Lib.hid hE.out
          have D := Lib.hid (chain D.out E.out)
          have T7 := Lib.hid (T7.out.next E.out)
          have T8 := Lib.hid (T8.out.next E.out)
          have T9 := Lib.hid (T9.out.next E.out)
          have T10 := Lib.hid (T10.out.next E.out)
          have T12 := Lib.hid (T12.out.next E.out)
          have T14 := Lib.hid (T14.out.next E.out)
          have T16 := Lib.hid (T16.out.next E.out)
          have T17 := Lib.hid (T17.out.next E.out)
          have T18 := Lib.hid (T18.out.next E.out)
          have T19 := Lib.hid (T19.out.next E.out)
          have T20 := Lib.hid (T20.out.next E.out)
          have FV0 := Lib.hid (FV0.out.next E.out)
          clear hE E T16u j16a j16b km1
          go_wp2_with fail
          obtain ⟨j7a, j7b, _⟩ := T7.out
          go_cut [21, 15] (fun s21 s15 wx => ∃ g21 : Nat, s21 = .pointer (some ⟨g21, 0, none⟩) ∧ s15 = .int .i64 0 ∧ Hid (CutV false sg wc wx g21))
          case first =>
            rename_i J0 K0 hRJ hMK
            have cvx := C_sx.out
            have ffv := FV0.out
            have glt : g < wc.heap.size := ffv.lt
            have gn1 : ¬ g = wc.heap.size := by omega
            have gn2 : ¬ wc.heap.size = g := by omega
            have zlt := T7.out.lt
            have gn3 : ¬ wz.heap.size = wc.heap.size := by omega
            have gn4 : ¬ wc.heap.size = wz.heap.size := by omega
            go_region_held3 (fun W' => FF W' g ∧ W'.cell? ⟨wz.heap.size, 0, none⟩ = some (.bool a) ∧ W'.cell? ⟨wz.heap.size, 1, none⟩ = some (.string st)) ((refine ⟨?_, ?_, ?_⟩; (focus (repeat (first | assumption | with_reducible refine FF.alloc ?_ _ | with_reducible refine FF.drew ?_ | with_reducible refine FF.other ?_ (by first | assumption | omega)))); (focus go_keep); (focus go_keep)))
              (first
                | (go_at_call 36; (with_reducible refine (H_g.out _).mono ?_); rintro e w1 ⟨rfl, b1⟩; (try (have b1 := undrew b1)); have d1 : Below wc.heap.size wc w1 := chain (by first | exact Below.refl _ _ | exact (Below.refl _ _).drew | exact below_one _ _ | exact ((Below.refl _ _).drew).alloc (Nat.le_refl _) _ | exact (below_one _ _).drew) b1; have DD := Lib.hid d1; have f1 : FF w1 g := FV0.out.next d1; have p1 := keep1 d1 j7a; have p2 := keep1 d1 j7b; (try (have A0 := Lib.hid (ZC.made (g := wc.heap.size) rfl b1); obtain ⟨A0a, A0b, A0c, A0d⟩ := A0.out)); clear b1)
                | fail)
            all_goals
              refine hMK _ _ (Met.intro (hRJ _ _ ?_))
              (repeat apply Exists.intro)
              refine ⟨?_, rfl⟩
              refine ⟨_, rfl, rfl, ?_⟩
              show CutV false sg wc _ _
              first
                | with_reducible exact CutV.k1 DD.out
                | with_reducible exact (CutV.k1 DD.out).drew
                | with_reducible exact CutV.k2 DD.out A0.out (Nat.le_refl _)
                | with_reducible exact (CutV.k2 DD.out A0.out (Nat.le_refl _)).drew
                | fail
          case rest =>
            obtain ⟨g21, rfl, rfl, hcut⟩ := hcut
            obtain ⟨z21, b9⟩ := hcut.out
            have T21 := Lib.hid z21
            have E := Lib.hid b9
            have D := Lib.hid (chain D.out E.out)
            have T7 := Lib.hid (T7.out.next E.out)
            have T8 := Lib.hid (T8.out.next E.out)
            have T9 := Lib.hid (T9.out.next E.out)
            have T10 := Lib.hid (T10.out.next E.out)
            have T12 := Lib.hid (T12.out.next E.out)
            have T14 := Lib.hid (T14.out.next E.out)
            have T16 := Lib.hid (T16.out.next E.out)
            have T17 := Lib.hid (T17.out.next E.out)
            have T18 := Lib.hid (T18.out.next E.out)
            have T19 := Lib.hid (T19.out.next E.out)
            have T20 := Lib.hid (T20.out.next E.out)
            have FV0 := Lib.hid (FV0.out.next E.out)
            clear hcut z21 b9 E j7a j7b
            obtain ⟨k21a, k21b, _⟩ := T21.out
            go_wp2_with fail
            refine (H_s.out _).mono ?_
            rintro e y25 ⟨rfl, b9⟩
            have E := Lib.hid b9
            have D := Lib.hid (chain D.out E.out)
            have T7 := Lib.hid (T7.out.next E.out)
            have T8 := Lib.hid (T8.out.next E.out)
            have T9 := Lib.hid (T9.out.next E.out)
            have T10 := Lib.hid (T10.out.next E.out)
            have T12 := Lib.hid (T12.out.next E.out)
            have T14 := Lib.hid (T14.out.next E.out)
            have T16 := Lib.hid (T16.out.next E.out)
            have T17 := Lib.hid (T17.out.next E.out)
            have T18 := Lib.hid (T18.out.next E.out)
            have T19 := Lib.hid (T19.out.next E.out)
            have T20 := Lib.hid (T20.out.next E.out)
            have T21 := Lib.hid (T21.out.next E.out)
            have FV0 := Lib.hid (FV0.out.next E.out)
            clear b9 E
            clear k21a k21b
            obtain ⟨k7a, k7b, _⟩ := T7.out
            go_wp2_with fail
            refine (H_t.out _).mono ?_
            rintro e y27 ⟨rfl, b9⟩
            have E := Lib.hid b9
            have D := Lib.hid (chain D.out E.out)
            have T7 := Lib.hid (T7.out.next E.out)
            have T8 := Lib.hid (T8.out.next E.out)
            have T9 := Lib.hid (T9.out.next E.out)
            have T10 := Lib.hid (T10.out.next E.out)
            have T12 := Lib.hid (T12.out.next E.out)
            have T14 := Lib.hid (T14.out.next E.out)
            have T16 := Lib.hid (T16.out.next E.out)
            have T17 := Lib.hid (T17.out.next E.out)
            have T18 := Lib.hid (T18.out.next E.out)
            have T19 := Lib.hid (T19.out.next E.out)
            have T20 := Lib.hid (T20.out.next E.out)
            have T21 := Lib.hid (T21.out.next E.out)
            have FV0 := Lib.hid (FV0.out.next E.out)
            clear b9 E
            clear k7a k7b
            go_wp2_with fail
            refine (H_pa.out _).mono ?_
            rintro e y24 ⟨rfl, b9⟩
            obtain ⟨u24, hu24⟩ : ∃ u : World, u = (y24.alloc (.cells #[.bool a, .string st] 23)) := ⟨_, rfl⟩
            have E : Hid (Below y27.heap.size y27 u24) := by rw [hu24]; exact b9.alloc b9.size _
            have D := Lib.hid (chain D.out E.out)
            have T7 := Lib.hid (T7.out.next E.out)
            have T8 := Lib.hid (T8.out.next E.out)
            have T9 := Lib.hid (T9.out.next E.out)
            have T10 := Lib.hid (T10.out.next E.out)
            have T12 := Lib.hid (T12.out.next E.out)
            have T14 := Lib.hid (T14.out.next E.out)
            have T16 := Lib.hid (T16.out.next E.out)
            have T17 := Lib.hid (T17.out.next E.out)
            have T18 := Lib.hid (T18.out.next E.out)
            have T19 := Lib.hid (T19.out.next E.out)
            have T20 := Lib.hid (T20.out.next E.out)
            have T21 := Lib.hid (T21.out.next E.out)
            have FV0 := Lib.hid (FV0.out.next E.out)
            have T24 : Hid (ZC (.bool a) (.string st) u24 y24.heap.size) := by rw [hu24]; exact ZC.new rfl
            have Hu24 := Lib.hid hu24
            clear hu24 b9 E
            go_upto_region 29 with (fail)
            rw [← Hu24.out]
            clear Hu24
            go_wp2_with fail
            refine (H_pb.out _).mono ?_
            rintro e y26 ⟨rfl, b9⟩
            obtain ⟨u26, hu26⟩ : ∃ u : World, u = (y26.alloc (.cells #[.bool false, .string ⟨#[]⟩] 23)) := ⟨_, rfl⟩
            have E : Hid (Below u24.heap.size u24 u26) := by rw [hu26]; exact b9.alloc b9.size _
            have D := Lib.hid (chain D.out E.out)
            have T7 := Lib.hid (T7.out.next E.out)
            have T8 := Lib.hid (T8.out.next E.out)
            have T9 := Lib.hid (T9.out.next E.out)
            have T10 := Lib.hid (T10.out.next E.out)
            have T12 := Lib.hid (T12.out.next E.out)
            have T14 := Lib.hid (T14.out.next E.out)
            have T16 := Lib.hid (T16.out.next E.out)
            have T17 := Lib.hid (T17.out.next E.out)
            have T18 := Lib.hid (T18.out.next E.out)
            have T19 := Lib.hid (T19.out.next E.out)
            have T20 := Lib.hid (T20.out.next E.out)
            have T21 := Lib.hid (T21.out.next E.out)
            have T24 := Lib.hid (T24.out.next E.out)
            have FV0 := Lib.hid (FV0.out.next E.out)
            have T26 : Hid (ZC (.bool false) (.string ⟨#[]⟩) u26 y26.heap.size) := by rw [hu26]; exact ZC.new rfl
            have Hu26 := Lib.hid hu26
            clear hu26 b9 E
            go_upto_region 30 with (fail)
            rw [← Hu26.out]
            clear Hu26
            obtain ⟨k7a, k7b, _⟩ := T7.out
            obtain ⟨k16a, k16b, _⟩ := T16.out
            go_wp2_with fail
            refine (H_u.out _).mono ?_
            rintro e y28 ⟨rfl, b9⟩
            obtain ⟨u28, hu28⟩ : ∃ u : World, u = (y28.alloc (.cells #[.bool a, .string st, .bool false, .string ⟨#[1]⟩] 64)) := ⟨_, rfl⟩
            have E : Hid (Below u26.heap.size u26 u28) := by rw [hu28]; exact b9.alloc b9.size _
            have D := Lib.hid (chain D.out E.out)
            have T7 := Lib.hid (T7.out.next E.out)
            have T8 := Lib.hid (T8.out.next E.out)
            have T9 := Lib.hid (T9.out.next E.out)
            have T10 := Lib.hid (T10.out.next E.out)
            have T12 := Lib.hid (T12.out.next E.out)
            have T14 := Lib.hid (T14.out.next E.out)
            have T16 := Lib.hid (T16.out.next E.out)
            have T17 := Lib.hid (T17.out.next E.out)
            have T18 := Lib.hid (T18.out.next E.out)
            have T19 := Lib.hid (T19.out.next E.out)
            have T20 := Lib.hid (T20.out.next E.out)
            have T21 := Lib.hid (T21.out.next E.out)
            have T24 := Lib.hid (T24.out.next E.out)
            have T26 := Lib.hid (T26.out.next E.out)
            have FV0 := Lib.hid (FV0.out.next E.out)
            have T28 : Hid (ZC4 (.bool a) (.string st) (.bool false) (.string ⟨#[1]⟩) u28 y28.heap.size) := by rw [hu28]; exact ZC4.new rfl
            have Hu28 := Lib.hid hu28
            clear hu28 b9 E
            clear k7a
            clear k7b
            clear k16a
            clear k16b
            go_upto_region 31 with (fail)
            rw [← Hu28.out]
            clear Hu28
            obtain ⟨k7a, k7b, _⟩ := T7.out
            go_wp2_with fail
            refine (H_w.out _).mono ?_
            rintro e y30 ⟨rfl, b9⟩
            obtain ⟨u30, hu30⟩ : ∃ u : World, u = (y30.alloc (.cells #[.bool false, .string ⟨#[]⟩, .bool false, .string ⟨#[]⟩] 64)) := ⟨_, rfl⟩
            have E : Hid (Below u28.heap.size u28 u30) := by rw [hu30]; exact b9.alloc b9.size _
            have D := Lib.hid (chain D.out E.out)
            have T7 := Lib.hid (T7.out.next E.out)
            have T8 := Lib.hid (T8.out.next E.out)
            have T9 := Lib.hid (T9.out.next E.out)
            have T10 := Lib.hid (T10.out.next E.out)
            have T12 := Lib.hid (T12.out.next E.out)
            have T14 := Lib.hid (T14.out.next E.out)
            have T16 := Lib.hid (T16.out.next E.out)
            have T17 := Lib.hid (T17.out.next E.out)
            have T18 := Lib.hid (T18.out.next E.out)
            have T19 := Lib.hid (T19.out.next E.out)
            have T20 := Lib.hid (T20.out.next E.out)
            have T21 := Lib.hid (T21.out.next E.out)
            have T24 := Lib.hid (T24.out.next E.out)
            have T26 := Lib.hid (T26.out.next E.out)
            have T28 := Lib.hid (T28.out.next E.out)
            have FV0 := Lib.hid (FV0.out.next E.out)
            have T30 : Hid (ZC4 (.bool false) (.string ⟨#[]⟩) (.bool false) (.string ⟨#[]⟩) u30 y30.heap.size) := by rw [hu30]; exact ZC4.new rfl
            have Hu30 := Lib.hid hu30
            clear hu30 b9 E
            clear k7a
            clear k7b
            go_upto_region 32 with (fail)
            rw [← Hu30.out]
            clear Hu30
            obtain ⟨k24a, k24b, _⟩ := T24.out
            obtain ⟨k7a, k7b, _⟩ := T7.out
            obtain ⟨⟨k28a, k28b, k28c, k28d⟩, _⟩ := T28.out
            go_wp2_with fail
            refine (H_known.out _).mono ?_
            rintro e x1 ⟨rfl, b1⟩
            have HZ := Lib.hid (hb1.out.trans ((chain D.out b1).mono hb1.out.size))
            clear b1
            go_wp2
            go_ret
            exact ⟨rfl, HZ.out⟩
end Go.Proofs.Ytlmklhffafcmmaa

/- WideInts gives true for every int and every wide integer (P1.2), and leaves its arguments as they were. No condition. -/
namespace Go.Proofs.Ytlmklhffafcmmaa
open Go.ChangeShapes Go.WideShapes Go.ChangeAt Go.RowKit Go.Joins
open Go.ChangeMaps (open_string shut_string)

theorem Try.own : ownKnob Try.prog.godebug = none := by kernel_rfl
theorem Try.cellsWide : Try.prog.cellsOf 23 = 2 := by kernel_rfl

set_option maxRecDepth 100000 in
/-- A wide integer that came in. -/
theorem open_wide {H : Type} {enc : TypeId × Value → H} {w : World} {base : Nat} {b0 : Nat} {spare : Nat → Bool} {held : Bool} {r : Reach} {v : Value} {d : DataW H} {p : List MemPlace}
    (hv : Value.okWide Try.prog w r b0 23 v) (h : DataW.Trod enc Try.prog w base spare held 23 v d p) :
    ∃ (a : Bool) (s : ByteArray), v = .agg #[.bool a, .string s] ∧ d = .agg [.lit (.bool a), .lit (.string s.data.toList)] ∧ p = [] ∧ s.size ≤ maxLen := by
  obtain ⟨c0, c1, y0, y1, m, rfl, rfl, rfl, hy0, hy1⟩ := open_agg2 Try.underlying23 (by kernel_rfl) Try.cellsWide hv h
  obtain ⟨a, e0, rfl⟩ := DataW.trod_bool Try.underlying4 hy0
  obtain ⟨s, e1, rfl, hs⟩ := DataW.trod_string Try.underlying9 hy1
  simp at e0 e1
  subst e0 e1
  exact ⟨a, s, rfl, rfl, rfl, hs⟩
theorem shut_wide {H : Type} {enc : TypeId × Value → H} {w : World} {base : Nat} {spare : Nat → Bool} {held : Bool} {a : Bool} {s : ByteArray} (hs : s.size ≤ maxLen) :
    DataW.Trod enc Try.prog w base spare held 23 (.agg #[.bool a, .string s]) (.agg [.lit (.bool a), .lit (.string s.data.toList)]) [] :=
  shut_agg2 (y0 := (.lit (.bool a), [])) (y1 := (.lit (.string s.data.toList), [])) Try.underlying23 (by kernel_rfl) Try.cellsWide ⟨1, by simp [DataW.trod, Try.underlying4]⟩ ⟨1, by simp [DataW.trod, Try.underlying9, hs]⟩

theorem ints_any (n : Int) (a : Bool) (s : ByteArray) (w : World) (h1 : -9223372036854775808 ≤ n) (h2 : n ≤ 9223372036854775807) :
    Calls Try.prog 4 #[.int .i64 n, .agg #[.bool a, .string s]] w (Ret (.bool true) w) := by
  by_cases hs : s.size ≤ 60
  · have hz : s.size ≤ 140737488351232 := by omega
    cases hv : vld a s with
    | false => exact ints_invalid n a s w h1 h2 hz hs hv
    | true =>
      by_cases g1 : sg a (bv s) < -9223372036854775808
      · exact ints_low n a s w h1 h2 hz hs hv g1
      · by_cases g2 : 9223372036854775807 < sg a (bv s)
        · exact ints_high n a s w h1 h2 hz hs hv g2
        · exact ints_in n a s w h1 h2 hz hs hv (by omega) (by omega)
  · exact ints_long n a s w h1 h2 hs

set_option maxRecDepth 100000 in
theorem ints_lifted (os : Os) (started : os.Started) (H : Type) (enc : TypeId × Value → H) :
    ReturnsInHanded {} Try.checked os 4 .any (Rows.wideIntsSpec.pre6 enc Try.prog Try.f4 Rows.wideIntsRow.domain false) (Rows.wideIntsSpec.post enc Try.prog Try.f4 false true false false) := by
  refine returnsInHanded_of_change (C := Try.checked) Try.own started (by kernel_rfl) Try.func4
    (ChangeSpec.witness6 (enc := enc) (C := Try.checked) false ⟨#[], #[.int .i64 0, .agg #[.bool false, .string ⟨#[]⟩]], []⟩ 8 (by kernel_rfl) (by kernel_rfl) (by kernel_rfl) (by kernel_rfl)) ?_
  intro W base args ds gs before hval0 hW hcnd _
  have hval : ∀ (j : Nat) t v, Try.f4.params[j]? = some t → args[j]? = some v → Value.okWide Try.prog W .any base t v := hval0
  have hW' := hW
  obtain ⟨p, q, hA0, hV, rfl, hfz, hnd⟩ := hW
  have hA : DataW.TrodAll enc Try.prog W 0 (fun _ => true) true Try.f4.params.toList args.toList ds p := hA0
  rw [Try.params4] at hA hval
  obtain ⟨v0, v1, d0, d1, p0, p1, rfl, rfl, rfl, h0, h1⟩ := trodAll_two hA
  obtain ⟨rfl, rfl⟩ := trodVars_none hV
  obtain ⟨n, rfl, rfl, rfl, wn⟩ := open_int Try.underlying3 (hval 0 3 v0 rfl rfl) h0
  obtain ⟨a, s, rfl, rfl, rfl, hs⟩ := open_wide (hval 1 23 v1 rfl rfl) h1
  clear hA0 hval0
  have bn := bounds_i64 wn
  refine (ints_any n a s W (by omega) (by omega)).mono fun e W' ⟨he, bel⟩ => ?_
  subst he
  exact ⟨_, rfl, _, _, _, [], _, [], hW', trodAll_mk1 (shut_bool Try.underlying4 _), trodAll_mk2 (shut_int Try.underlying3 wn) (shut_wide hs), rfl, bel.frame _, fun h => by cases h⟩

/-- The statement. -/
theorem ints_holds : Rows.WideIntsSaid :=
  OpenClaim.holds_of_wide 4 Try.f4 rfl rfl rfl rfl rfl rfl rfl ⟨rfl, rfl, rfl, rfl, rfl⟩ rfl rfl rfl rfl rfl (by kernel_rfl) Try.func4 (by kernel_rfl)
    (of_decide_eq_true (by kernel_rfl)) (by unfold Func.isWrapper; first | (rw [if_pos (by decide +kernel)]; kernel_rfl) | (rw [if_neg (by decide +kernel)]; exact ⟨rfl, rfl⟩))
    (fun os started H enc _ => ints_lifted os started H enc)
#print axioms ints_holds
end Go.Proofs.Ytlmklhffafcmmaa

/- WideLimits: what its calls give. -/
namespace Go.Proofs.Ytlmklhffafcmmaa
open Go.RowKit

theorem sg_word {a : Bool} {m : Nat} (h : m ≠ 0) : zb (sg a m) = a ∧ zs (sg a m) = bs m := by
  constructor
  · unfold zb sg
    cases a with
    | false => rw [if_neg (by simp)]; exact decide_eq_false (by omega)
    | true => rw [if_pos rfl]; exact decide_eq_true (by omega)
  · unfold zs
    rw [sg_abs]
theorem sg_neg1 (a : Bool) (m : Nat) (h : 1 ≤ m) : sg a m - sg a 1 = sg a (m - 1) := by
  unfold sg
  split <;> omega
theorem sg_pos1 (a : Bool) (m : Nat) (h : 1 ≤ m) : sg a (m - 1) + sg a 1 = sg a m := by
  unfold sg
  split <;> omega
theorem dg_ten {t : Nat} (h : t ≠ 0) : Nm.dg 10 (10 * t) = 0 :: Nm.dg 10 t := by
  have hd := Nm.dig_dg (by decide : 2 ≤ 10) t
  have hn := Nm.nrm_dg (by decide : 2 ≤ 10) t
  have hv := Nm.val_dg (by decide : 2 ≤ 10) t
  have hne : Nm.dg 10 t ≠ [] := by
    intro e
    rw [e] at hv
    exact h hv.symm
  have h1 : Nm.Dig 10 (0 :: Nm.dg 10 t) := Nm.dig_cons.2 ⟨by decide, hd⟩
  have h2 : Nm.Nrm (0 :: Nm.dg 10 t) := by
    cases hl : Nm.dg 10 t with
    | nil => exact absurd hl hne
    | cons x r => rw [hl] at hn; exact hn
  have h3 := Nm.eq_dg (by decide : 2 ≤ 10) h1 h2
  rw [Nm.val_cons, hv, Nat.zero_add] at h3
  exact h3.symm
theorem tl_ten {t : Nat} (h : t ≠ 0) : tl (10 * t) = tl t ++ [48] := by
  unfold tl
  rw [dg_ten h]
  simp [asc]
theorem tx_ten (a : Bool) {t : Nat} (h : t ≠ 0) : tx (sg a (10 * t)) = tx (sg a t) ++ ⟨#[48]⟩ := by
  have e0 : sg a (10 * t) ≠ 0 := by unfold sg; split <;> omega
  have e1 : sg a t ≠ 0 := by unfold sg; split <;> omega
  have e2 : sg a (10 * t) < 0 ↔ sg a t < 0 := by unfold sg; split <;> omega
  apply ByteArray.ext
  apply Array.ext'
  rw [tx_list _ e0]
  have h1 : (tx (sg a t) ++ (⟨#[48]⟩ : ByteArray)).data.toList = (tx (sg a t)).data.toList ++ [48] := by
    rw [ByteArray.data_append]
    simp
  rw [h1, tx_list _ e1, sg_abs, sg_abs, tl_ten h]
  by_cases hn : sg a t < 0
  · rw [if_pos hn, if_pos (e2.2 hn)]; simp
  · rw [if_neg hn, if_neg (fun h => hn (e2.1 h))]; simp
theorem parse_full (z : Int) (K : Nat) (w : World) (h : Top ≤ z.natAbs) (hs : z.natAbs < 10 ^ K) (hK1 : 1 ≤ K) (hK : K ≤ 100000) :
    Calls Try.prog 44 #[.string (tx z)] w (WPost (wd false 0) 7 w) := by
  have hz : (tx z).size ≤ 1000000000 := Nat.le_trans (tx_size hs hK1) (by omega)
  by_cases hl : (ds (tx z)).size ≤ 19729
  · have h1 := Parse_ok (tx z) w hz (tx_decT z) hl
    rw [tx_decv, wres_full _ h, werr_full h] at h1
    exact h1
  · exact Parse_long (tx z) w hz (tx_decT z) (by omega)
/-- A product over a product with a common factor. -/
theorem low_cancel (t x : Nat) (h0 : 0 < x) (ht : t < Top) (hx : x < Top) : LowOK (t * x) (x * 1) t 1 := by
  have h1 : 0 < Top := Nat.lt_of_le_of_lt (Nat.zero_le _) ht
  have l1 : (Nm.dg W (t * x)).length ≤ 2048 := len_top3 ht hx
  have l2 : (Nm.dg W (x * 1)).length ≤ 2048 := by rw [Nat.mul_one]; exact Nat.le_trans (len_top hx) (by decide)
  have l3 : (Nm.dg W x).length ≤ 2048 := Nat.le_trans (len_top hx) (by decide)
  have hg : Nat.gcd (t * x) (x * 1) = x := by
    rw [Nat.mul_one, Nat.gcd_comm]
    exact Nat.gcd_eq_left (Nat.dvd_mul_left x t)
  unfold LowOK
  rw [hg]
  exact ⟨gcdOK_any _ _ (by omega) (by omega), divOK_any _ _ h0 (by omega) (by omega), divOK_any _ _ h0 (by omega) (by omega), Nat.mul_div_cancel _ h0, by rw [Nat.mul_one]; exact Nat.div_self h0,
    Nat.le_trans (len_top ht) (by decide), Nat.le_trans (len_top (W_Top2 (by decide))) (by decide), ht, W_Top2 (by decide)⟩
theorem sgV_pos {s : ByteArray} (hv : vld false s = true) (h : 0 < bv s) : 0 < sgV false s := by
  rw [sgV_sg hv]
  have : sg false (bv s) = ((bv s : Nat) : Int) := rfl
  rw [this]
  rw [Int.sign_eq_one_of_pos (by omega)]
  decide
/-- A product of ratios that is an integer. -/
theorem mul_cancel (a : Bool) (st sx so : ByteArray) (w : World) (v1 : vld a st = true) (v2 : vld false sx = true) (v3 : vld false so = true) (h1 : bv so = 1) (h0 : 0 < bv sx) (ht : 0 < bv st) :
    Calls Try.prog 47 #[rat a st false sx, rat false sx false so] w (RPost a (bs (bv st)) false (bs 1) 0 w) := by
  have b1 := bv_lt v1
  have b2 := bv_lt v2
  have hl : LowOK (bv st * bv sx) (bv sx * bv so) (bv st) 1 := by rw [h1]; exact low_cancel _ _ h0 b1 b2
  have h := MulRatio_ok a false false false st sx sx so (a != false) (bv st * bv sx) (bv st) 1 w (mulFrac a false false false (bv st) (bv sx) (bv sx) (bv so) (Nat.le_trans (len_top b1) (by decide)) (Nat.le_trans (len_top b2) (by decide))) hl v1 v2 v2 v3 (sgV_pos v2 h0) (sgV_pos v3 (by omega))
  have e : ((a != false) != (false != false) && decide (bv st ≠ 0)) = a := by
    rw [decide_eq_true (by omega : bv st ≠ 0)]
    cases a <;> rfl
  rw [e] at h
  exact h
/-- A product of ratios that is an integer that is too large. -/
theorem mul_over (a : Bool) (st s2 so : ByteArray) (w : World) (v1 : vld a st = true) (v2 : vld false s2 = true) (v3 : vld false so = true) (h1 : bv so = 1) (h0 : 0 < bv s2) (ht : Top ≤ bv st * bv s2) :
    Calls Try.prog 47 #[rat a st false so, rat false s2 false so] w (RPost false ⟨#[]⟩ false ⟨#[]⟩ 7 w) := by
  have b1 := bv_lt v1
  have b2 := bv_lt v2
  have l1 : (Nm.dg W (bv st * bv s2)).length ≤ 2048 := len_top3 b1 b2
  have l2 : (Nm.dg W 1).length ≤ 2048 := Nat.le_trans (len_top (W_Top2 (by decide))) (by decide)
  refine MulRatio_full a false false false st so s2 so (a != false) (bv st * bv s2) w (mulFrac a false false false (bv st) (bv so) (bv s2) (bv so) (Nat.le_trans (len_top b1) (by decide)) (Nat.le_trans (len_top b2) (by decide))) ?_ v1 v3 v2 v3 (sgV_pos v3 (by omega)) (sgV_pos v3 (by omega))
  intro x y w' r1 r2
  rw [h1, Nat.mul_one] at r2
  refine lowest_full (a != false) (false != false) x y (bv st * bv s2) 1 1 (bv st * bv s2) 1 w' (gcdOK_any _ _ (by omega) (by omega)) (Nat.gcd_one_right _) (divOK_any _ _ (by decide) (by omega) (by omega)) (divOK_any _ _ (by decide) (by omega) (by omega)) (Nat.div_one _) (Nat.div_one _) r1 r2 (by omega) ht
end Go.Proofs.Ytlmklhffafcmmaa

/- WideLimits gives true. -/
namespace Go.Proofs.Ytlmklhffafcmmaa
open Go.RowKit

theorem ff_big : vld false (ff 8193) = false := by
  have hs := ff_size 8193
  unfold vld
  rw [dif_pos (by rw [hs]; decide), decide_eq_false (by rw [hs]; decide), Bool.false_and]
theorem zs_zero : zb 0 = false ∧ zs 0 = ⟨#[]⟩ := ⟨rfl, rfl⟩

set_option maxHeartbeats 1000000 in
theorem limits_good (k m m1 t x y z : Nat) (a : Bool) (w : World) (h1 : 1 ≤ k) (h2 : k ≤ 8191) (hm : m + k = 8192) (hm1 : m1 + k = 8193)
    (ht : t + 1 = Top) (e1 : bs t = ff 8192) (e2 : bs x = ff k) (e3 : bs y = ff m) (e4 : bs z = ff m1) (hx : 0 < x) (hx2 : x < Top) (hy : 0 < y) (hy2 : y < Top) (hz : 0 < z) (hz2 : z < Top)
    (hp : x * y < Top) (hp2 : Top ≤ 2 * (x * y)) (hq : Top ≤ x * z) (K : Nat) (hK : K = 65536) (hTK : Top = 2 ^ K) :
    Calls Try.prog 9 #[.int .i64 (k : Int), .bool a] w (Ret (.bool true) w) := by
  have h10 : 10 ≤ Top := Nat.le_trans (by decide) W_Top
  have t0 : t ≠ 0 := by omega
  have t1 : t - 1 ≠ 0 := by omega
  have vt : vld a (bs t) = true := vld_bs (by omega) (fun _ => t0)
  have vo : vld a (bs 1) = true := vld_bs (by omega) (fun _ => by decide)
  have vof : vld false (bs 1) = true := vld_bs (by omega) (fun _ => by decide)
  have v2f : vld false (bs 2) = true := vld_bs (by omega) (fun _ => by decide)
  have vx : vld false (bs x) = true := vld_bs hx2 (fun _ => by omega)
  have vz : vld false (bs z) = true := vld_bs hz2 (fun _ => by omega)
  have vp : vld (zb (sg false x * sg a y)) (zs (sg false x * sg a y)) = true := zvt (by rw [Int.natAbs_mul, sg_abs, sg_abs]; exact hp)
  have st := sg_word (a := a) t0
  have so := sg_word (a := a) (m := 1) (by decide)
  have sx := sg_word (a := false) (m := x) (by omega)
  have sy := sg_word (a := a) (m := y) (by omega)
  have ft : t < 10 ^ 19729 := Nat.lt_of_lt_of_le (by omega) Top_ten
  have sz : ∀ {b s}, vld b s = true → s.size ≤ 140737488351232 := fun h => Nat.le_trans (vld_size h) (by decide)
  have at1 : (sg a t).natAbs < Top := by rw [sg_abs]; omega
  have at2 : (sg a 1).natAbs < Top := by rw [sg_abs]; omega
  have at3 : (sg a (t - 1)).natAbs < Top := by rw [sg_abs]; omega
  have ax : (sg false x).natAbs < Top := by rw [sg_abs]; exact hx2
  have ay : (sg a y).natAbs < Top := by rw [sg_abs]; exact hy2
  have axy : (sg false x * sg a y).natAbs < Top := by rw [Int.natAbs_mul, sg_abs, sg_abs]; exact hp
  have ny : sg a y ≠ 0 := by unfold sg; split <;> omega
  have gp : 0 < Nat.gcd t x := Nat.gcd_pos_of_pos_right _ hx
  have gt : Nat.gcd t x < Top := Nat.lt_of_le_of_lt (Nat.gcd_le_right _ hx) hx2
  obtain ⟨d, hd⟩ : ∃ d : Nat, d = 19729 := ⟨_, rfl⟩
  have h_v1 : ∀ w, Calls Try.prog 13 #[.agg #[.bool a, .string (bs t)]] w fun e w' => e = .returned (.bool true) ∧ Below w.heap.size w w' := fun w => by
    have h := Valid_any a (bs t) w (sz vt)
    rw [vt] at h
    exact h
  have h_v2 : ∀ w, Calls Try.prog 13 #[.agg #[.bool false, .string (ff 8193)]] w fun e w' => e = .returned (.bool false) ∧ Below w.heap.size w w' := fun w => by
    have h := Valid_any false (ff 8193) w (by rw [ff_size]; decide)
    rw [ff_big] at h
    exact h
  have h_l1 : ∀ w, Calls Try.prog 17 #[.agg #[.bool a, .string (bs t)]] w fun e w' => e = .returned (.int .i64 65536) ∧ Below w.heap.size w w' := fun w => by
    have h := Len_any a (bs t) w (sz vt)
    rw [lenV_ok vt, lenB_half (can_bs t) K (by rw [bv_bs, ← hTK]; omega) (by rw [bv_bs, ← hTK]; omega) (by omega), hK] at h
    exact h
  have h_c : ∀ w, Calls Try.prog 27 #[.agg #[.bool a, .string (bs t)], .agg #[.bool a, .string ⟨#[1]⟩]] w fun e w' => e = .returned (.tuple #[.agg #[.bool false, .string ⟨#[]⟩], .int .i64 7]) ∧ Below w.heap.size w w' := fun w => by
    have h := Add_valid a a (bs t) (bs 1) w vt vo
    have e : pls a (bv (bs t)) a (bv (bs 1)) = (a, t + 1) := by unfold pls; rw [if_pos rfl, bv_bs, bv_bs]
    rw [e, wres_full _ (by show Top ≤ t + 1; omega), werr_full (by show Top ≤ t + 1; omega), wd_none, bs_one] at h
    exact h
  have h_d : ∀ w, Calls Try.prog 28 #[.agg #[.bool a, .string (bs t)], .agg #[.bool a, .string ⟨#[1]⟩]] w fun e w' => e = .returned (.tuple #[.agg #[.bool (zb (sg a (t - 1))), .string (zs (sg a (t - 1)))], .int .i64 0]) ∧ Below w.heap.size w w' := fun w => by
    have h := zz_sub (sg a t) (sg a 1) w at1 at2 (by rw [sg_neg1 _ _ (by omega)]; exact at3)
    unfold Z at h
    rw [sg_neg1 _ _ (by omega), st.1, st.2, so.1, so.2, bs_one] at h
    exact h
  have h_b : ∀ w, Calls Try.prog 27 #[.agg #[.bool (zb (sg a (t - 1))), .string (zs (sg a (t - 1)))], .agg #[.bool a, .string ⟨#[1]⟩]] w fun e w' => e = .returned (.tuple #[.agg #[.bool a, .string (bs t)], .int .i64 0]) ∧ Below w.heap.size w w' := fun w => by
    have h := zz_add (sg a (t - 1)) (sg a 1) w at3 at2 (by rw [sg_pos1 _ _ (by omega)]; exact at1)
    unfold Z at h
    rw [sg_pos1 _ _ (by omega), st.1, st.2, so.1, so.2, bs_one] at h
    exact h
  have h_p : ∀ w, Calls Try.prog 34 #[.agg #[.bool false, .string (bs x)], .agg #[.bool a, .string (bs y)]] w fun e w' => e = .returned (.tuple #[.agg #[.bool (zb (sg false x * sg a y)), .string (zs (sg false x * sg a y))], .int .i64 0]) ∧ Below w.heap.size w w' := fun w => by
    have h := zz_mul (sg false x) (sg a y) w ax ay axy
    unfold Z at h
    rw [sx.1, sx.2, sy.1, sy.2] at h
    exact h
  have h_q : ∀ w, Calls Try.prog 35 #[.agg #[.bool (zb (sg false x * sg a y)), .string (zs (sg false x * sg a y))], .agg #[.bool a, .string (bs y)]] w fun e w' => e = .returned (.tuple #[.agg #[.bool false, .string (bs x)], .agg #[.bool false, .string ⟨#[]⟩], .int .i64 0]) ∧ Below w.heap.size w w' := fun w => by
    have h := zz_quo (sg false x * sg a y) (sg a y) w axy ay ny
    unfold Z at h
    rw [Int.mul_ediv_cancel _ ny, Int.mul_emod_left, sx.1, sx.2, sy.1, sy.2] at h
    exact h
  have h_l2 : ∀ w, Calls Try.prog 17 #[.agg #[.bool (zb (sg false x * sg a y)), .string (zs (sg false x * sg a y))]] w fun e w' => e = .returned (.int .i64 65536) ∧ Below w.heap.size w w' := fun w => by
    have h := Len_any (zb (sg false x * sg a y)) (zs (sg false x * sg a y)) w (sz vp)
    have e : bv (zs (sg false x * sg a y)) = x * y := by rw [bv_zs, Int.natAbs_mul, sg_abs, sg_abs]
    rw [lenV_ok vp, lenB_half (vld_can vp) K (by rw [e, ← hTK]; exact hp2) (by rw [e, ← hTK]; exact hp) (by omega), hK] at h
    exact h
  have h_m : ∀ w, Calls Try.prog 34 #[.agg #[.bool false, .string (bs x)], .agg #[.bool false, .string (bs z)]] w fun e w' => e = .returned (.tuple #[.agg #[.bool false, .string ⟨#[]⟩], .int .i64 7]) ∧ Below w.heap.size w w' := fun w => by
    have h := Mul_valid false false (bs x) (bs z) w vx vz
    have e : bv (bs x) * bv (bs z) = x * z := by rw [bv_bs, bv_bs]
    rw [e, wres_full _ hq, werr_full hq, wd_none] at h
    exact h
  have h_g : ∀ w, Calls Try.prog 36 #[.agg #[.bool a, .string (bs t)], .agg #[.bool false, .string (bs x)]] w fun e w' => e = .returned (.tuple #[.agg #[.bool false, .string (bs (Nat.gcd t x))], .int .i64 0]) ∧ Below w.heap.size w w' := fun w => by
    have h := GCD_valid a false (bs t) (bs x) w (gcdOK_any _ _ (by rw [bv_bs]; exact Nat.le_trans (len_top (show t < Top by omega)) (by decide)) (by rw [bv_bs]; exact Nat.le_trans (len_top hx2) (by decide))) vt vx
    unfold WPost at h
    rw [bv_bs, bv_bs, wres_ok _ gt, werr_ok gt, wd, Bool.false_and] at h
    exact h
  have h_s : ∀ w, Calls Try.prog 16 #[.agg #[.bool false, .string (bs (Nat.gcd t x))]] w fun e w' => e = .returned (.int .i64 1) ∧ Below w.heap.size w w' := fun w => by
    have h := zz_sign (sg false (Nat.gcd t x)) w (by rw [sg_abs]; exact gt)
    have sgw := sg_word (a := false) (m := Nat.gcd t x) (by omega)
    unfold Z at h
    rw [sgw.1, sgw.2] at h
    have e : (sg false (Nat.gcd t x)).sign = 1 := Int.sign_eq_one_of_pos (by show (0 : Int) < ((Nat.gcd t x : Nat) : Int); omega)
    rw [e] at h
    exact h
  have h_t : ∀ w, Calls Try.prog 42 #[.agg #[.bool a, .string (bs t)]] w fun e w' => e = .returned (.tuple #[.string (tx (sg a t)), .int .i64 0]) ∧ Below w.heap.size w w' := fun w => by
    have h := zz_text (sg a t) w d at1 (by rw [sg_abs, hd]; exact ft) (by omega)
    unfold Z at h
    rw [st.1, st.2] at h
    exact h
  have h_pa : ∀ w, Calls Try.prog 44 #[.string (tx (sg a t))] w fun e w' => e = .returned (.tuple #[.agg #[.bool a, .string (bs t)], .int .i64 0]) ∧ Below w.heap.size w w' := fun w => by
    have h := parse_tx (sg a t) w d at1 (by rw [sg_abs, hd]; exact ft) (by omega) (by omega)
    rw [st.1, st.2] at h
    exact h
  have h_pb : ∀ w, Calls Try.prog 44 #[.string (tx (sg a t) ++ ⟨#[48]⟩)] w fun e w' => e = .returned (.tuple #[.agg #[.bool false, .string ⟨#[]⟩], .int .i64 7]) ∧ Below w.heap.size w w' := fun w => by
    have h := parse_full (sg a (10 * t)) (d + 1) w (by rw [sg_abs]; omega) (by rw [sg_abs, Nat.pow_succ, hd]; omega) (by omega) (by omega)
    rw [tx_ten a t0, wd_none] at h
    exact h
  have h_u : ∀ w, Calls Try.prog 47 #[.agg #[.bool a, .string (bs t), .bool false, .string (bs x)], .agg #[.bool false, .string (bs x), .bool false, .string ⟨#[1]⟩]] w fun e w' => e = .returned (.tuple #[.agg #[.bool a, .string (bs t), .bool false, .string ⟨#[1]⟩], .int .i64 0]) ∧ Below w.heap.size w w' := fun w => by
    have h := mul_cancel a (bs t) (bs x) (bs 1) w vt vx vof (bv_bs 1) (by rw [bv_bs]; exact hx) (by rw [bv_bs]; omega)
    rw [bv_bs, bs_one] at h
    exact h
  have h_w : ∀ w, Calls Try.prog 47 #[.agg #[.bool a, .string (bs t), .bool false, .string ⟨#[1]⟩], .agg #[.bool false, .string ⟨#[2]⟩, .bool false, .string ⟨#[1]⟩]] w fun e w' => e = .returned (.tuple #[.agg #[.bool false, .string ⟨#[]⟩, .bool false, .string ⟨#[]⟩], .int .i64 7]) ∧ Below w.heap.size w w' := fun w => by
    have h := mul_over a (bs t) (bs 2) (bs 1) w vt v2f vof (bv_bs 1) (by rw [bv_bs]; decide) (by rw [bv_bs, bv_bs]; omega)
    rw [bs_one, bs_two] at h
    exact h
  have htt : (tx (sg a t)).size ≤ 20000 := Nat.le_trans (tx_size (K := d) (by rw [sg_abs, hd]; exact ft) (by omega)) (by omega)
  exact limits_walk k m m1 (k : Int) a w rfl h1 h2 hm hm1 _ _ (bs t) (ff 8193) (bs x) (bs y) (bs z) _ _ (bs (Nat.gcd t x)) (tx (sg a t)) htt e1.symm rfl e2.symm e3.symm e4.symm h_v1 h_v2 h_l1 h_c h_d h_b h_p h_q h_l2 h_m h_g h_s h_t h_pa h_pb h_u h_w

theorem limits_nums (k m m1 K : Nat) (hK : K = 8192) (h1 : 1 ≤ k) (h2 : k ≤ 8191) (hm : m + k = K) (hm1 : m1 + k = K + 1) :
    (256 ^ K - 1) + 1 = Top ∧ 0 < 256 ^ k - 1 ∧ 256 ^ k - 1 < Top ∧ 0 < 256 ^ m - 1 ∧ 256 ^ m - 1 < Top ∧ 0 < 256 ^ m1 - 1 ∧ 256 ^ m1 - 1 < Top ∧ (256 ^ k - 1) * (256 ^ m - 1) < Top ∧ Top ≤ 2 * ((256 ^ k - 1) * (256 ^ m - 1)) ∧ Top ≤ (256 ^ k - 1) * (256 ^ m1 - 1) := by
  have hT := Top_pow hK
  have pk := pow_256_ge h1
  have pm := pow_256_ge (n := m) (by omega)
  have pm1 := pow_256_ge (n := m1) (by omega)
  have hlk : 256 ^ k ≤ 256 ^ K := Nat.pow_le_pow_right (by decide) (by omega)
  have hlm : 256 ^ m ≤ 256 ^ K := Nat.pow_le_pow_right (by decide) (by omega)
  have hlm1 : 256 ^ m1 ≤ 256 ^ K := Nat.pow_le_pow_right (by decide) (by omega)
  have e1 : 256 ^ k * 256 ^ m = 256 ^ K := by rw [← Nat.pow_add]; congr 1; omega
  have e2 : 256 ^ k * 256 ^ m1 = 256 ^ K * 256 := by rw [← Nat.pow_add, ← Nat.pow_succ]; congr 1; omega
  have f1 := ff_mul pk pm
  have f2 := ff_mul pk pm1
  rw [e1] at f1
  rw [e2] at f2
  rw [hT]
  generalize 256 ^ K = T at *
  generalize 256 ^ k = X at *
  generalize 256 ^ m = Y at *
  generalize 256 ^ m1 = V at *
  generalize (X - 1) * (Y - 1) = P at *
  generalize (X - 1) * (V - 1) = Q at *
  refine ⟨?_, ?_, ?_, ?_, ?_, ?_, ?_, ?_, ?_, ?_⟩ <;> omega
end Go.Proofs.Ytlmklhffafcmmaa
