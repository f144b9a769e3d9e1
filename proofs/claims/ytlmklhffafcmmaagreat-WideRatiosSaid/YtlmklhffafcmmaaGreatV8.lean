/- What the theorem leans on, part 8: CmpR, Floor, Bs, RatOf, Dec, FromD, FromD2, Parse, Law1, RefBits, RefOut. -/
import Derived.Test.YtlmklhffafcmmaaGreatV7
import Derived.Test.YtlmklhffafcmmaaGreatV5
import Derived.Test.YtlmklhffafcmmaaGreatV4
import Derived.Test.YtlmklhffafcmmaaGreatV6

/- The function wide.CompareRatio of two valid ratios that are not negative and have the same sign. -/
namespace Go.Proofs.YtlmklhffafcmmaaGreat
open Go.RowKit

def CRPost (c : Int) (w : World) (e : Ending) (w' : World) : Prop := e = .returned (.tuple #[.int .i64 c, .int .i64 0]) ∧ Below w.heap.size w w'

set_option maxRecDepth 100000 in
set_option maxHeartbeats 4000000 in
theorem CompareRatio_pos (na1 nb1 na2 nb2 : Bool) (s1 t1 s2 t2 : ByteArray) (w : World)
    (v1 : vld na1 s1 = true) (v2 : vld nb1 t1 = true) (v3 : vld na2 s2 = true) (v4 : vld nb2 t2 = true) (g1 : 0 < sgV nb1 t1) (g2 : 0 < sgV nb2 t2) (hs : sgV na1 s1 = sgV na2 s2) (hn : na1 = false) :
    Calls Tryz.prog 22 #[rat na1 s1 nb1 t1, rat na2 s2 nb2 t2] w (CRPost (cmpN (bv s1 * bv t2) (bv s2 * bv t1)) w) := by
  subst hn
  have z1 := vld_size v1
  have z2 := vld_size v2
  have z3 := vld_size v3
  have z4 := vld_size v4
  have HV1 := ValidRatio_any false nb1 s1 t1
  have HV2 := ValidRatio_any na2 nb2 s2 t2
  have hvr1 : vldR false s1 nb1 t1 = true := by unfold vldR; rw [v1, decide_eq_true g1]; rfl
  have hvr2 : vldR na2 s2 nb2 t2 = true := by unfold vldR; rw [v3, decide_eq_true g2]; rfl
  rw [hvr1] at HV1
  rw [hvr2] at HV2
  have HA := Lib.hid (fun w => HV1 w (by omega) (by omega))
  have HB := Lib.hid (fun w => HV2 w (by omega) (by omega))
  have HR1 := Lib.hid (fun w => read_any false s1 w (by omega) (vld_can v1))
  have HR2 := Lib.hid (fun w => read_any nb1 t1 w (by omega) (vld_can v2))
  have HR3 := Lib.hid (fun w => read_any na2 s2 w (by omega) (vld_can v3))
  have HR4 := Lib.hid (fun w => read_any nb2 t2 w (by omega) (vld_can v4))
  have HS1 := Lib.hid (fun w => Sign_any false s1 w (by omega))
  have HS2 := Lib.hid (fun w => Sign_any na2 s2 w (by omega))
  rw [hs] at HS1
  have l1 := Nat.le_trans (len_top (bv_lt v1)) (by decide : 1024 ≤ 1000000000)
  have l2 := Nat.le_trans (len_top (bv_lt v2)) (by decide : 1024 ≤ 1000000000)
  have l3 := Nat.le_trans (len_top (bv_lt v3)) (by decide : 1024 ≤ 1000000000)
  have l4 := Nat.le_trans (len_top (bv_lt v4)) (by decide : 1024 ≤ 1000000000)
  have HM1 : Hid (∀ x1 x2 w, Rd w x1 (Nm.dg W (bv s1)) → Rd w x2 (Nm.dg W (bv t2)) → Calls Tryz.prog 78 #[x1, x2] w (Gives (bv s1 * bv t2) w)) := by
    intro x1 x2 w h1 h2
    have h := mulLimbs_any x1 x2 _ _ w h1 h2 l1 l4 (Nm.dig_dg W2 _) (Nm.dig_dg W2 _)
    rwa [Nm.val_dg W2, Nm.val_dg W2] at h
  have HM2 : Hid (∀ x1 x2 w, Rd w x1 (Nm.dg W (bv s2)) → Rd w x2 (Nm.dg W (bv t1)) → Calls Tryz.prog 78 #[x1, x2] w (Gives (bv s2 * bv t1) w)) := by
    intro x1 x2 w h1 h2
    have h := mulLimbs_any x1 x2 _ _ w h1 h2 l3 l2 (Nm.dig_dg W2 _) (Nm.dig_dg W2 _)
    rwa [Nm.val_dg W2, Nm.val_dg W2] at h
  have lm1 : (Nm.dg W (bv s1 * bv t2)).length ≤ 1000000000 := Nat.le_trans (len_top3 (bv_lt v1) (bv_lt v4)) (by decide)
  have lm2 : (Nm.dg W (bv s2 * bv t1)).length ≤ 1000000000 := Nat.le_trans (len_top3 (bv_lt v3) (bv_lt v2)) (by decide)
  have HC : Hid (∀ x1 x2 w, Rd w x1 (Nm.dg W (bv s1 * bv t2)) → Rd w x2 (Nm.dg W (bv s2 * bv t1)) → Calls Tryz.prog 79 #[x1, x2] w (CmpPost (cmpN (bv s1 * bv t2) (bv s2 * bv t1)) w)) := by
    intro x1 x2 w h1 h2
    have h := compareLimbs_any x1 x2 _ _ w h1 h2 lm1 lm2 (Nm.dig_dg W2 _) (Nm.dig_dg W2 _) (Nm.nrm_dg W2 _) (Nm.nrm_dg W2 _)
    rwa [Nm.val_dg W2, Nm.val_dg W2] at h
  clear HV1 HV2 hvr1 hvr2 v1 v2 v3 v4 g1 g2 hs l1 l2 l3 l4 lm1 lm2
  generalize cmpN (bv s1 * bv t2) (bv s2 * bv t1) = cc at *
  generalize bv s1 * bv t2 = K1 at *
  generalize bv s2 * bv t1 = K2 at *
  generalize bv s1 = M1 at *
  generalize bv t1 = N1 at *
  generalize bv s2 = M2 at *
  generalize bv t2 = N2 at *
  generalize sgV na2 s2 = sg at *
  unfold rat
  obtain ⟨w0, hw0⟩ : ∃ w0 : World, w0 = (w.alloc (.cells #[.bool false, .string s1, .bool nb1, .string t1] 27)).alloc (.cells #[.bool na2, .string s2, .bool nb2, .string t2] 27) := ⟨_, rfl⟩
  have hb0 : Hid (Below w.heap.size w w0) := by rw [hw0]; exact ((Below.refl _ _).alloc (Nat.le_refl _) _).alloc (by simp) _
  have i1 : ZC4 (.bool false) (.string s1) (.bool nb1) (.string t1) w0 w.heap.size := by
    rw [hw0]; refine ⟨⟨?_, ?_, ?_, ?_⟩, ?_, ?_, ?_, ?_⟩ <;> simp [go_sem]
  have i2 : ZC4 (.bool na2) (.string s2) (.bool nb2) (.string t2) w0 (w.heap.size + 1) := by
    rw [hw0]; refine ⟨⟨?_, ?_, ?_, ?_⟩, ?_, ?_, ?_, ?_⟩ <;> simp [go_sem]
  have I1 := Lib.hid i1
  have I2 := Lib.hid i2
  have Hw0 := Lib.hid hw0
  clear i1 i2 hw0
  go_enter Tryz.func22, Tryz.ntmps22
  go_wp2_with fail
  rw [← Hw0.out]
  refine (HA.out _).mono ?_
  rintro e wa ⟨rfl, ba⟩
  obtain ⟨⟨q0, q1, q2, q3⟩, _⟩ := I2.out.next ba
  have BA := Lib.hid ba
  clear ba
  go_wp2_with fail
  refine (HB.out _).mono ?_
  rintro e wb ⟨rfl, hbb⟩
  have BB := Lib.hid (chain BA.out hbb)
  clear q0 q1 q2 q3 hbb
  obtain ⟨⟨k0, k1, k2, k3⟩, _⟩ := I1.out.next BB.out
  obtain ⟨⟨k4, k5, k6, k7⟩, _⟩ := I2.out.next BB.out
  go_wp2_with fail
  go_region_held3 (fun W' => W'.cell? ⟨w.heap.size, 0, none⟩ = some (.bool false) ∧ W'.cell? ⟨w.heap.size, 1, none⟩ = some (.string s1) ∧ W'.cell? ⟨w.heap.size + 1, 0, none⟩ = some (.bool na2) ∧ W'.cell? ⟨w.heap.size + 1, 1, none⟩ = some (.string s2)) (go_keep)
    (first
      | (go_at_call 59; (with_reducible refine (HS1.out _).mono ?_); rintro e w1 ⟨rfl, b1⟩; have d1 := chain ((Below.refl _ _).drew) b1; have p0 := keep1 d1 k0; have p1 := keep1 d1 k1; have p4 := keep1 d1 k4; have p5 := keep1 d1 k5; have G1 := Lib.hid d1; clear b1)
      | (go_at_call 59; (with_reducible refine (HS2.out _).mono ?_); rintro e w2 ⟨rfl, b2⟩; have d2 := chain G1.out b2; have p0 := keep1 d2 k0; have p1 := keep1 d2 k1; have p4 := keep1 d2 k4; have p5 := keep1 d2 k5; have G2 := Lib.hid d2; clear b2)
      | fail)
  have C2 := Lib.hid (chain BB.out G2.out)
  clear k0 k1 k2 k3 k4 k5 k6 k7 p0 p1 p4 p5 G1 G2 d1 d2
  obtain ⟨⟨m0, m1, k2, k3⟩, _⟩ := I1.out.next C2.out
  obtain ⟨⟨k4, k5, m2, m3⟩, _⟩ := I2.out.next C2.out
  have hfl := field_limbs
  go_wp2_with fail
  go_region_held3 (fun W' => W'.cell? ⟨w.heap.size, 0, none⟩ = some (.bool false) ∧ W'.cell? ⟨w.heap.size, 1, none⟩ = some (.string s1) ∧ W'.cell? ⟨w.heap.size + 1, 2, none⟩ = some (.bool nb2) ∧ W'.cell? ⟨w.heap.size + 1, 3, none⟩ = some (.string t2)) (go_keep)
    (first
      | (go_at_call 63; (with_reducible refine (HR1.out _).mono ?_); rintro e wa1 ⟨v1, rfl, r1, b1⟩; have d1 := chain ((Below.refl w2.heap.size w2).drew) b1; have p0 := keep1 d1 m0; have p1 := keep1 d1 m1; have p2 := keep1 d1 m2; have p3 := keep1 d1 m3; have waG1 := Lib.hid (And.intro r1 d1); obtain ⟨x1, x2, x3, x4, rfl, x5⟩ := r1; clear x5 b1)
      | (go_at_call 63; (with_reducible refine (HR4.out _).mono ?_); rintro e wa2 ⟨v2, rfl, r2, b2⟩; have d2 := chain waG1.out.2 b2; have p0 := keep1 d2 m0; have p1 := keep1 d2 m1; have p2 := keep1 d2 m2; have p3 := keep1 d2 m3; have waG2 := Lib.hid (And.intro (waG1.out.1.below b2 (Nat.le_refl _)) (And.intro r2 d2)); obtain ⟨x6, x7, x8, x9, rfl, x10⟩ := r2; clear x10 b2)
      | (go_at_call 78; (with_reducible refine (HM1.out _ _ _ waG2.out.1 waG2.out.2.1).mono ?_); rintro e wa3 ⟨wav, rfl, r3, b3⟩; have d3 := chain waG2.out.2.2 b3; have p0 := keep1 d3 m0; have p1 := keep1 d3 m1; have p2 := keep1 d3 m2; have p3 := keep1 d3 m3; have waG3 := Lib.hid (And.intro r3 d3); clear b3)
      | fail)
  have C3 := Lib.hid (chain C2.out waG3.out.2)
  have RA := Lib.hid waG3.out.1
  clear m0 m1 m2 m3 k2 k3 k4 k5 p0 p1 p2 p3 waG1 waG2 d1 d2 d3 r3
  obtain ⟨⟨k0, k1, m2, m3⟩, _⟩ := I1.out.next C3.out
  obtain ⟨⟨m0, m1, k2, k3⟩, _⟩ := I2.out.next C3.out
  go_wp2_with fail
  go_region_held3 (fun W' => W'.cell? ⟨w.heap.size + 1, 0, none⟩ = some (.bool na2) ∧ W'.cell? ⟨w.heap.size + 1, 1, none⟩ = some (.string s2) ∧ W'.cell? ⟨w.heap.size, 2, none⟩ = some (.bool nb1) ∧ W'.cell? ⟨w.heap.size, 3, none⟩ = some (.string t1)) (go_keep)
    (first
      | (go_at_call 63; (with_reducible refine (HR3.out _).mono ?_); rintro e wb1 ⟨v1, rfl, r1, b1⟩; have d1 := chain ((Below.refl wa3.heap.size wa3).drew) b1; have p0 := keep1 d1 m0; have p1 := keep1 d1 m1; have p2 := keep1 d1 m2; have p3 := keep1 d1 m3; have wbG1 := Lib.hid (And.intro r1 d1); obtain ⟨x1, x2, x3, x4, rfl, x5⟩ := r1; clear x5 b1)
      | (go_at_call 63; (with_reducible refine (HR2.out _).mono ?_); rintro e wb2 ⟨v2, rfl, r2, b2⟩; have d2 := chain wbG1.out.2 b2; have p0 := keep1 d2 m0; have p1 := keep1 d2 m1; have p2 := keep1 d2 m2; have p3 := keep1 d2 m3; have wbG2 := Lib.hid (And.intro (wbG1.out.1.below b2 (Nat.le_refl _)) (And.intro r2 d2)); obtain ⟨x6, x7, x8, x9, rfl, x10⟩ := r2; clear x10 b2)
      | (go_at_call 78; (with_reducible refine (HM2.out _ _ _ wbG2.out.1 wbG2.out.2.1).mono ?_); rintro e wb3 ⟨wbv, rfl, r3, b3⟩; have d3 := chain wbG2.out.2.2 b3; have p0 := keep1 d3 m0; have p1 := keep1 d3 m1; have p2 := keep1 d3 m2; have p3 := keep1 d3 m3; have wbG3 := Lib.hid (And.intro r3 d3); clear b3)
      | fail)
  have C4 := Lib.hid (chain C3.out wbG3.out.2)
  have RA2 := Lib.hid (RA.out.below wbG3.out.2 (Nat.le_refl _))
  have RB := Lib.hid wbG3.out.1
  clear m0 m1 m2 m3 k0 k1 k2 k3 p0 p1 p2 p3 wbG1 wbG2 d1 d2 d3 r3
  obtain ⟨⟨k0, _⟩, _⟩ := I1.out.next C4.out
  go_wp2_with fail
  refine (HC.out _ _ _ RA2.out RB.out).mono ?_
  rintro e wz ⟨rfl, nn, rfl⟩
  have HZ := Lib.hid (chain hb0.out (belowDrewN C4.out nn))
  go_wp2
  go_ret2
  exact ⟨rfl, HZ.out⟩
end Go.Proofs.YtlmklhffafcmmaaGreat

/- The function wide.Floor where nothing fails. -/
namespace Go.Proofs.YtlmklhffafcmmaaGreat
open Go.RowKit

set_option maxRecDepth 100000 in
set_option maxHeartbeats 2000000 in
theorem Floor_ok (a b : Bool) (s t : ByteArray) (w : World) (hd : DivOK (bv s) (bv t)) (hv1 : vld a s = true) (hv2 : vld b t = true) (hs : 0 < sgV b t) (h0 : 0 < bv t) :
    Calls Tryz.prog 11 #[rat a s b t] w (WPost (wd (a != b) (eq1 a (bv s) (bv t))) 0 w) := by
  have z1 := vld_size hv1
  have z2 := vld_size hv2
  have HV := ValidRatio_any a b s t
  have hvr : vldR a s b t = true := by unfold vldR; rw [hv1, decide_eq_true hs]; rfl
  rw [hvr] at HV
  have HA := Lib.hid (fun w => HV w (by omega) (by omega))
  have HQ := Lib.hid (fun w => Quo_valid a b s t w hd hv1 hv2 h0)
  obtain ⟨qb, qs, hq⟩ : ∃ x y, wd (a != b) (eq1 a (bv s) (bv t)) = .agg #[.bool x, .string y] := ⟨_, _, rfl⟩
  obtain ⟨rb, rs, hr⟩ : ∃ x y, wd false (er1 a (bv s) (bv t)) = .agg #[.bool x, .string y] := ⟨_, _, rfl⟩
  rw [hq] at HQ ⊢
  rw [hr] at HQ
  clear hd hv1 hv2 hs h0 HV hvr hq hr
  unfold rat
  obtain ⟨w0, hw0⟩ : ∃ w0 : World, w0 = (w.alloc (.cells #[.bool a, .string s, .bool b, .string t] 27)).alloc (.cells #[.bool false, .string ⟨#[]⟩] 23) := ⟨_, rfl⟩
  have hb0 : Hid (Below w.heap.size w w0) := by rw [hw0]; exact ((Below.refl _ _).alloc (Nat.le_refl _) _).alloc (by simp) _
  have k0 : w0.cell? ⟨w.heap.size, 0, none⟩ = some (.bool a) := by rw [hw0]; simp [go_sem]
  have k1 : w0.cell? ⟨w.heap.size, 1, none⟩ = some (.string s) := by rw [hw0]; simp [go_sem]
  have k2 : w0.cell? ⟨w.heap.size, 2, none⟩ = some (.bool b) := by rw [hw0]; simp [go_sem]
  have k3 : w0.cell? ⟨w.heap.size, 3, none⟩ = some (.string t) := by rw [hw0]; simp [go_sem]
  have k4 : w0.cell? ⟨w.heap.size + 1, 0, none⟩ = some (.bool false) := by rw [hw0]; simp [go_sem]
  have k5 : w0.cell? ⟨w.heap.size + 1, 1, none⟩ = some (.string ⟨#[]⟩) := by rw [hw0]; simp [go_sem]
  have k6 : w0.frozen? ⟨w.heap.size + 1, 0, none⟩ = false := by rw [hw0]; simp [go_sem]
  have k7 : w0.frozen? ⟨w.heap.size + 1, 1, none⟩ = false := by rw [hw0]; simp [go_sem]
  have hsz : Hid (w0.heap.size = w.heap.size + 2) := by rw [hw0]; show _ = _; simp
  have KK := Lib.hid (And.intro k0 (And.intro k1 (And.intro k2 k3)))
  have KR := Lib.hid (And.intro k4 (And.intro k5 (And.intro k6 k7)))
  have Hw0 := Lib.hid hw0
  clear k0 k1 k2 k3 k4 k5 k6 k7 hw0
  go_enter Tryz.func11, Tryz.ntmps11
  go_wp2_with fail
  rw [← Hw0.out]
  refine (HA.out _).mono ?_
  rintro e wa ⟨rfl, ba⟩
  have q0 := keep1 ba KK.out.1
  have q1 := keep1 ba KK.out.2.1
  have q2 := keep1 ba KK.out.2.2.1
  have q3 := keep1 ba KK.out.2.2.2
  have BA := Lib.hid ba
  clear ba
  go_wp2_with fail
  refine (HQ.out _).mono ?_
  rintro e wb ⟨rfl, bb⟩
  have c3 := chain BA.out bb
  have y0 := keep1 c3 KR.out.1
  have y1 := keep1 c3 KR.out.2.1
  have y2 := keepf c3 KR.out.1 KR.out.2.2.1
  have y3 := keepf c3 KR.out.2.1 KR.out.2.2.2
  have s0 := c3.size
  have s1 := hsz.out
  have f1 : ¬ wb.heap.size = w.heap.size + 1 := by omega
  have f2 : ¬ w.heap.size + 1 = wb.heap.size := by omega
  have f3 : w.heap.size + 1 < wb.heap.size := by omega
  have f4 : ¬ wb.heap.size + 1 = w.heap.size + 1 := by omega
  have f5 : ¬ w.heap.size + 1 = wb.heap.size + 1 := by omega
  have f6 : ¬ w.heap.size = wb.heap.size := by omega
  have f7 : ¬ wb.heap.size = w.heap.size := by omega
  have f8 : w.heap.size < wb.heap.size := by omega
  have HZ := Lib.hid (((below_set2 (chain hb0.out c3) (g := w.heap.size + 1) (by omega) (.bool qb) (.string qs)).alloc (by simpa using (chain hb0.out c3).size) (.cells #[.bool qb, .string qs] 23)).alloc (by have := (chain hb0.out c3).size; simp; omega) (.cells #[.bool rb, .string rs] 23))
  clear bb c3 s0 s1 q0 q1 q2 q3
  go_wp2
  exact bodyPost_ret (v := .tuple #[.agg #[.bool qb, .string qs], .int .i64 0]) (by simp [results, Tryz.results11, go_sem, y0, y1, f1, f2, f3, f6, f7, f8]) rfl ⟨rfl, HZ.out⟩
end Go.Proofs.YtlmklhffafcmmaaGreat

/- The bytes of a number read as that number, and are valid. -/
namespace Go.Proofs.YtlmklhffafcmmaaGreat
open Go.RowKit

theorem bs_list (n : Nat) : (bs n).data.toList = (Nm.dg 256 n).reverse.map UInt8.ofNat := rfl
theorem rev_bs (n : Nat) : rev (bs n) = Nm.dg 256 n := by
  unfold rev
  rw [bs_list, List.map_map, ← List.map_reverse, List.reverse_reverse]
  have h := Nm.dig_dg (by decide : 2 ≤ 256) n
  conv => rhs; rw [← List.map_id (Nm.dg 256 n)]
  apply List.map_congr_left
  intro x hx
  have := h x hx
  simp [UInt8.toNat_ofNat', Nat.mod_eq_of_lt this]
theorem bv_bs (n : Nat) : bv (bs n) = n := by
  unfold bv
  rw [rev_bs]
  exact Nm.val_dg (by decide) n
theorem bs_size (n : Nat) : (bs n).size = (Nm.dg 256 n).length := by
  have h := rev_length (bs n)
  rw [rev_bs] at h
  exact h.symm
theorem can_bs (n : Nat) : Can (bs n) := by
  intro h e
  have h2 : 0 < (Nm.dg 256 n).length := by rw [← bs_size]; exact h
  have h3 := Nm.nrm_last (Nm.nrm_dg (by decide : 2 ≤ 256) n) h2
  have h4 := Nm.dig_get (Nm.dig_dg (by decide : 2 ≤ 256) n) ((Nm.dg 256 n).length - 1) (by omega)
  have h5 : (bs n).data.toList[0]? = some 0 := by
    have : (bs n).data.toList[0]'h = 0 := e
    exact (List.getElem?_eq_getElem (l := (bs n).data.toList) h).trans (congrArg some this)
  rw [bs_list, List.getElem?_map, List.getElem?_reverse (by omega), List.getElem?_eq_getElem (by omega)] at h5
  have h6 := Option.some.inj h5
  have h7 := congrArg UInt8.toNat h6
  simp only [UInt8.toNat_ofNat', Nat.sub_zero] at h7
  rw [Nat.mod_eq_of_lt h4] at h7
  exact h3 h7
theorem pow_256 (k : Nat) : (256 : Nat) ^ k = 2 ^ (8 * k) := by rw [Nat.pow_mul]
theorem lt_256' {n k : Nat} (h : n < Top) (hk : TopBits ≤ 8 * k) : n < 256 ^ k := by
  rw [pow_256]
  exact Nat.lt_of_lt_of_le h (Nat.pow_le_pow_right (by decide) hk)
theorem bs_size_le {n k : Nat} (h : n < Top) (hk : TopBits ≤ 8 * k) : (bs n).size ≤ k := by
  rw [bs_size]
  refine Nm.len_le_of_val (by decide : 2 ≤ 256) (Nm.nrm_dg (by decide) n) ?_
  rw [Nm.val_dg (by decide)]
  exact lt_256' h hk
theorem vld_bs {a : Bool} {n : Nat} (h : n < Top) (ha : a = true → n ≠ 0) : vld a (bs n) = true := by
  unfold vld
  split
  · next h0 =>
    have h1 : (bs n).size ≤ 8192 := bs_size_le h (by rw [TopBits_eq]; decide)
    have h2 : ((bs n)[0] != 0) = true := by simpa using can_bs n h0
    rw [decide_eq_true h1, h2]; rfl
  · next h0 =>
    have hn : n = 0 := by
      have := bv_bs n
      rw [(bv_zero_iff (can_bs n)).2 (by omega)] at this
      exact this.symm
    cases a with
    | false => rfl
    | true => exact absurd hn (ha rfl)
theorem W_Top2 {n : Nat} (h : n < W) : n < Top := Nat.lt_of_lt_of_le h W_Top

/-- The wide integer of an integer: its sign and its magnitude. -/
def zb (z : Int) : Bool := decide (z < 0)
def zs (z : Int) : ByteArray := bs z.natAbs
theorem zb_zs_valid {z : Int} (h : z.natAbs < Top) : vld (zb z) (zs z) = true := vld_bs h fun hz => by
  have : z < 0 := of_decide_eq_true hz
  omega
theorem bv_zs (z : Int) : bv (zs z) = z.natAbs := bv_bs _
theorem sgV_z {z : Int} (h : z.natAbs < Top) : sgV (zb z) (zs z) = Int.sign z := by
  have hv := zb_zs_valid h
  have hc := vld_can hv
  have h1 := bv_zero_iff hc
  rw [bv_zs] at h1
  unfold sgV
  rcases Int.lt_trichotomy z 0 with g | g | g
  · have hb : zb z = true := decide_eq_true g
    have h2 : 0 < (zs z).size := by
      rcases Nat.eq_zero_or_pos (zs z).size with h3 | h3
      · have := h1.2 h3; omega
      · exact h3
    rw [if_pos ⟨hv, h2⟩, if_pos hb, Int.sign_eq_neg_one_of_neg g]
  · subst g
    rw [if_neg (by intro h3; have := h1.1 rfl; omega)]
    rfl
  · have hb : zb z = false := decide_eq_false (by omega)
    have h2 : 0 < (zs z).size := by
      rcases Nat.eq_zero_or_pos (zs z).size with h3 | h3
      · have := h1.2 h3; omega
      · exact h3
    rw [if_pos ⟨hv, h2⟩, if_neg (by rw [hb]; simp), Int.sign_eq_one_of_pos g]
theorem zs_size {z : Int} (h : z.natAbs < Top) : (zs z).size ≤ 8192 := vld_size (zb_zs_valid h)
end Go.Proofs.YtlmklhffafcmmaaGreat

/- The function wide.RatioOf where nothing fails. -/
namespace Go.Proofs.YtlmklhffafcmmaaGreat
open Go.RowKit

set_option maxRecDepth 100000 in
set_option maxHeartbeats 2000000 in
theorem RatioOf_ok (x y : Int) (A B : Nat) (w : World) (hl : LowOK x.natAbs y.natAbs A B) (h1 : -9223372036854775808 ≤ x) (h2 : x ≤ 9223372036854775807) (h3 : -9223372036854775808 ≤ y) (h4 : y ≤ 9223372036854775807) (h0 : y ≠ 0) :
    Calls Tryz.prog 10 #[.int .i64 x, .int .i64 y] w (RPost ((zb x != zb y) && decide (A ≠ 0)) (bs A) false (bs B) 0 w) := by
  have t1 : x.natAbs < Top := W_Top2 (by unfold W; omega)
  have t2 : y.natAbs < Top := W_Top2 (by unfold W; omega)
  have H1 : Hid (∀ w, Calls Tryz.prog 52 #[.int .i64 x] w fun e w' => e = .returned (.agg #[.bool (zb x), .string (zs x)]) ∧ Below w.heap.size w w') := fun w => Of_any x w h1 h2
  have H2 : Hid (∀ w, Calls Tryz.prog 52 #[.int .i64 y] w fun e w' => e = .returned (.agg #[.bool (zb y), .string (zs y)]) ∧ Below w.heap.size w w') := fun w => Of_any y w h3 h4
  have HP := Lib.hid (fun w => Ratio_ok (zb x) (zb y) (zs x) (zs y) A B w (by rw [bv_zs, bv_zs]; exact hl) (zb_zs_valid t1) (zb_zs_valid t2) (by rw [bv_zs]; omega))
  clear hl t1 t2 h0
  generalize ((zb x != zb y) && decide (A ≠ 0)) = xb at *
  generalize bs A = xs at *
  generalize bs B = ys at *
  generalize zb x = a at *
  generalize zb y = b at *
  generalize zs x = s at *
  generalize zs y = t at *
  obtain ⟨w0, hw0⟩ : ∃ w0 : World, w0 = w.alloc (.cells #[.bool false, .string ⟨#[]⟩, .bool false, .string ⟨#[]⟩] 27) := ⟨_, rfl⟩
  have hb0 : Hid (Below w.heap.size w w0) := by rw [hw0]; exact below_one _ _
  have k4 : w0.cell? ⟨w.heap.size, 0, none⟩ = some (.bool false) ∧ w0.cell? ⟨w.heap.size, 1, none⟩ = some (.string ⟨#[]⟩) ∧ w0.cell? ⟨w.heap.size, 2, none⟩ = some (.bool false) ∧ w0.cell? ⟨w.heap.size, 3, none⟩ = some (.string ⟨#[]⟩) := by
    rw [hw0]; refine ⟨?_, ?_, ?_, ?_⟩ <;> simp [go_sem]
  have k5 : w0.frozen? ⟨w.heap.size, 0, none⟩ = false ∧ w0.frozen? ⟨w.heap.size, 1, none⟩ = false ∧ w0.frozen? ⟨w.heap.size, 2, none⟩ = false ∧ w0.frozen? ⟨w.heap.size, 3, none⟩ = false := by
    rw [hw0]; refine ⟨?_, ?_, ?_, ?_⟩ <;> simp [go_sem]
  have KR := Lib.hid (And.intro k4 k5)
  have Hw0 := Lib.hid hw0
  clear k4 k5 hw0
  go_enter Tryz.func10, Tryz.ntmps10
  go_wp2_with fail
  rw [← Hw0.out]
  refine (H1.out _).mono ?_
  rintro e wa ⟨rfl, ba⟩
  have HBa := Lib.hid ba
  clear ba
  go_wp2_with fail
  refine (H2.out _).mono ?_
  rintro e wb ⟨rfl, bb⟩
  have HBb := Lib.hid (chain HBa.out bb)
  clear bb
  go_wp2_with fail
  refine (HP.out _).mono ?_
  rintro e wc ⟨rfl, bc⟩
  have c3 := chain HBb.out bc
  have y0 := keep1 c3 KR.out.1.1
  have y1 := keep1 c3 KR.out.1.2.1
  have y2 := keep1 c3 KR.out.1.2.2.1
  have y3 := keep1 c3 KR.out.1.2.2.2
  have y4 := keepf c3 KR.out.1.1 KR.out.2.1
  have y5 := keepf c3 KR.out.1.2.1 KR.out.2.2.1
  have y6 := keepf c3 KR.out.1.2.2.1 KR.out.2.2.2.1
  have y7 := keepf c3 KR.out.1.2.2.2 KR.out.2.2.2.2
  have HZ := Lib.hid (below_set4 (chain hb0.out c3) (Nat.le_refl w.heap.size) (.bool xb) (.string xs) (.bool false) (.string ys))
  unfold rat at *
  clear bc c3
  go_wp2
  exact bodyPost_ret (v := .tuple #[.agg #[.bool xb, .string xs, .bool false, .string ys], .int .i64 0]) (by simp [results, Tryz.results10, go_sem, y0, y1, y2, y3]) rfl ⟨rfl, HZ.out⟩
end Go.Proofs.YtlmklhffafcmmaaGreat

/- The function wide.isDecimal. -/
namespace Go.Proofs.YtlmklhffafcmmaaGreat
open Go.RowKit

/-- A text without a minus sign in front; whether it has one. -/
def ds (s : ByteArray) : ByteArray := ⟨(Lib.trimPrefix s.data.toList [45]).toArray⟩
def dneg (s : ByteArray) : Bool := Lib.hasPrefix s.data.toList [45]
/-- All bytes are decimal digits. -/
def AllD (d : ByteArray) : Prop := ∀ k (h : k < d.size), 48 ≤ d[k].toNat ∧ d[k].toNat ≤ 57
instance (d : ByteArray) : Decidable (AllD d) := Nat.decidableBallLT _ _
def DecT (s : ByteArray) : Prop := s.toList = [48] ∨ ((∃ h : 0 < (ds s).size, (ds s)[0].toNat ≠ 48) ∧ AllD (ds s))

theorem ds_size (s : ByteArray) : (ds s).size ≤ s.size := by
  show (Lib.trimPrefix s.data.toList [45]).toArray.size ≤ s.data.size
  unfold Lib.trimPrefix
  split <;> simp

set_option maxRecDepth 100000 in
set_option maxHeartbeats 1000000 in
theorem isDecimal_any (s : ByteArray) (b : Bool) (w : World) (hs : s.size ≤ 1000000000) (hb : b = true ↔ DecT s) :
    Calls Tryz.prog 123 #[.string s] w fun e w' => e = .returned (.bool b) ∧ w = w' := by
  have HTp : Hid (∀ w, Calls Tryz.prog 167 #[.string s, .string ⟨#[45]⟩] w fun e w' => e = .returned (.string (ds s)) ∧ w' = w) := fun w => Tryz.strings_TrimPrefix s ⟨#[45]⟩ w
  have hsz := ds_size s
  have HB : Hid (b = true ↔ DecT s) := hb
  clear hb
  by_cases h1 : s.toList = [48]
  · have e1 : (s.toList == [48]) = true := by rw [h1]; rfl
    have hT : Hid (b = true) := HB.out.2 (Or.inl h1)
    clear h1
    go_enter Tryz.func123, Tryz.ntmps123
    go_wp2
    go_ret
    exact ⟨by rw [hT.out]; rfl, rfl⟩
  · have e1 : (s.toList == [48]) = false := by simpa using h1
    have HB2 : Hid (b = true ↔ ((∃ h : 0 < (ds s).size, (ds s)[0].toNat ≠ 48) ∧ AllD (ds s))) := by
      refine HB.out.trans ⟨fun h => ?_, Or.inr⟩
      rcases h with h | h
      · exact absurd h h1
      · exact h
    clear HB h1
    generalize ds s = d at *
    rcases Nat.eq_zero_or_pos d.size with h0 | h0
    · have hF : Hid (b = false) := by
        cases hb : b with
        | false => rfl
        | true => obtain ⟨⟨h, _⟩, _⟩ := HB2.out.1 hb; omega
      have hd := empty_of h0
      subst hd
      clear HB2 h0 hsz
      go_enter Tryz.func123, Tryz.ntmps123
      go_wp2_with fail
      refine (HTp.out _).mono ?_
      rintro e w' ⟨rfl, rfl⟩
      go_wp2
      go_ret
      exact ⟨by rw [hF.out]; rfl, rfl⟩
    · have e2 : (d.toList == []) = false := by
        have h := nonempty_str d h0
        cases hd : d.toList with
        | nil => rw [hd] at h; simp at h
        | cons x l => rfl
      by_cases h48 : d[0].toNat = 48
      · have hF : Hid (b = false) := by
          cases hb : b with
          | false => rfl
          | true => obtain ⟨⟨h, g⟩, _⟩ := HB2.out.1 hb; exact absurd h48 g
        have e3 : ((d[0].toNat : Int) == 48) = true := by rw [h48]; rfl
        clear HB2 h48
        go_enter Tryz.func123, Tryz.ntmps123
        go_wp2_with fail
        refine (HTp.out _).mono ?_
        rintro e w' ⟨rfl, rfl⟩
        go_wp2
        go_ret
        exact ⟨by rw [hF.out]; rfl, rfl⟩
      · have e3 : ((d[0].toNat : Int) == 48) = false := by simp; omega
        have HB3 : Hid (b = true ↔ AllD d) := by
          refine HB2.out.trans ⟨fun h => h.2, fun h => ⟨⟨h0, h48⟩, h⟩⟩
        clear HB2 h48
        go_enter Tryz.func123, Tryz.ntmps123
        go_wp2_with fail
        refine (HTp.out _).mono ?_
        rintro e w' ⟨rfl, rfl⟩
        go_wp2
        go_loop [18] (fun i => ∃ k : Nat, k ≤ d.size ∧ i = .int .i64 k ∧ Hid (∀ j (h : j < d.size), j < k → 48 ≤ d[j].toNat ∧ d[j].toNat ≤ 57)) (fun i => d.size - (intOf i).toNat)
        case atStart => exact ⟨0, Nat.zero_le _, rfl, fun j h hj => absurd hj (Nat.not_lt_zero _)⟩
        case round =>
          obtain ⟨k, hk, rfl, hall⟩ := hrel
          by_cases hlt : k < d.size
          · obtain ⟨x, hx⟩ : ∃ x : Int, (d[k].toNat : Int) = x := ⟨_, rfl⟩
            by_cases hx1 : x < 48
            · have hF : Hid (b = false) := by
                cases hb : b with
                | false => rfl
                | true => have := HB3.out.1 hb k hlt; omega
              go_wp2
              go_ret
              exact ⟨by rw [hF.out]; rfl, rfl⟩
            · by_cases hx2 : 57 < x
              · have hF : Hid (b = false) := by
                  cases hb : b with
                  | false => rfl
                  | true => have := HB3.out.1 hb k hlt; omega
                go_wp2
                go_ret
                exact ⟨by rw [hF.out]; rfl, rfl⟩
              · have HS : Hid (∀ j (h : j < d.size), j < k + 1 → 48 ≤ d[j].toNat ∧ d[j].toNat ≤ 57) := by
                  intro j h hj
                  rcases Nat.lt_or_ge j k with g | g
                  · exact hall.out j h g
                  · obtain rfl : j = k := by omega
                    omega
                go_wp2
                go_round
                case rel => exact ⟨k + 1, by omega, by go_num, HS.out⟩
                case measure => simp [intOf]; omega
          · have hT : Hid (b = true) := HB3.out.2 fun j h => hall.out j h (by omega)
            go_wp2
            go_ret
            exact ⟨by rw [hT.out]; rfl, rfl⟩
end Go.Proofs.YtlmklhffafcmmaaGreat

/- Plain facts for wide.fromDigits: decimal digits, and the limbs that are written in place. -/
namespace Go.Proofs.YtlmklhffafcmmaaGreat
open Go.RowKit

/-- The number that decimal digits say, behind a number so far. -/
def dv : List UInt8 → Nat → Nat
  | [], a => a
  | x :: l, a => dv l (10 * a + (x.toNat - 48))
theorem dv_append (l m : List UInt8) (a : Nat) : dv (l ++ m) a = dv m (dv l a) := by
  induction l generalizing a with
  | nil => rfl
  | cons x l ih => exact ih _
theorem dv_eq (l : List UInt8) (a : Nat) : dv l a = a * 10 ^ l.length + dv l 0 := by
  induction l generalizing a with
  | nil => simp [dv]
  | cons x l ih =>
    simp only [dv, List.length_cons]
    rw [ih (10 * a + _), ih (10 * 0 + _), Nat.pow_succ]
    grind
theorem dv_lt (l : List UInt8) (h : ∀ x ∈ l, x.toNat ≤ 57) : dv l 0 < 10 ^ l.length := by
  induction l with
  | nil => simp [dv]
  | cons x l ih =>
    have h1 := ih (fun y hy => h y (List.mem_cons_of_mem _ hy))
    have h2 := h x (by simp)
    simp only [dv, List.length_cons]
    rw [dv_eq, Nat.pow_succ]
    have h3 : (10 * 0 + (x.toNat - 48)) * 10 ^ l.length ≤ 9 * 10 ^ l.length := Nat.mul_le_mul_right _ (by omega)
    omega
/-- The number of a decimal text. -/
def decv (d : ByteArray) : Nat := dv d.data.toList 0

/-- A limb written in place of another. -/
theorem own_set {w : World} {B n g cap k x : Nat} {l : List Nat} (h : w.ownsRow B 132 1 (.slice (some ⟨g, 0, none⟩) n cap) n (uv l)) :
    (w.setCell ⟨g, k, none⟩ (.int .u64 (x : Int))).ownsRow B 132 1 (.slice (some ⟨g, 0, none⟩) n cap) n (uv (l.set k x)) := by
  obtain ⟨h1, h2⟩ := h
  refine ⟨by rw [← uv_set]; simpa using h1, ?_⟩
  rcases h2 with ⟨h2, _⟩ | ⟨g2, cap2, cur, h2, hB, hg, hn, hm, hs, ht⟩
  · simp at h2
  · obtain rfl : g2 = g := by injection h2 with h3; injection h3 with h4; injection h4 with h5; exact h5.symm
    refine Or.inr ⟨g2, cap2, cur.setIfInBounds k (.int .u64 (x : Int)), h2, hB, heap_setCell_same w g2 k _ _ _ hg, hn, hm, by simpa using hs, ?_⟩
    rw [← uv_set, ← ht, Array.toList_setIfInBounds, List.take_set]
theorem own_cell {w : World} {B n g cap k : Nat} {l : List Nat} (h : w.ownsRow B 132 1 (.slice (some ⟨g, 0, none⟩) n cap) n (uv l)) (hk : k < l.length) :
    w.cell? ⟨g, k, none⟩ = some (.int .u64 (l[k] : Int)) ∧ w.frozen? ⟨g, k, none⟩ = false := by
  have h1 := h.cells (g := g) rfl k (.int .u64 (l[k] : Int)) (uv_get l k hk)
  have hadd : ((⟨g, 0, none⟩ : Addr).add k) = ⟨g, k, none⟩ := by unfold Addr.add; split <;> simp_all
  rw [hadd] at h1
  refine ⟨h1, ?_⟩
  rcases h.2 with ⟨h2, _⟩ | ⟨g2, cap2, cur, h2, hB, hg, _⟩
  · simp at h2
  · have : g2 = g := by injection h2 with h3; injection h3 with h4; injection h4 with h5; exact h5.symm
    subst this
    exact frozen_of_row w g2 k _ _ hg
theorem Rd.of_own {w : World} {B : Nat} {v : Value} {l : List Nat} (h : w.ownsRow B 132 1 v l.length (uv l)) : Rd w v l := by
  rcases h.2 with ⟨rfl, h0⟩ | ⟨g, cap, cur, rfl, hB, hg, hn, hm, hs, ht⟩
  · rw [List.eq_nil_of_length_eq_zero h0]; exact Rd.nil w
  · refine ⟨some ⟨g, 0, none⟩, g, 0, cap, rfl, hn, hm, fun _ => rfl, Or.inr ⟨rfl, lt_of_block hg⟩, fun k hk => ?_⟩
    rw [Nat.zero_add]
    exact (own_cell h hk).1

/-- One pass over the limbs: what stands behind k rounds, and the carry. -/
def FdInv (X : List Nat) (y c0 k cn : Nat) (s : List Nat) : Prop :=
  s.length = k ∧ Nm.Dig W s ∧ cn < W ∧ Nm.val W s + W ^ k * cn = y * Nm.val W (X.take k) + c0
theorem FdInv.start {X : List Nat} {y c0 : Nat} (h : c0 < W) : FdInv X y c0 0 c0 [] := ⟨rfl, Nm.dig_nil W, h, by simp [Nm.val]⟩
theorem FdInv.step {X s : List Nat} {y c0 k cn : Nat} (h : FdInv X y c0 k cn s) (hk : k < X.length) (dx : X[k] < W) (dy : y < W) : FdInv X y c0 (k + 1) (mh X[k] y cn) (s ++ [ml X[k] y cn]) := by
  obtain ⟨h1, h2, h3, h4⟩ := h
  refine ⟨by simp [h1], Nm.dig_append.2 ⟨h2, Nm.dig_cons.2 ⟨ml_lt _ _ _, Nm.dig_nil W⟩⟩, mh_lt _ _ _ dx dy h3, ?_⟩
  rw [Nm.val_snoc, h1, Nm.val_take_succ W X k hk, Nat.pow_succ]
  have e1 := mlh X[k] y cn
  generalize mh X[k] y cn = p at *
  generalize ml X[k] y cn = q at *
  generalize W ^ k = P at *
  have e4 : P * (q + W * p) = P * (X[k] * y + cn) := by rw [e1]
  grind
theorem FdInv.finish {V y c0 cn : Nat} {s : List Nat} (h : FdInv (Nm.dg W V) y c0 (Nm.dg W V).length cn s) (hy : 0 < y) :
    (cn = 0 → s = Nm.dg W (y * V + c0)) ∧ (0 < cn → s ++ [cn] = Nm.dg W (y * V + c0)) := by
  obtain ⟨h1, h2, h3, h4⟩ := h
  rw [List.take_length, Nm.val_dg W2] at h4
  constructor
  · intro h0
    subst h0
    rw [Nat.mul_zero, Nat.add_zero] at h4
    rw [← h4]
    refine Nm.eq_dg W2 h2 ?_
    cases hs : s with
    | nil => trivial
    | cons z zs =>
      rw [← hs]
      refine Nm.nrm_of_val h2 ?_
      rw [h4, h1]
      have hne : Nm.dg W V ≠ [] := by intro e; rw [e, hs] at h1; simp at h1
      have h6 := Nm.val_pos (B := W) (Nm.nrm_dg W2 V) hne
      rw [Nm.val_dg W2] at h6
      have h7 : 1 * V ≤ y * V := Nat.mul_le_mul_right _ hy
      omega
  · intro h0
    have e : Nm.val W (s ++ [cn]) = y * V + c0 := by rw [Nm.val_snoc, h1, h4]
    rw [← e]
    exact Nm.eq_dg W2 (Nm.dig_append.2 ⟨h2, Nm.dig_cons.2 ⟨h3, Nm.dig_nil W⟩⟩) (Nm.nrm_snoc _ _ (by omega))

/-- A round's bytes are digits, and nothing wraps. -/
theorem fd_digit {pi ci x : Int} (h1 : 0 ≤ pi) (h2 : pi ≤ 1000000000000000000) (h3 : 0 ≤ ci) (h4 : ci < pi) (h5 : 48 ≤ x) (h6 : x ≤ 57) :
    IntKind.u64.wrap (10 * pi) = 10 * pi ∧ IntKind.u64.wrap (10 * ci) = 10 * ci ∧ IntKind.u8.wrap (x - 48) = x - 48 ∧ IntKind.u64.wrap (x - 48) = x - 48 ∧ IntKind.u64.wrap (10 * ci + (x - 48)) = 10 * ci + (x - 48) := by
  refine ⟨?_, ?_, ?_, ?_, ?_⟩ <;> (unfold IntKind.wrap; simp [IntKind.bits, IntKind.signed]; try omega)

theorem dv_take (l : List UInt8) (k : Nat) (h : k < l.length) : dv (l.take (k + 1)) 0 = 10 * dv (l.take k) 0 + (l[k].toNat - 48) := by
  rw [List.take_succ_eq_append_getElem h, dv_append]; rfl
theorem AllD.drop {d : ByteArray} (h : AllD d) (k : Nat) (hk : k ≤ d.size) : AllD (d.extract k d.size) := by
  intro j hj
  have h1 : k + j < d.size := by simp at hj; omega
  have e : (d.extract k d.size)[j] = d[k + j] := by
    simp only [ByteArray.getElem_eq_getElem_data, ByteArray.data_extract, Array.getElem_extract]
  rw [e]
  exact h _ h1
theorem extract_list (d : ByteArray) (k : Nat) : (d.extract k d.size).data.toList = d.data.toList.drop k := by
  rw [ByteArray.data_extract, Array.toList_extract, List.extract_eq_take_drop]
  apply List.take_of_length_le
  rw [List.length_drop]
  exact Nat.le_refl _
theorem AllD.list {d : ByteArray} (h : AllD d) : ∀ x ∈ d.data.toList, x.toNat ≤ 57 := by
  intro x hx
  obtain ⟨k, hk, rfl⟩ := List.mem_iff_getElem.1 hx
  exact (h k hk).2
/-- A chunk is taken in: the number so far by a power of 10, and the chunk. -/
theorem fd_val (d : ByteArray) (V k : Nat) (hk : k ≤ d.size) : dv d.data.toList V = dv (d.extract k d.size).data.toList (10 ^ k * V + dv (d.data.toList.take k) 0) := by
  rw [extract_list]
  have e : d.data.toList = d.data.toList.take k ++ d.data.toList.drop k := (List.take_append_drop k _).symm
  have hl : (d.data.toList.take k).length = k := by
    have : d.data.toList.length = d.size := rfl
    simp; omega
  calc dv d.data.toList V = dv (d.data.toList.take k ++ d.data.toList.drop k) V := by rw [← e]
    _ = _ := by rw [dv_append, dv_eq (d.data.toList.take k) V, hl, Nat.mul_comm]
theorem fd_chunk {d : ByteArray} (h : AllD d) (k : Nat) (hk : k ≤ d.size) : dv (d.data.toList.take k) 0 < 10 ^ k := by
  have hl : (d.data.toList.take k).length = k := by
    have : d.data.toList.length = d.size := rfl
    simp; omega
  have := dv_lt (d.data.toList.take k) (fun x hx => h.list x (List.mem_of_mem_take hx))
  rwa [hl] at this
theorem fd_bound {V y c n k : Nat} (h : V < 10 ^ n) (hy : y = 10 ^ k) (hc : c < 10 ^ k) : y * V + c < 10 ^ (n + k) := by
  rw [Nat.pow_add, hy]
  have h2 : (V + 1) * 10 ^ k ≤ 10 ^ n * 10 ^ k := Nat.mul_le_mul_right _ h
  grind
theorem dg_len_pow {V n : Nat} (h : V < 10 ^ n) : (Nm.dg W V).length ≤ n := by
  refine Nm.len_le_of_val W2 (Nm.nrm_dg W2 V) ?_
  rw [Nm.val_dg W2]
  exact Nat.lt_of_lt_of_le h (Nat.pow_le_pow_left (by decide) n)
end Go.Proofs.YtlmklhffafcmmaaGreat

/- The function wide.fromDigits. -/
namespace Go.Proofs.YtlmklhffafcmmaaGreat
open Go.RowKit

theorem seg0_get (l s : List Nat) (k : Nat) (hs : s.length = k) (h : k < l.length) (h2 : k < (s ++ l.drop k).length) : (s ++ l.drop k)[k] = l[k] := by
  rw [List.getElem_append_right (by omega), List.getElem_drop]
  congr 1
  omega
theorem seg0_set (l s : List Nat) (k z : Nat) (hs : s.length = k) (h : k < l.length) : (s ++ l.drop k).set k z = (s ++ [z]) ++ l.drop (k + 1) := by
  rw [List.set_append_right _ _ (by omega), List.drop_eq_getElem_cons h, hs, Nat.sub_self, List.set_cons_zero, List.append_assoc]
  rfl
/-- The text behind the first chunk, and the number with it. -/
theorem fd_rest {d sfx : ByteArray} {V Z k y c : Nat} (hk : k ≤ sfx.size) (hsz : sfx.size ≤ d.size) (hval : dv sfx.data.toList V = Z) (hall : AllD sfx) (hV : V < 10 ^ (d.size - sfx.size)) (hy : 10 ^ k = y) (hc : dv (sfx.data.toList.take k) 0 = c) :
    (sfx.extract k sfx.size).size + k = sfx.size ∧ dv (sfx.extract k sfx.size).data.toList (y * V + c) = Z ∧ AllD (sfx.extract k sfx.size) ∧ y * V + c < 10 ^ (d.size - (sfx.extract k sfx.size).size) := by
  have h1 : (sfx.extract k sfx.size).size + k = sfx.size := by simp; omega
  refine ⟨h1, ?_, hall.drop k hk, ?_⟩
  · rw [← hval, fd_val sfx V k hk, hy, hc]
  · have hcc := fd_chunk hall k hk
    rw [hc] at hcc
    have h2 := fd_bound hV hy.symm hcc
    rwa [show d.size - sfx.size + k = d.size - (sfx.extract k sfx.size).size by omega] at h2

def szOf : Value → Nat
  | .string s => s.size
  | _ => 0

set_option maxRecDepth 100000 in
set_option maxHeartbeats 4000000 in
theorem fromDigits_any (d : ByteArray) (w : World) (hd : AllD d) (hs : d.size ≤ 1000000) :
    Calls Tryz.prog 125 #[.string d] w (Gives (decv d) w) := by
  obtain ⟨Z, hZ⟩ : ∃ Z, decv d = Z := ⟨_, rfl⟩
  rw [hZ]
  have hi81 : (Tryz.prog.info? 132).map (fun i => (i.zero, i.size, i.bytes)) = some (some (.int .u64 0), 1, 8) := by kernel_rfl
  obtain ⟨i0, hi0, hz0, hz1, hz2⟩ := info_parts hi81
  have HI := Lib.hid (And.intro hi0 (And.intro hz0 (And.intro hz1 hz2)))
  have HD := Lib.hid hd
  have HZ := Lib.hid hZ
  clear hd hZ hi81 hi0 hz0 hz1 hz2
  go_enter Tryz.func125, Tryz.ntmps125
  go_wp2
  go_loopw [0, 3, 4, 5, 6, 7] (fun sv lv _ _ _ _ wr => ∃ (wz : World) (sfx : ByteArray) (V n : Nat), wz = wr ∧ sv = .string sfx ∧ sfx.size ≤ d.size ∧ n ≤ 1000000 ∧ Hid (n = (Nm.dg W V).length) ∧ Hid (dv sfx.data.toList V = Z) ∧ Hid (AllD sfx) ∧ Hid (V < 10 ^ (d.size - sfx.size)) ∧ Hid (wz.ownsRow w.heap.size 132 1 lv n (uv (Nm.dg W V))) ∧ Hid (Below w.heap.size w wz))
    (fun sv _ _ _ _ _ _ => szOf sv)
  case atStart =>
    exact ⟨w, d, 0, 0, rfl, rfl, Nat.le_refl _, Nat.zero_le _, rfl, HZ.out, HD.out, by show _ < _; rw [Nat.sub_self]; decide, World.ownsRow_nil _ _ _ _, Below.refl _ _⟩
  case round =>
    obtain ⟨wz, sfx, V, n, rfl, rfl, hsz, hn6, hn, hval, hall, hV, hown, hbl⟩ := hrel
    clear HD HZ
    rcases Nat.eq_zero_or_pos sfx.size with h0 | h0
    · obtain rfl := empty_of h0
      have HV : Hid (V = Z) := hval.out
      have HR : Hid (Rd wz _ (Nm.dg W V)) := Rd.of_own (by have h5 := hown.out; rw [hn.out] at h5; exact h5)
      clear hval hall hV hown hn hn6 hsz h0
      go_wp2
      go_ret
      exact ⟨_, rfl, by rw [← HV.out]; exact HR.out, hbl.out⟩
    · have hne : sfx.toList.isEmpty = false := by
        have h := nonempty_str sfx h0
        cases hd : sfx.toList with
        | nil => rw [hd] at h; simp at h
        | cons x l => rfl
      obtain ⟨pl, gl, cl, rfl, hncl, hgl⟩ := own_form hown.out
      have HGL := Lib.hid hgl
      clear hgl
      obtain ⟨sm, hsm⟩ : ∃ sm : Nat, (sfx.size - 1) % 19 = sm := ⟨_, rfl⟩
      have hmod : ((sfx.size : Int) - 1) % 19 = (sm : Int) := by omega
      have hsm1 : sm < 19 := by omega
      have hsm2 : sm + 1 ≤ sfx.size := by have := Nat.mod_le (sfx.size - 1) 19; omega
      clear hsm
      go_wp2
      go_loopw [5, 6, 18] (fun pv cv iv wr => ∃ (nd k : Nat) (pi ci : Int), wr = wz.drewN nd ∧ k ≤ sm + 1 ∧ iv = .int .i64 (k : Int) ∧ pv = .int .u64 pi ∧ cv = .int .u64 ci ∧ 0 ≤ pi ∧ 0 ≤ ci ∧ ci < pi ∧ Hid (pi = ((10 ^ k : Nat) : Int)) ∧ Hid (ci = ((dv (sfx.data.toList.take k) 0 : Nat) : Int)))
        (fun _ _ iv _ => sm + 1 - (intOf iv).toNat)
      case atStart => exact ⟨0, 0, 1, 0, rfl, Nat.zero_le _, rfl, rfl, rfl, by omega, by omega, by omega, rfl, rfl⟩
      case round =>
        obtain ⟨nd, k, pi, ci, rfl, hk, rfl, rfl, rfl, hp0, hc0, hcp, hpi, hci⟩ := hrel
        by_cases hlt : k < sm + 1
        · have hks : k < sfx.size := by omega
          obtain ⟨x, hx⟩ : ∃ x : Int, (sfx[k].toNat : Int) = x := ⟨_, rfl⟩
          have hx1 := hall.out k hks
          have hp18 : pi ≤ 1000000000000000000 := by
            have h5 : pi = ((10 ^ k : Nat) : Int) := hpi.out
            have h6 : 10 ^ k ≤ 10 ^ 18 := Nat.pow_le_pow_right (by decide) (by omega)
            have h7 : (10 : Nat) ^ 18 = 1000000000000000000 := by decide
            omega
          obtain ⟨e1, e2, e3, e4, e5⟩ := fd_digit hp0 hp18 hc0 hcp (x := x) (by omega) (by omega)
          have HP : Hid (10 * pi = ((10 ^ (k + 1) : Nat) : Int)) := by
            show _ = _
            rw [hpi.out, Nat.pow_succ]; simp; omega
          have HC : Hid (10 * ci + (x - 48) = ((dv (sfx.data.toList.take (k + 1)) 0 : Nat) : Int)) := by
            show _ = _
            have hkl : k < sfx.data.toList.length := hks
            rw [dv_take _ k hkl, hci.out, ← hx]
            have e : sfx.data.toList[k].toNat = sfx[k].toNat := rfl
            rw [e]
            omega
          have HB1 : Hid (0 ≤ 10 * ci + (x - 48) ∧ 10 * ci + (x - 48) < 10 * pi) := by show _ ∧ _; omega
          clear hx1 hp18
          go_wp2
          go_quiet (fail)
          go_wp2
          go_roundw
          case rel => exact ⟨_, k + 1, 10 * pi, 10 * ci + (x - 48), rfl, by omega, by go_num, rfl, rfl, by omega, HB1.out.1, HB1.out.2, HP, HC⟩
          case measure => simp [intOf]; omega
        · have hke : k = sm + 1 := by omega
          obtain ⟨y, hy⟩ : ∃ y : Nat, 10 ^ (sm + 1) = y := ⟨_, rfl⟩
          obtain ⟨c0, hc0e⟩ : ∃ c0 : Nat, dv (sfx.data.toList.take (sm + 1)) 0 = c0 := ⟨_, rfl⟩
          obtain rfl : pi = (y : Int) := by rw [hpi.out, hke, hy]
          obtain rfl : ci = (c0 : Int) := by rw [hci.out, hke, hc0e]
          have hyW : Hid (y < W) := by
            show _ < _
            have h6 : 10 ^ (sm + 1) ≤ 10 ^ 19 := Nat.pow_le_pow_right (by decide) (by omega)
            have h7 : (10 : Nat) ^ 19 = 10000000000000000000 := by decide
            unfold W
            omega
          have hcW : Hid (c0 < W) := by have h5 := hyW.out; show _ < _; omega
          have hy0 : Hid (0 < y) := by show _ < _; omega
          have HRest := Lib.hid (fd_rest hsm2 hsz hval.out hall.out hV.out hy hc0e)
          have HOW0 : Hid ((wz.drewN nd).ownsRow w.heap.size 132 1 (.slice pl n cl) n (uv (Nm.dg W V))) := hown.out
          have HBL0 : Hid (Below w.heap.size w (wz.drewN nd)) := ⟨hbl.out.os, hbl.out.tape, hbl.out.output, hbl.out.size, hbl.out.block⟩
          clear hy hc0e hpi hci hp0 hc0 hcp hk hval hall hV hown hbl hke
          go_wp2
          clear hmod hlt
          go_loopw [6, 8, 9, 37] (fun cv _ _ jv wr => ∃ (wy : World) (k cn : Nat) (s : List Nat), wy = wr ∧ k ≤ n ∧ jv = .int .i64 (k : Int) ∧ cv = .int .u64 (cn : Int) ∧ Hid (FdInv (Nm.dg W V) y c0 k cn s) ∧
              Hid (wy.ownsRow w.heap.size 132 1 (.slice pl n cl) n (uv (s ++ (Nm.dg W V).drop k))) ∧ Hid (Below w.heap.size w wy))
            (fun _ _ _ jv _ => n - (intOf jv).toNat)
          case atStart =>
            exact ⟨_, 0, c0, [], rfl, Nat.zero_le _, rfl, rfl, FdInv.start hcW.out, HOW0.out, HBL0.out⟩
          case round =>
            clear HOW0 HBL0
            obtain ⟨wy, k, cn, s, rfl, hk, rfl, rfl, hinv, hown, hbl⟩ := hrel
            by_cases hlt : k < n
            · obtain ⟨rfl, hgl1, _⟩ := HGL.out (by omega)
              have hX : k < (Nm.dg W V).length := by have h5 : n = (Nm.dg W V).length := hn.out; omega
              have hsl := hinv.out.1
              have hkl : k < (s ++ (Nm.dg W V).drop k).length := by simp; omega
              have hdx := Nm.dig_get (Nm.dig_dg W2 V) k hX
              obtain ⟨e1, e2⟩ := own_cell hown.out hkl
              rw [seg0_get _ s k hsl hX hkl] at e1
              have HST := Lib.hid (hinv.out.step hX hdx hyW.out)
              have HOW := Lib.hid (own_set (k := k) (x := ml (Nm.dg W V)[k] y cn) hown.out)
              have HSS := Lib.hid (seg0_set (Nm.dg W V) s k (ml (Nm.dg W V)[k] y cn) hsl hX)
              rw [HSS.out] at HOW
              have HMM := Lib.hid (fun w => mulAdd_any (Nm.dg W V)[k] y cn hdx hyW.out hinv.out.2.2.1 w)
              have hkc : k < cl := by omega
              have HBL : Hid (Below w.heap.size w (wy.setCell ⟨gl, k, none⟩ (.int .u64 (ml (Nm.dg W V)[k] y cn : Int)))) := hbl.out.setCell (p := ⟨gl, k, none⟩) (hown.out.lt _ rfl).1 _
              clear HSS hinv hown hdx hsl hkl hbl
              generalize ml (Nm.dg W V)[k] y cn = mlo at *
              generalize mh (Nm.dg W V)[k] y cn = mhi at *
              generalize (Nm.dg W V)[k] = xk at *
              go_wp2_with (go_at_call 169; (with_reducible refine (HMM.out _).mono ?_); rintro e w2 ⟨rfl, rfl⟩)
              go_roundw
              case rel => exact ⟨_, k + 1, mhi, _, rfl, by omega, by go_num, rfl, HST, HOW, HBL⟩
              case measure => simp [intOf]; omega
            · obtain rfl : n = k := by omega
              have HF : Hid ((cn = 0 → s = Nm.dg W (y * V + c0)) ∧ (0 < cn → s ++ [cn] = Nm.dg W (y * V + c0))) := by
                have h5 := hinv.out
                rw [hn.out] at h5
                exact h5.finish hy0.out
              have HS : Hid (s.length = n) := hinv.out.1
              have HD : Hid ((Nm.dg W V).drop n = []) := List.drop_of_length_le (by have h5 : n = (Nm.dg W V).length := hn.out; omega)
              have HL := Lib.hid (dg_len_pow HRest.out.2.2.2)
              rw [HD.out, List.append_nil] at hown
              obtain ⟨V2, hV2⟩ : ∃ V2, y * V + c0 = V2 := ⟨_, rfl⟩
              rw [hV2] at HF HRest HL
              clear hV2 hinv hk HD
              rcases Nat.eq_zero_or_pos cn with h0c | h0c
              · subst h0c
                have HL2 : Hid (n = (Nm.dg W V2).length) := by show _ = _; rw [← HF.out.1 rfl]; exact HS.out.symm
                rw [HF.out.1 rfl] at hown
                clear HF HS
                go_wp2
                go_roundw
                case rel => exact ⟨wy, sfx.extract (sm + 1) sfx.size, V2, n, rfl, rfl, by have h5 := HRest.out.1; omega, hn6, HL2, HRest.out.2.1, HRest.out.2.2.1, HRest.out.2.2.2, hown, hbl⟩
                case measure => have h5 := HRest.out.1; simp only [szOf]; omega
              · have HL2 : Hid (n + 1 = (Nm.dg W V2).length) := by
                  show _ = _
                  have h5 : s.length = n := HS.out
                  rw [← HF.out.2 h0c]; simp [h5]
                have HU : Hid (uv s ++ [Value.int .u64 (cn : Int)] = uv (Nm.dg W V2)) := by
                  show _ = _
                  rw [← HF.out.2 h0c]; simp [uv]
                have hn1 : n + 1 ≤ 1000000 := by have h5 : n + 1 = (Nm.dg W V2).length := HL2.out; have h6 := HL.out; omega
                have hcpos : (0 : Int) < (cn : Int) := by omega
                clear HF HS HL hn6
                go_wp2_with (at_builtin; refine wpList_append_own _ rfl _ _ 84 rfl w.heap.size 132 i0 (.int .u64 0) 1 8 Tryz.underlying84 HI.out.1 HI.out.2.1 HI.out.2.2.1 HI.out.2.2.2 rfl (by decide) _ _ _ rfl (hown.out.alloc _) ⟨wy.heap.size, 0, none⟩ 1 1 [.int .u64 (cn : Int)] rfl rfl ?fc1 ?fc2 ?fc3 ?fc4 ?fc5 ?_)
                case fc1 => exact one_cell (by simp [go_sem])
                case fc2 => intro u hu; simp at hu; subst hu; rfl
                case fc3 => unfold maxLen; omega
                case fc4 => omega
                case fc5 => have h5 := hbl.out.size; simp; omega
                intro v' w2 hown1 hgrow1 _
                rw [HU.out] at hown1
                have hbl1 : Hid (Below w.heap.size w w2) := (hbl.out.alloc hbl.out.size _).grown hgrow1 (by have h5 := hbl.out.size; simp; omega) (fun q hq => (hown.out.lt q hq).1)
                have hown2 : Hid (w2.ownsRow w.heap.size 132 1 v' (n + 1) (uv (Nm.dg W V2))) := hown1
                clear hown1 hgrow1 hbl hown HU
                go_wp2
                go_roundw
                case rel => exact ⟨w2, sfx.extract (sm + 1) sfx.size, V2, n + 1, rfl, rfl, by have h5 := HRest.out.1; omega, hn1, HL2, HRest.out.2.1, HRest.out.2.2.1, HRest.out.2.2.2, hown2, hbl1⟩
                case measure => have h5 := HRest.out.1; simp only [szOf]; omega
end Go.Proofs.YtlmklhffafcmmaaGreat

/- The function wide.Parse. -/
namespace Go.Proofs.YtlmklhffafcmmaaGreat
open Go.RowKit

theorem decT_all {s : ByteArray} (h : DecT s) : AllD (ds s) := by
  rcases h with h | h
  · rw [ByteArray.toList_eq] at h
    have e : ds s = ⟨#[48]⟩ := by unfold ds; rw [h]; rfl
    rw [e]
    decide
  · exact h.2
theorem decv_lt {d : ByteArray} (h : AllD d) : decv d < 10 ^ d.size := dv_lt _ h.list

set_option maxRecDepth 100000 in
set_option maxHeartbeats 1000000 in
theorem Parse_bad (s : ByteArray) (w : World) (hs : s.size ≤ 1000000000) (hd : ¬ DecT s) :
    Calls Tryz.prog 57 #[.string s] w (WPost (wd false 0) 6 w) := by
  have HD := Lib.hid (fun w => isDecimal_any s false w hs (by simp [hd]))
  clear hd
  have HZ := Lib.hid (below_one w (.cells #[.bool false, .string ⟨#[]⟩] 23))
  go_enter Tryz.func57, Tryz.ntmps57
  go_wp2_with fail
  refine (HD.out _).mono ?_
  rintro e wa ⟨rfl, rfl⟩
  go_wp2
  exact bodyPost_ret (v := .tuple #[.agg #[.bool false, .string ⟨#[]⟩], .int .i64 6]) (by simp [results, Tryz.results57, go_sem]) rfl ⟨by rw [wd, bs_zero]; simp, HZ.out⟩

set_option maxRecDepth 100000 in
set_option maxHeartbeats 1000000 in
theorem Parse_long (s : ByteArray) (w : World) (hs : s.size ≤ 1000000000) (hd : DecT s) (hl : 19729 < (ds s).size) :
    Calls Tryz.prog 57 #[.string s] w (WPost (wd false 0) 7 w) := by
  have HD := Lib.hid (fun w => isDecimal_any s true w hs (by simp [hd]))
  have HC : Hid (∀ w, Calls Tryz.prog 124 #[.string s, .string ⟨#[45]⟩] w fun e w' => e = .returned (.tuple #[.string (ds s), .bool (dneg s)]) ∧ w' = w) := fun w => Tryz.strings_CutPrefix s ⟨#[45]⟩ w
  clear hd
  have HZ := Lib.hid (below_one w (.cells #[.bool false, .string ⟨#[]⟩] 23))
  have h2 := ds_size s
  generalize ds s = d at *
  generalize dneg s = ng at *
  go_enter Tryz.func57, Tryz.ntmps57
  go_wp2_with fail
  refine (HD.out _).mono ?_
  rintro e wa ⟨rfl, rfl⟩
  go_wp2_with fail
  refine (HC.out _).mono ?_
  rintro e wa ⟨rfl, rfl⟩
  go_wp2
  exact bodyPost_ret (v := .tuple #[.agg #[.bool false, .string ⟨#[]⟩], .int .i64 7]) (by simp [results, Tryz.results57, go_sem]) rfl ⟨by rw [wd, bs_zero]; simp, HZ.out⟩

set_option maxRecDepth 100000 in
set_option maxHeartbeats 1000000 in
theorem Parse_ok (s : ByteArray) (w : World) (hs : s.size ≤ 1000000000) (hd : DecT s) (hl : (ds s).size ≤ 19729) :
    Calls Tryz.prog 57 #[.string s] w (WPost (wres (dneg s) (decv (ds s))) (werr (decv (ds s))) w) := by
  have HD := Lib.hid (fun w => isDecimal_any s true w hs (by simp [hd]))
  have HC : Hid (∀ w, Calls Tryz.prog 124 #[.string s, .string ⟨#[45]⟩] w fun e w' => e = .returned (.tuple #[.string (ds s), .bool (dneg s)]) ∧ w' = w) := fun w => Tryz.strings_CutPrefix s ⟨#[45]⟩ w
  have hall := decT_all hd
  have HF := Lib.hid (fun w => fromDigits_any (ds s) w hall (by omega))
  have HW := Lib.hid (fun v w h => write_any (dneg s) v (decv (ds s)) w h (Nat.le_trans (dg_len_pow (decv_lt hall)) (by omega)))
  obtain ⟨rb, rs, hr⟩ := wres_form (dneg s) (decv (ds s))
  rw [hr] at HW ⊢
  clear hd hall hr
  generalize werr (decv (ds s)) = rc at *
  generalize decv (ds s) = m at *
  have h2 := ds_size s
  generalize ds s = d at *
  generalize dneg s = ng at *
  obtain ⟨w0, hw0⟩ : ∃ w0 : World, w0 = w.alloc (.cells #[.bool false, .string ⟨#[]⟩] 23) := ⟨_, rfl⟩
  have hb0 : Hid (Below w.heap.size w w0) := by rw [hw0]; exact below_one _ _
  have k4 : w0.cell? ⟨w.heap.size, 0, none⟩ = some (.bool false) := by rw [hw0]; simp [go_sem]
  have k5 : w0.cell? ⟨w.heap.size, 1, none⟩ = some (.string ⟨#[]⟩) := by rw [hw0]; simp [go_sem]
  have k6 : w0.frozen? ⟨w.heap.size, 0, none⟩ = false := by rw [hw0]; simp [go_sem]
  have k7 : w0.frozen? ⟨w.heap.size, 1, none⟩ = false := by rw [hw0]; simp [go_sem]
  have KK := Lib.hid (And.intro k4 (And.intro k5 (And.intro k6 k7)))
  have Hw0 := Lib.hid hw0
  clear hw0 k4 k5 k6 k7
  go_enter Tryz.func57, Tryz.ntmps57
  go_wp2_with fail
  rw [← Hw0.out]
  refine (HD.out _).mono ?_
  rintro e wa ⟨rfl, rfl⟩
  go_wp2_with fail
  refine (HC.out _).mono ?_
  rintro e wa ⟨rfl, rfl⟩
  go_wp2_with fail
  refine (HF.out _).mono ?_
  rintro e w1 ⟨v1, rfl, r1, b1⟩
  have HR := Lib.hid r1
  have HB1 := Lib.hid b1
  obtain ⟨p9, b9, o9, c9, rfl, hr9⟩ := r1
  clear b1 hr9
  go_wp2_with fail
  refine (HW.out _ _ HR.out).mono ?_
  rintro e w2 ⟨rfl, b2⟩
  have c2 := chain HB1.out b2
  have q4 := keep1 c2 KK.out.1
  have q5 := keep1 c2 KK.out.2.1
  have q6 := keepf c2 KK.out.1 KK.out.2.2.1
  have q7 := keepf c2 KK.out.2.1 KK.out.2.2.2
  have HZ := Lib.hid (below_set2 (chain hb0.out c2) (Nat.le_refl w.heap.size) (.bool rb) (.string rs))
  clear b2 c2
  go_wp2
  exact bodyPost_ret (v := .tuple #[.agg #[.bool rb, .string rs], .int .i64 rc]) (by simp [results, Tryz.results57, go_sem, q4, q5]) rfl ⟨rfl, HZ.out⟩
end Go.Proofs.YtlmklhffafcmmaaGreat

/- wide.Quo by 0; the law's functions w and q. -/
namespace Go.Proofs.YtlmklhffafcmmaaGreat
open Go.RowKit

set_option maxRecDepth 100000 in
set_option maxHeartbeats 1000000 in
theorem Quo_zero (a b : Bool) (s : ByteArray) (w : World) (hv1 : vld a s = true) (hv2 : vld b ⟨#[]⟩ = true) :
    Calls Tryz.prog 53 #[.agg #[.bool a, .string s], .agg #[.bool b, .string ⟨#[]⟩]] w (Q3Post (wd false 0) (wd false 0) 3 w) := by
  have z1 := vld_size hv1
  have HV1 := Valid_any a s
  have HV2 := Valid_any b ⟨#[]⟩
  rw [hv1] at HV1
  rw [hv2] at HV2
  have HA := Lib.hid (fun w => HV1 w (by omega))
  have HB := Lib.hid (fun w => HV2 w (by decide))
  clear HV1 HV2 hv1 hv2
  obtain ⟨w0, hw0⟩ : ∃ w0 : World, w0 = (((w.alloc (.cells #[.bool a, .string s] 23)).alloc (.cells #[.bool b, .string ⟨#[]⟩] 23)).alloc (.cells #[.bool false, .string ⟨#[]⟩] 23)).alloc (.cells #[.bool false, .string ⟨#[]⟩] 23) := ⟨_, rfl⟩
  have hb0 : Hid (Below w.heap.size w w0) := by rw [hw0]; exact ((((Below.refl _ _).alloc (Nat.le_refl _) _).alloc (by simp) _).alloc (by simp; omega) _).alloc (by simp; omega) _
  have i2 : ZC (.bool b) (.string ⟨#[]⟩) w0 (w.heap.size + 1) := by rw [hw0]; refine ⟨?_, ?_, ?_, ?_⟩ <;> simp [go_sem]
  have i3 : ZC (.bool false) (.string ⟨#[]⟩) w0 (w.heap.size + 1 + 1) := by rw [hw0]; refine ⟨?_, ?_, ?_, ?_⟩ <;> simp [go_sem]
  have i4 : ZC (.bool false) (.string ⟨#[]⟩) w0 (w.heap.size + 1 + 1 + 1) := by rw [hw0]; refine ⟨?_, ?_, ?_, ?_⟩ <;> simp [go_sem]
  have I2 := Lib.hid i2
  have I3 := Lib.hid i3
  have I4 := Lib.hid i4
  have Hw0 := Lib.hid hw0
  clear i2 i3 i4 hw0
  go_enter Tryz.func53, Tryz.ntmps53
  go_wp2_with fail
  rw [← Hw0.out]
  refine (HA.out _).mono ?_
  rintro e wa ⟨rfl, ba⟩
  obtain ⟨q0, q1, _, _⟩ := I2.out.next ba
  have BA := Lib.hid ba
  clear ba
  go_wp2_with fail
  refine (HB.out _).mono ?_
  rintro e wb ⟨rfl, bb⟩
  have c := chain BA.out bb
  obtain ⟨k0, k1, _, _⟩ := I2.out.next c
  obtain ⟨m0, m1, m2, m3⟩ := I3.out.next c
  obtain ⟨n0, n1, n2, n3⟩ := I4.out.next c
  have HZ := Lib.hid (below_set2 (below_set2 (chain hb0.out c) (g := w.heap.size + 1 + 1) (by omega) (.bool false) (.string ⟨#[]⟩)) (g := w.heap.size + 1 + 1 + 1) (by omega) (.bool false) (.string ⟨#[]⟩))
  clear bb c q0 q1
  go_wp2
  exact bodyPost_ret (v := .tuple #[.agg #[.bool false, .string ⟨#[]⟩], .agg #[.bool false, .string ⟨#[]⟩], .int .i64 3]) (by simp [results, Tryz.results53, go_sem, m0, m1, n0, n1]) rfl ⟨by rw [wd, bs_zero]; simp, HZ.out⟩

/-- The wide integer of an integer comes back. -/
def ZPost (z : Int) (w : World) (e : Ending) (w' : World) : Prop := e = .returned (.agg #[.bool (zb z), .string (zs z)]) ∧ Below w.heap.size w w'
theorem wz_eq (z : Int) : wz z = .agg #[.bool (zb z), .string (zs z)] := by
  rw [wz, wd, zb, zs]
  by_cases hz : z < 0
  · have h1 : z.natAbs ≠ 0 := by omega
    simp [hz, h1]
  · simp [hz]

set_option maxRecDepth 100000 in
set_option maxHeartbeats 1000000 in
theorem w_any (z : Int) (w : World) (h1 : -9223372036854775808 ≤ z) (h2 : z ≤ 9223372036854775807) : Calls Tryz.prog 54 #[.int .i64 z] w (ZPost z w) := by
  have HN := Lib.hid (fun w => rnum_any z w h1 h2)
  have hl : (Nm.dg D9 z.natAbs).length ≤ 1000000 := by
    refine Nat.le_trans (Nm.len_le_of_val (k := 3) D92 (Nm.nrm_dg D92 _) ?_) (by decide)
    rw [Nm.val_dg D92]
    unfold D9
    omega
  have HT : Hid (∀ v w, Rz w v z → Calls Tryz.prog 119 #[iV z v] w fun e w' => e = .returned (.agg #[.bool (zb z), .string (zs z)]) ∧ Below w.heap.size w w') := fun v w h => by
    have := rto_int z v w h hl
    unfold ToPost at this
    rwa [wz_eq] at this
  unfold iV at HT
  obtain ⟨w0, hw0⟩ : ∃ w0 : World, w0 = w.alloc (.cells #[.bool false, .string ⟨#[]⟩] 23) := ⟨_, rfl⟩
  have hb0 : Hid (Below w.heap.size w w0) := by rw [hw0]; exact below_one _ _
  have I3 : Hid (ZC (.bool false) (.string ⟨#[]⟩) w0 w.heap.size) := by rw [hw0]; exact ZC.new rfl
  have Hw0 := Lib.hid hw0
  clear hw0 hl
  go_enter Tryz.func54, Tryz.ntmps54
  go_wp2_with fail
  rw [← Hw0.out]
  refine (HN.out _).mono ?_
  rintro e wa ⟨v1, rfl, r1, ba⟩
  have BA := Lib.hid ba
  have R1 := Lib.hid r1
  unfold iV
  clear ba r1
  go_wp2_with fail
  refine (HT.out _ _ R1.out).mono ?_
  rintro e wb ⟨rfl, bb⟩
  have c := chain BA.out bb
  obtain ⟨m0, m1, m2, m3⟩ := I3.out.next c
  have HZ := Lib.hid (below_set2 (chain hb0.out c) (Nat.le_refl w.heap.size) (.bool (zb z)) (.string (zs z)))
  clear bb c
  go_wp2
  exact bodyPost_ret (v := .agg #[.bool (zb z), .string (zs z)]) (by simp [results, Tryz.results54, go_sem, m0, m1]) rfl ⟨rfl, HZ.out⟩

/-- The ratio of two integers, as it stands. -/
def QZPost (x y : Int) (w : World) (e : Ending) (w' : World) : Prop := e = .returned (.agg #[.bool (zb x), .string (zs x), .bool (zb y), .string (zs y)]) ∧ Below w.heap.size w w'

set_option maxRecDepth 100000 in
set_option maxHeartbeats 1000000 in
theorem q_any (x y : Int) (w : World) (h1 : -9223372036854775808 ≤ x) (h2 : x ≤ 9223372036854775807) (h3 : -9223372036854775808 ≤ y) (h4 : y ≤ 9223372036854775807) : Calls Tryz.prog 60 #[.int .i64 x, .int .i64 y] w (QZPost x y w) := by
  have HX := Lib.hid (fun w => w_any x w h1 h2)
  have HY := Lib.hid (fun w => w_any y w h3 h4)
  unfold ZPost at HX HY
  unfold QZPost
  generalize zb x = xb at *
  generalize zs x = xs at *
  generalize zb y = yb at *
  generalize zs y = ys at *
  obtain ⟨w0, hw0⟩ : ∃ w0 : World, w0 = w.alloc (.cells #[.bool false, .string ⟨#[]⟩, .bool false, .string ⟨#[]⟩] 27) := ⟨_, rfl⟩
  have hb0 : Hid (Below w.heap.size w w0) := by rw [hw0]; exact below_one _ _
  have I3 : Hid (ZC4 (.bool false) (.string ⟨#[]⟩) (.bool false) (.string ⟨#[]⟩) w0 w.heap.size) := by rw [hw0]; exact ZC4.made0 w
  have Hw0 := Lib.hid hw0
  clear hw0
  go_enter Tryz.func60, Tryz.ntmps60
  go_wp2_with fail
  rw [← Hw0.out]
  refine (HX.out _).mono ?_
  rintro e wa ⟨rfl, ba⟩
  have BA := Lib.hid ba
  clear ba
  go_wp2_with fail
  refine (HY.out _).mono ?_
  rintro e wb ⟨rfl, bb⟩
  have c := chain BA.out bb
  obtain ⟨⟨m0, m1, m2, m3⟩, m4, m5, m6, m7⟩ := I3.out.next c
  have HZ := Lib.hid (below_set4 (chain hb0.out c) (Nat.le_refl w.heap.size) (.bool xb) (.string xs) (.bool yb) (.string ys))
  clear bb c
  go_wp2
  exact bodyPost_ret (v := .agg #[.bool xb, .string xs, .bool yb, .string ys]) (by simp [results, Tryz.results60, go_sem, m0, m1, m2, m3]) rfl ⟨rfl, HZ.out⟩
end Go.Proofs.YtlmklhffafcmmaaGreat

/- The reference's Bits, Big and Out; the law's function is. -/
namespace Go.Proofs.YtlmklhffafcmmaaGreat
open Go.RowKit

theorem field_mag (x : Bool) (s : ByteArray) (w : World) : (Instr.field 23 (.agg #[.bool x, .string s]) 1).run Tryz.prog w = .ok (.string s) w := by kernel_rfl
theorem bitLen_half : ∀ x < 256, x ≠ 0 → Lib.bitLen x = Lib.bitLen (x / 2) + 1 := by decide +kernel
theorem bitLen_0 : Lib.bitLen 0 = 0 := by decide

set_option maxRecDepth 100000 in
set_option maxHeartbeats 2000000 in
theorem rbits_int (z : Int) (v : Value) (w : World) (h : Rz w v z) (hl : (Nm.dg D9 z.natAbs).length ≤ 1000000) (hs : (zs z).size ≤ 100000000) :
    Calls Tryz.prog 105 #[iV z v] w (IPost (lenB (zs z)) w) := by
  have HT : Hid (∀ v w, Rz w v z → Calls Tryz.prog 119 #[iV z v] w fun e w' => e = .returned (.agg #[.bool (zb z), .string (zs z)]) ∧ Below w.heap.size w w') := fun v w h => by
    have := rto_int z v w h hl
    unfold ToPost at this
    rwa [wz_eq] at this
  have H0 := Lib.hid h
  obtain ⟨p, b1, o1, c1, rfl, hr⟩ := h
  clear hr hl
  unfold iV at HT ⊢
  generalize decide (z < 0) = bz at *
  generalize zb z = bb at *
  generalize zs z = s at *
  generalize (Nm.dg D9 z.natAbs).length = len at *
  obtain ⟨w0, hw0⟩ : ∃ w0 : World, w0 = w.alloc (.cells #[.bool bz, .slice p len c1] 38) := ⟨_, rfl⟩
  have hb0 : Hid (Below w.heap.size w w0) := by rw [hw0]; exact below_one _ _
  have R0 : Hid (Rz w0 (.slice p len c1) z) := Ri.below H0.out hb0.out (Nat.le_refl _)
  have Hw0 := Lib.hid hw0
  clear hw0 H0
  rcases Nat.eq_zero_or_pos s.size with h0 | h0
  · have E : Hid (lenB s = 0) := by show _ = _; unfold lenB; rw [dif_neg (by omega)]
    rw [E.out]
    have hz : ((s.size : Int) == 0) = true := beq_iff_eq.2 (by omega)
    have hfm := field_mag
    clear h0
    go_enter Tryz.func105, Tryz.ntmps105
    go_wp2_with fail
    rw [← Hw0.out]
    refine (HT.out _ _ R0.out).mono ?_
    rintro e wa ⟨rfl, ba⟩
    have HZ := Lib.hid (chain hb0.out ba)
    clear ba
    go_wp2
    go_ret
    exact ⟨rfl, HZ.out⟩
  · have hz : ((s.size : Int) == 0) = false := beq_eq_false_iff_ne.2 (by omega)
    have hfm := field_mag
    obtain ⟨x, hx⟩ : ∃ x : Nat, s[0].toNat = x := ⟨_, rfl⟩
    have hx2 : x < 256 := by rw [← hx]; exact UInt8.toNat_lt _
    have hxi : (s[0].toNat : Int) = (x : Int) := by rw [hx]
    have hwr : IntKind.i64.wrap (x : Int) = (x : Int) := by
      unfold IntKind.wrap
      simp [IntKind.bits, IntKind.signed]
      omega
    obtain ⟨T, hT⟩ : ∃ T : Int, lenB s = T := ⟨_, rfl⟩
    rw [hT]
    have hT2 : 8 * ((s.size : Int) - 1) + ((Lib.bitLen x : Nat) : Int) = T := by
      rw [← hT]
      unfold lenB
      rw [dif_pos h0, hx]
      omega
    have HTT := Lib.hid hT2
    have hT1 : T ≤ 900000000 := by
      have := bitLen_le64 x (Nat.lt_of_lt_of_le hx2 (by decide))
      omega
    clear hT hx hT2
    go_enter Tryz.func105, Tryz.ntmps105
    go_wp2_with fail
    rw [← Hw0.out]
    refine (HT.out _ _ R0.out).mono ?_
    rintro e wa ⟨rfl, ba⟩
    have HZ := Lib.hid (chain hb0.out ba)
    clear ba
    go_wp2
    go_loop [4, 5] (fun nv kv => ∃ (n kk : Int) (k : Nat), nv = .int .i64 n ∧ kv = .int .i64 kk ∧ 0 ≤ kk ∧ kk < 256 ∧ 0 ≤ n ∧ n ≤ T ∧ Hid (kk = (k : Int)) ∧ Hid (n + ((Lib.bitLen k : Nat) : Int) = T)) (fun _ kv => (intOf kv).toNat)
    case atStart => exact ⟨_, _, x, rfl, rfl, by omega, by omega, by omega, by have h5 := HTT.out; omega, rfl, HTT.out⟩
    case round =>
      obtain ⟨n, kk, k, rfl, rfl, hk1, hk2, hn0, hnT, hkk, hinv⟩ := hrel
      by_cases hk0 : kk = 0
      · have E2 : Hid (n = T) := by
          have h5 := hinv.out
          have h6 : kk = (k : Int) := hkk.out
          obtain rfl : k = 0 := by omega
          rw [bitLen_0] at h5
          show _ = _
          omega
        subst hk0
        go_wp2
        go_ret
        exact ⟨by rw [← E2.out]; rfl, HZ.out⟩
      · have hpos : 0 < kk := by omega
        have h6 : kk = (k : Int) := hkk.out
        have hst : Hid (n + 1 + ((Lib.bitLen (k / 2) : Nat) : Int) = T) := by
          have h5 := hinv.out
          rw [bitLen_half k (by omega) (by omega)] at h5
          show _ = _
          omega
        have hn1 : n + 1 ≤ T := by have h5 := hst.out; omega
        obtain ⟨k2, hk2e⟩ : ∃ k2 : Int, kk / 2 = k2 := ⟨_, rfl⟩
        have hk3 : 0 ≤ k2 := by omega
        have hk4 : k2 < 256 := by omega
        have hk5 : Hid (k2 = ((k / 2 : Nat) : Int)) := by show _ = _; omega
        have hk6 : Hid (k2 < kk) := by show _ < _; omega
        clear h6 hk0
        go_wp2
        go_round
        case rel => exact ⟨n + 1, k2, k / 2, rfl, by first | rfl | rw [hk2e], hk3, hk4, by omega, hn1, hk5, hst⟩
        case measure => have h5 := hk6.out; simp only [intOf]; omega

theorem bitLen_le (x : Nat) (h : x < 256) : Lib.bitLen x ≤ 8 := by
  revert x
  decide +kernel
theorem lenB_65536 {s : ByteArray} (h : s.size ≤ 8192) : lenB s ≤ 65536 := by
  unfold lenB
  split
  · next h0 =>
    have := bitLen_le s[0].toNat (UInt8.toNat_lt _)
    omega
  · omega

set_option maxRecDepth 100000 in
set_option maxHeartbeats 1000000 in
theorem rbig_int (z : Int) (v : Value) (w : World) (h : Rz w v z) (hl : (Nm.dg D9 z.natAbs).length ≤ 1000000) (hs : (zs z).size ≤ 8192) :
    Calls Tryz.prog 128 #[iV z v] w (BPost false w) := by
  have HB := Lib.hid (fun v w h => rbits_int z v w h hl (Nat.le_trans hs (by decide)))
  have hle := lenB_65536 hs
  generalize lenB (zs z) = n at *
  have H0 := Lib.hid h
  obtain ⟨p, b1, o1, c1, rfl, hr⟩ := h
  clear hr hl hs
  unfold iV at HB ⊢
  generalize decide (z < 0) = bz at *
  generalize (Nm.dg D9 z.natAbs).length = len at *
  obtain ⟨w0, hw0⟩ : ∃ w0 : World, w0 = w.alloc (.cells #[.bool bz, .slice p len c1] 38) := ⟨_, rfl⟩
  have hb0 : Hid (Below w.heap.size w w0) := by rw [hw0]; exact below_one _ _
  have R0 : Hid (Rz w0 (.slice p len c1) z) := Ri.below H0.out hb0.out (Nat.le_refl _)
  have Hw0 := Lib.hid hw0
  clear hw0 H0
  go_enter Tryz.func128, Tryz.ntmps128
  go_wp2_with fail
  rw [← Hw0.out]
  refine (HB.out _ _ R0.out).mono ?_
  rintro e wa ⟨rfl, ba⟩
  have HZ := Lib.hid (chain hb0.out ba)
  clear ba
  go_wp2
  go_ret
  exact ⟨by simp; omega, HZ.out⟩
end Go.Proofs.YtlmklhffafcmmaaGreat

/- The reference's Out where the result is a wide integer; the law's function is where it holds. -/
namespace Go.Proofs.YtlmklhffafcmmaaGreat
open Go.RowKit

set_option maxRecDepth 100000 in
set_option maxHeartbeats 2000000 in
theorem rout_int (z : Int) (v : Value) (w : World) (h : Rz w v z) (hl : (Nm.dg D9 z.natAbs).length ≤ 1000000) (hs : (zs z).size ≤ 8192) :
    Calls Tryz.prog 76 #[iV z v] w fun e w' => e = .returned (.tuple #[.agg #[.bool (zb z), .string (zs z)], .int .i64 0]) ∧ Below w.heap.size w w' := by
  have HB := Lib.hid (fun v w h => rbig_int z v w h hl hs)
  have HT : Hid (∀ v w, Rz w v z → Calls Tryz.prog 119 #[iV z v] w fun e w' => e = .returned (.agg #[.bool (zb z), .string (zs z)]) ∧ Below w.heap.size w w') := fun v w h => by
    have := rto_int z v w h hl
    unfold ToPost at this
    rwa [wz_eq] at this
  have H0 := Lib.hid h
  obtain ⟨p, b1, o1, c1, rfl, hr⟩ := h
  clear hr hl hs
  unfold iV at HB HT ⊢
  unfold BPost at HB
  generalize decide (z < 0) = bz at *
  generalize zb z = bb at *
  generalize zs z = s at *
  generalize (Nm.dg D9 z.natAbs).length = len at *
  obtain ⟨w0, hw0⟩ : ∃ w0 : World, w0 = (w.alloc (.cells #[.bool bz, .slice p len c1] 38)).alloc (.cells #[.bool false, .string ⟨#[]⟩] 23) := ⟨_, rfl⟩
  have hb0 : Hid (Below w.heap.size w w0) := by rw [hw0]; exact ((Below.refl _ _).alloc (Nat.le_refl _) _).alloc (by simp) _
  have R0 : Hid (Rz w0 (.slice p len c1) z) := Ri.below H0.out hb0.out (Nat.le_refl _)
  have I1 : Hid (ZC (.bool bz) (.slice p len c1) w0 w.heap.size) := by rw [hw0]; exact (ZC.new rfl).alloc _
  have I2 : Hid (ZC (.bool false) (.string ⟨#[]⟩) w0 (w.heap.size + 1)) := by rw [hw0]; exact ZC.new (by simp)
  have Hw0 := Lib.hid hw0
  clear hw0 H0
  go_enter Tryz.func76, Tryz.ntmps76
  go_wp2_with fail
  rw [← Hw0.out]
  refine (HB.out _ _ R0.out).mono ?_
  rintro e wa ⟨rfl, ba⟩
  have D := Lib.hid ba
  have R1 := Lib.hid (Ri.below R0.out ba (Nat.le_refl _))
  obtain ⟨k0, k1, _⟩ := I1.out.next ba
  clear ba
  go_wp2_with fail
  refine (HT.out _ _ R1.out).mono ?_
  rintro e wb ⟨rfl, bb2⟩
  have c := chain D.out bb2
  obtain ⟨m0, m1, m2, m3⟩ := I2.out.next c
  have HZ := Lib.hid (below_set2 (chain hb0.out c) (g := w.heap.size + 1) (by omega) (.bool bb) (.string s))
  clear bb2 c
  go_wp2
  exact bodyPost_ret (v := .tuple #[.agg #[.bool bb, .string s], .int .i64 0]) (by simp [results, Tryz.results76, go_sem, m0, m1]) rfl ⟨rfl, HZ.out⟩

set_option maxRecDepth 100000 in
set_option maxHeartbeats 2000000 in
theorem is_true (z : Int) (v : Value) (w : World) (h : Rz w v z) (hl : (Nm.dg D9 z.natAbs).length ≤ 1000000) (hs : (zs z).size ≤ 8192) :
    Calls Tryz.prog 21 #[.agg #[.bool (zb z), .string (zs z)], .int .i64 0, iV z v] w (BPost true w) := by
  have HO := Lib.hid (fun v w h => rout_int z v w h hl hs)
  have H0 := Lib.hid h
  obtain ⟨p, b1, o1, c1, rfl, hr⟩ := h
  clear hr hl hs
  unfold iV at HO ⊢
  generalize decide (z < 0) = bz at *
  generalize zb z = bb at *
  generalize zs z = s at *
  generalize (Nm.dg D9 z.natAbs).length = len at *
  obtain ⟨w0, hw0⟩ : ∃ w0 : World, w0 = (w.alloc (.cells #[.bool bb, .string s] 23)).alloc (.cells #[.bool bz, .slice p len c1] 38) := ⟨_, rfl⟩
  have hb0 : Hid (Below w.heap.size w w0) := by rw [hw0]; exact ((Below.refl _ _).alloc (Nat.le_refl _) _).alloc (by simp) _
  have R0 : Hid (Rz w0 (.slice p len c1) z) := Ri.below H0.out hb0.out (Nat.le_refl _)
  have I1 : Hid (ZC (.bool bb) (.string s) w0 w.heap.size) := by rw [hw0]; exact (ZC.new rfl).alloc _
  have Hw0 := Lib.hid hw0
  clear hw0 H0
  go_enter Tryz.func21, Tryz.ntmps21
  go_wp2_with fail
  rw [← Hw0.out]
  refine (HO.out _ _ R0.out).mono ?_
  rintro e wa ⟨rfl, ba⟩
  obtain ⟨k0, k1, _⟩ := I1.out.next ba
  have f1 : w.heap.size < wa.heap.size := World.block_lt_of_cell? wa _ k0
  have f2 : ¬ w.heap.size = wa.heap.size := by omega
  have f3 : ¬ wa.heap.size = w.heap.size := by omega
  have HZ := Lib.hid ((chain hb0.out ba).alloc (chain hb0.out ba).size (.cells #[.bool bb, .string s] 23))
  clear ba
  go_wp2
  go_ret
  exact ⟨rfl, HZ.out⟩
end Go.Proofs.YtlmklhffafcmmaaGreat
