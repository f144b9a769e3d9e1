/- What the theorem leans on, part 4: Frac, Ratio, Comb, CmpR, Fr1. -/
import Derived.Test.YtlmklhffafcmmaaGreatY3
import Derived.Test.YtlmklhffafcmmaaGreatY2

/- The function literals of wide.AddRatio and wide.MulRatio: the numerator above the product of both denominators. -/
namespace Go.Proofs.YtlmklhffafcmmaaGreat
open Go.RowKit

def FracOK (f : Nat) (a1 b1 a2 b2 : Bool) (m1 n1 m2 n2 : Nat) (s : Bool) (k : Nat) : Prop := ∀ x1 y1 x2 y2 w, Rd w x1 (Nm.dg W m1) → Rd w y1 (Nm.dg W n1) → Rd w x2 (Nm.dg W m2) → Rd w y2 (Nm.dg W n2) →
  Calls Tryz.prog f #[.agg #[.bool a1, x1, .bool b1, y1], .agg #[.bool a2, x2, .bool b2, y2]] w (NumPost s k w)

set_option maxRecDepth 100000 in
set_option maxHeartbeats 2000000 in
theorem mulFrac (a1 b1 a2 b2 : Bool) (m1 n1 m2 n2 : Nat) (l1 : (Nm.dg W m1).length ≤ 1000000000) (l3 : (Nm.dg W m2).length ≤ 1000000000) :
    FracOK 86 a1 b1 a2 b2 m1 n1 m2 n2 (a1 != a2) (m1 * m2) := by
  intro x1 y1 x2 y2 w h1 h2 h3 h4
  have HC := Lib.hid (fun W' (hb : Below w.heap.size w W') => times_any a1 a2 x1 x2 m1 m2 W' (h1.below hb (Nat.le_refl _)) (h3.below hb (Nat.le_refl _)) l1 l3)
  generalize (a1 != a2) = s at *
  generalize m1 * m2 = k at *
  obtain ⟨p1, q1, o1, c1, rfl, hr1⟩ := h1
  obtain ⟨p2, q2, o2, c2, rfl, hr2⟩ := h2
  obtain ⟨p3, q3, o3, c3, rfl, hr3⟩ := h3
  obtain ⟨p4, q4, o4, c4, rfl, hr4⟩ := h4
  clear hr1 hr2 hr3 hr4 l1 l3
  generalize (Nm.dg W m1).length = len1 at *
  generalize (Nm.dg W n1).length = len2 at *
  generalize (Nm.dg W m2).length = len3 at *
  generalize (Nm.dg W n2).length = len4 at *
  obtain ⟨w0, hw0⟩ : ∃ w0 : World, w0 = ((w.alloc (.cells #[.bool a1, .slice p1 len1 c1, .bool b1, .slice p2 len2 c2] 105)).alloc (.cells #[.bool a2, .slice p3 len3 c3, .bool b2, .slice p4 len4 c4] 105)).alloc (.cells #[.bool false, .slice none 0 0] 86) := ⟨_, rfl⟩
  have hb0 : Hid (Below w.heap.size w w0) := by rw [hw0]; exact (((Below.refl _ _).alloc (Nat.le_refl _) _).alloc (by simp) _).alloc (by simp; omega) _
  have k4 : w0.cell? ⟨w.heap.size + 1 + 1, 0, none⟩ = some (.bool false) := by rw [hw0]; simp [go_sem]
  have k5 : w0.cell? ⟨w.heap.size + 1 + 1, 1, none⟩ = some (.slice none 0 0) := by rw [hw0]; simp [go_sem]
  have k6 : w0.frozen? ⟨w.heap.size + 1 + 1, 0, none⟩ = false := by rw [hw0]; simp [go_sem]
  have k7 : w0.frozen? ⟨w.heap.size + 1 + 1, 1, none⟩ = false := by rw [hw0]; simp [go_sem]
  have KK := Lib.hid (And.intro k4 (And.intro k5 (And.intro k6 k7)))
  have Hw0 := Lib.hid hw0
  clear k4 k5 k6 k7 hw0
  go_enter Tryz.func86, Tryz.ntmps86
  go_wp2_with fail
  rw [← Hw0.out]
  refine (HC.out _ hb0.out).mono ?_
  rintro e w' ⟨v9, rfl, r9, b9⟩
  have y0 := keep1 b9 KK.out.1
  have y1 := keep1 b9 KK.out.2.1
  have y2 := keepf b9 KK.out.1 KK.out.2.2.1
  have y3 := keepf b9 KK.out.2.1 KK.out.2.2.2
  have HR := Lib.hid r9
  obtain ⟨p9, q9, o9, c9, rfl, hr9⟩ := r9
  have HZ := Lib.hid (below_set2 (chain hb0.out b9) (g := w.heap.size + 1 + 1) (by omega) (.bool s) (.slice p9 (Nm.dg W k).length c9))
  have HR2 := Lib.hid (HR.out.set2 ⟨y0, y1, y2, y3⟩ (.bool s) (.slice p9 (Nm.dg W k).length c9))
  clear b9 hr9
  go_wp2
  exact bodyPost_ret (v := .agg #[.bool s, .slice p9 (Nm.dg W k).length c9]) (by simp [results, Tryz.results86, go_sem, y0, y1]) rfl ⟨_, rfl, HR2.out, HZ.out⟩

set_option maxRecDepth 100000 in
set_option maxHeartbeats 2000000 in
theorem addFrac (a1 b1 a2 b2 : Bool) (m1 n1 m2 n2 : Nat) (l1 : (Nm.dg W m1).length ≤ 1000000000) (l2 : (Nm.dg W n1).length ≤ 1000000000) (l3 : (Nm.dg W m2).length ≤ 1000000000) (l4 : (Nm.dg W n2).length ≤ 1000000000)
    (l5 : (Nm.dg W (m1 * n2)).length ≤ 1000000000) (l6 : (Nm.dg W (m2 * n1)).length ≤ 1000000000) :
    FracOK 81 a1 b1 a2 b2 m1 n1 m2 n2 (pls (a1 != b2) (m1 * n2) (a2 != b1) (m2 * n1)).1 (pls (a1 != b2) (m1 * n2) (a2 != b1) (m2 * n1)).2 := by
  intro x1 y1 x2 y2 w h1 h2 h3 h4
  have HC1 := Lib.hid (fun W' (hb : Below w.heap.size w W') => times_any a1 b2 x1 y2 m1 n2 W' (h1.below hb (Nat.le_refl _)) (h4.below hb (Nat.le_refl _)) l1 l4)
  have HC2 := Lib.hid (fun W' (hb : Below w.heap.size w W') => times_any a2 b1 x2 y1 m2 n1 W' (h3.below hb (Nat.le_refl _)) (h2.below hb (Nat.le_refl _)) l3 l2)
  generalize (a1 != b2) = s1 at *
  generalize (a2 != b1) = s2 at *
  generalize m1 * n2 = k1 at *
  generalize m2 * n1 = k2 at *
  have HP := Lib.hid (fun v1 v2 w h1 h2 => plus_any s1 s2 v1 v2 k1 k2 w h1 h2 l5 l6)
  generalize (pls s1 k1 s2 k2).1 = s at *
  generalize (pls s1 k1 s2 k2).2 = k at *
  obtain ⟨p1, q1, o1, c1, rfl, hr1⟩ := h1
  obtain ⟨p2, q2, o2, c2, rfl, hr2⟩ := h2
  obtain ⟨p3, q3, o3, c3, rfl, hr3⟩ := h3
  obtain ⟨p4, q4, o4, c4, rfl, hr4⟩ := h4
  clear hr1 hr2 hr3 hr4 l1 l2 l3 l4 l5 l6
  generalize (Nm.dg W m1).length = len1 at *
  generalize (Nm.dg W n1).length = len2 at *
  generalize (Nm.dg W m2).length = len3 at *
  generalize (Nm.dg W n2).length = len4 at *
  obtain ⟨w0, hw0⟩ : ∃ w0 : World, w0 = ((w.alloc (.cells #[.bool a1, .slice p1 len1 c1, .bool b1, .slice p2 len2 c2] 105)).alloc (.cells #[.bool a2, .slice p3 len3 c3, .bool b2, .slice p4 len4 c4] 105)).alloc (.cells #[.bool false, .slice none 0 0] 86) := ⟨_, rfl⟩
  have hb0 : Hid (Below w.heap.size w w0) := by rw [hw0]; exact (((Below.refl _ _).alloc (Nat.le_refl _) _).alloc (by simp) _).alloc (by simp; omega) _
  have i0 : w0.cell? ⟨w.heap.size, 0, none⟩ = some (.bool a1) := by rw [hw0]; simp [go_sem]
  have i1 : w0.cell? ⟨w.heap.size, 1, none⟩ = some (.slice p1 len1 c1) := by rw [hw0]; simp [go_sem]
  have i2 : w0.cell? ⟨w.heap.size, 2, none⟩ = some (.bool b1) := by rw [hw0]; simp [go_sem]
  have i3 : w0.cell? ⟨w.heap.size, 3, none⟩ = some (.slice p2 len2 c2) := by rw [hw0]; simp [go_sem]
  have i4 : w0.cell? ⟨w.heap.size + 1, 0, none⟩ = some (.bool a2) := by rw [hw0]; simp [go_sem]
  have i5 : w0.cell? ⟨w.heap.size + 1, 1, none⟩ = some (.slice p3 len3 c3) := by rw [hw0]; simp [go_sem]
  have i6 : w0.cell? ⟨w.heap.size + 1, 2, none⟩ = some (.bool b2) := by rw [hw0]; simp [go_sem]
  have i7 : w0.cell? ⟨w.heap.size + 1, 3, none⟩ = some (.slice p4 len4 c4) := by rw [hw0]; simp [go_sem]
  have k4 : w0.cell? ⟨w.heap.size + 1 + 1, 0, none⟩ = some (.bool false) := by rw [hw0]; simp [go_sem]
  have k5 : w0.cell? ⟨w.heap.size + 1 + 1, 1, none⟩ = some (.slice none 0 0) := by rw [hw0]; simp [go_sem]
  have k6 : w0.frozen? ⟨w.heap.size + 1 + 1, 0, none⟩ = false := by rw [hw0]; simp [go_sem]
  have k7 : w0.frozen? ⟨w.heap.size + 1 + 1, 1, none⟩ = false := by rw [hw0]; simp [go_sem]
  have KK := Lib.hid (And.intro k4 (And.intro k5 (And.intro k6 k7)))
  have Hw0 := Lib.hid hw0
  have n1 : ¬ (w.heap.size = w.heap.size + 1 + 1) := by omega
  have n2 : ¬ (w.heap.size + 1 + 1 = w.heap.size) := by omega
  clear k4 k5 k6 k7 hw0
  go_enter Tryz.func81, Tryz.ntmps81
  go_wp2_with fail
  rw [← Hw0.out]
  go_region_held3 (fun W' => W'.cell? ⟨w.heap.size, 0, none⟩ = some (.bool a1) ∧ W'.cell? ⟨w.heap.size, 1, none⟩ = some (.slice p1 len1 c1) ∧ W'.cell? ⟨w.heap.size, 2, none⟩ = some (.bool b1) ∧ W'.cell? ⟨w.heap.size, 3, none⟩ = some (.slice p2 len2 c2) ∧ W'.cell? ⟨w.heap.size + 1, 0, none⟩ = some (.bool a2) ∧ W'.cell? ⟨w.heap.size + 1, 1, none⟩ = some (.slice p3 len3 c3) ∧ W'.cell? ⟨w.heap.size + 1, 2, none⟩ = some (.bool b2) ∧ W'.cell? ⟨w.heap.size + 1, 3, none⟩ = some (.slice p4 len4 c4)) (go_keep)
    (first
      | (go_at_call 83; (with_reducible refine (HC1.out _ (chain hb0.out ((Below.refl _ _).drew))).mono ?_); rintro e w1 ⟨v5, rfl, r5, b5⟩; have d1 := chain ((Below.refl _ _).drew) b5; have j0 := keep1 d1 i0; have j1 := keep1 d1 i1; have j2 := keep1 d1 i2; have j3 := keep1 d1 i3; have j4 := keep1 d1 i4; have j5 := keep1 d1 i5; have j6 := keep1 d1 i6; have j7 := keep1 d1 i7; have G1 := Lib.hid (And.intro r5 d1); obtain ⟨p5, q5, o5, c5, rfl, hr5⟩ := r5; clear hr5 b5 d1)
      | (go_at_call 83; (with_reducible refine (HC2.out _ (chain hb0.out G1.out.2)).mono ?_); rintro e w2 ⟨v6, rfl, r6, b6⟩; have d2 := chain G1.out.2 b6; have j0 := keep1 d2 i0; have j1 := keep1 d2 i1; have j2 := keep1 d2 i2; have j3 := keep1 d2 i3; have j4 := keep1 d2 i4; have j5 := keep1 d2 i5; have j6 := keep1 d2 i6; have j7 := keep1 d2 i7; have G2 := Lib.hid (And.intro (G1.out.1.below b6 (Nat.le_refl _)) (And.intro r6 d2)); obtain ⟨p6, q6, o6, c6, rfl, hr6⟩ := r6; clear hr6 b6 d2)
      | (go_at_call 82; (with_reducible refine (HP.out _ _ _ G2.out.1 G2.out.2.1).mono ?_); rintro e w3 ⟨v7, rfl, r7, b7⟩; have d3 := chain G2.out.2.2 b7; have j0 := keep1 d3 i0; have j1 := keep1 d3 i1; have j2 := keep1 d3 i2; have j3 := keep1 d3 i3; have j4 := keep1 d3 i4; have j5 := keep1 d3 i5; have j6 := keep1 d3 i6; have j7 := keep1 d3 i7; have y0 := keep1 d3 KK.out.1; have y1 := keep1 d3 KK.out.2.1; have y2 := keepf d3 KK.out.1 KK.out.2.2.1; have y3 := keepf d3 KK.out.2.1 KK.out.2.2.2; have G3 := Lib.hid (And.intro r7 d3); obtain ⟨p9, q9, o9, c9, rfl, hr9⟩ := r7; clear hr9 b7 d3)
      | fail)
  have HZ := Lib.hid (below_set2 (chain hb0.out G3.out.2) (g := w.heap.size + 1 + 1) (by omega) (.bool s) (.slice p9 (Nm.dg W k).length c9))
  have HR2 := Lib.hid (G3.out.1.set2 ⟨y0, y1, y2, y3⟩ (.bool s) (.slice p9 (Nm.dg W k).length c9))
  go_wp2
  exact bodyPost_ret (v := .agg #[.bool s, .slice p9 (Nm.dg W k).length c9]) (by simp [results, Tryz.results81, go_sem, y0, y1]) rfl ⟨_, rfl, HR2.out, HZ.out⟩
end Go.Proofs.YtlmklhffafcmmaaGreat

/- The functions wide.Ratio and wide.RatioOf where nothing fails. -/
namespace Go.Proofs.YtlmklhffafcmmaaGreat
open Go.RowKit

/-- A numerator and a denominator that come down to A over B. -/
def LowOK (m n A B : Nat) : Prop := GcdOK m n ∧ DivOK m (Nat.gcd m n) ∧ DivOK n (Nat.gcd m n) ∧ m / Nat.gcd m n = A ∧ n / Nat.gcd m n = B ∧ (Nm.dg W A).length ≤ 1000000 ∧ (Nm.dg W B).length ≤ 1000000 ∧ A < Top ∧ B < Top
theorem lowest_of {m n A B : Nat} (h : LowOK m n A B) (a b : Bool) (v1 v2 : Value) (w : World) (h1 : Rd w v1 (Nm.dg W m)) (h2 : Rd w v2 (Nm.dg W n)) :
    Calls Tryz.prog 62 #[.agg #[.bool a, v1], .agg #[.bool b, v2]] w (RPost ((a != b) && decide (A ≠ 0)) (bs A) false (bs B) 0 w) := by
  obtain ⟨g1, g2, g3, g4, g5, g6, g7, g8, g9⟩ := h
  exact lowest_ok a b v1 v2 m n _ A B w g1 rfl g2 g3 g4 g5 h1 h2 g6 g7 g8 g9

set_option maxRecDepth 100000 in
set_option maxHeartbeats 2000000 in
theorem Ratio_ok (a b : Bool) (s t : ByteArray) (A B : Nat) (w : World) (hl : LowOK (bv s) (bv t) A B) (hv1 : vld a s = true) (hv2 : vld b t = true) (h0 : 0 < bv t) :
    Calls Tryz.prog 9 #[.agg #[.bool a, .string s], .agg #[.bool b, .string t]] w (RPost ((a != b) && decide (A ≠ 0)) (bs A) false (bs B) 0 w) := by
  have z1 := vld_size hv1
  have z2 := vld_size hv2
  have HV1 := Valid_any a s
  have HV2 := Valid_any b t
  rw [hv1] at HV1
  rw [hv2] at HV2
  have HA := Lib.hid (fun w => HV1 w (by omega))
  have HB := Lib.hid (fun w => HV2 w (by omega))
  have HR1 := Lib.hid (fun w => read_any a s w (by omega) (vld_can hv1))
  have HR2 := Lib.hid (fun w => read_any b t w (by omega) (vld_can hv2))
  have HP := Lib.hid (lowest_of hl a b)
  have ht0 : 0 < t.size := by
    rcases Nat.eq_zero_or_pos t.size with h | h
    · rw [empty_of h] at h0; exact absurd h0 (by decide)
    · exact h
  have he := nonempty_str t ht0
  have he2 : (t.toList == []) = false := by
    cases hd : t.toList with
    | nil => rw [hd] at he; simp at he
    | cons x l => rfl
  clear HV1 HV2 hv1 hv2 hl h0 ht0
  generalize ((a != b) && decide (A ≠ 0)) = xb at *
  generalize bs A = xs at *
  generalize bs B = ys at *
  generalize bv s = m at *
  generalize bv t = n at *
  obtain ⟨w0, hw0⟩ : ∃ w0 : World, w0 = ((w.alloc (.cells #[.bool a, .string s] 23)).alloc (.cells #[.bool b, .string t] 23)).alloc (.cells #[.bool false, .string ⟨#[]⟩, .bool false, .string ⟨#[]⟩] 27) := ⟨_, rfl⟩
  have hb0 : Hid (Below w.heap.size w w0) := by rw [hw0]; exact (((Below.refl _ _).alloc (Nat.le_refl _) _).alloc (by simp) _).alloc (by simp; omega) _
  have k0 : w0.cell? ⟨w.heap.size, 0, none⟩ = some (.bool a) := by rw [hw0]; simp [go_sem]
  have k1 : w0.cell? ⟨w.heap.size, 1, none⟩ = some (.string s) := by rw [hw0]; simp [go_sem]
  have k2 : w0.cell? ⟨w.heap.size + 1, 0, none⟩ = some (.bool b) := by rw [hw0]; simp [go_sem]
  have k3 : w0.cell? ⟨w.heap.size + 1, 1, none⟩ = some (.string t) := by rw [hw0]; simp [go_sem]
  have k4 : w0.cell? ⟨w.heap.size + 1 + 1, 0, none⟩ = some (.bool false) ∧ w0.cell? ⟨w.heap.size + 1 + 1, 1, none⟩ = some (.string ⟨#[]⟩) ∧ w0.cell? ⟨w.heap.size + 1 + 1, 2, none⟩ = some (.bool false) ∧ w0.cell? ⟨w.heap.size + 1 + 1, 3, none⟩ = some (.string ⟨#[]⟩) := by
    rw [hw0]; refine ⟨?_, ?_, ?_, ?_⟩ <;> simp [go_sem]
  have k5 : w0.frozen? ⟨w.heap.size + 1 + 1, 0, none⟩ = false ∧ w0.frozen? ⟨w.heap.size + 1 + 1, 1, none⟩ = false ∧ w0.frozen? ⟨w.heap.size + 1 + 1, 2, none⟩ = false ∧ w0.frozen? ⟨w.heap.size + 1 + 1, 3, none⟩ = false := by
    rw [hw0]; refine ⟨?_, ?_, ?_, ?_⟩ <;> simp [go_sem]
  have KK := Lib.hid (And.intro k0 (And.intro k1 (And.intro k2 k3)))
  have KR := Lib.hid (And.intro k4 k5)
  have Hw0 := Lib.hid hw0
  clear k0 k1 k2 k3 k4 k5 hw0
  go_enter Tryz.func9, Tryz.ntmps9
  go_wp2_with fail
  rw [← Hw0.out]
  refine (HA.out _).mono ?_
  rintro e wa ⟨rfl, hba⟩
  have q2 := keep1 hba KK.out.2.2.1
  have q3 := keep1 hba KK.out.2.2.2
  have HBa := Lib.hid hba
  clear hba
  go_wp2_with fail
  refine (HB.out _).mono ?_
  rintro e wb ⟨rfl, hbb⟩
  have hbc := chain HBa.out hbb
  have k0 := keep1 hbc KK.out.1
  have k1 := keep1 hbc KK.out.2.1
  have k2 := keep1 hbc KK.out.2.2.1
  have k3 := keep1 hbc KK.out.2.2.2
  have KS := Lib.hid (And.intro (And.intro (keep1 hbc KR.out.1.1) (And.intro (keep1 hbc KR.out.1.2.1) (And.intro (keep1 hbc KR.out.1.2.2.1) (keep1 hbc KR.out.1.2.2.2)))) (And.intro (keepf hbc KR.out.1.1 KR.out.2.1) (And.intro (keepf hbc KR.out.1.2.1 KR.out.2.2.1) (And.intro (keepf hbc KR.out.1.2.2.1 KR.out.2.2.2.1) (keepf hbc KR.out.1.2.2.2 KR.out.2.2.2.2)))))
  have HBc := Lib.hid (chain hb0.out hbc)
  have n1 : ¬ (w.heap.size = w.heap.size + 1 + 1) := by omega
  have n2 : ¬ (w.heap.size + 1 + 1 = w.heap.size) := by omega
  clear q2 q3 hbb hbc
  go_wp2_with fail
  go_region_held3 (fun W' => W'.cell? ⟨w.heap.size, 0, none⟩ = some (.bool a) ∧ W'.cell? ⟨w.heap.size, 1, none⟩ = some (.string s) ∧ W'.cell? ⟨w.heap.size + 1, 0, none⟩ = some (.bool b) ∧ W'.cell? ⟨w.heap.size + 1, 1, none⟩ = some (.string t)) (go_keep)
    (first
      | (go_at_call 63; (with_reducible refine (HR1.out _).mono ?_); rintro e w1 ⟨v1, rfl, r1, b1⟩; have c1 := chain ((Below.refl _ _).drew) b1; have p0 := keep1 c1 k0; have p1 := keep1 c1 k1; have p2 := keep1 c1 k2; have p3 := keep1 c1 k3; have G1 := Lib.hid (And.intro r1 c1); obtain ⟨x1, x2, x3, x4, rfl, x5⟩ := r1; clear x5 b1 c1)
      | (go_at_call 63; (with_reducible refine (HR2.out _).mono ?_); rintro e w2 ⟨v2, rfl, r2, b2⟩; have c2 := chain G1.out.2 b2; have p0 := keep1 c2 k0; have p1 := keep1 c2 k1; have p2 := keep1 c2 k2; have p3 := keep1 c2 k3; have G2 := Lib.hid (And.intro (G1.out.1.below b2 (Nat.le_refl _)) (And.intro r2 c2)); obtain ⟨x6, x7, x8, x9, rfl, x10⟩ := r2; clear x10 b2 c2)
      | (go_at_call 62; (with_reducible refine (HP.out _ _ _ G2.out.1 G2.out.2.1).mono ?_); rintro e w3 ⟨rfl, b3⟩; have c3 := chain G2.out.2.2 b3; have p0 := keep1 c3 k0; have p1 := keep1 c3 k1; have p2 := keep1 c3 k2; have p3 := keep1 c3 k3; have y0 := keep1 c3 KS.out.1.1; have y1 := keep1 c3 KS.out.1.2.1; have y2 := keep1 c3 KS.out.1.2.2.1; have y3 := keep1 c3 KS.out.1.2.2.2; have y4 := keepf c3 KS.out.1.1 KS.out.2.1; have y5 := keepf c3 KS.out.1.2.1 KS.out.2.2.1; have y6 := keepf c3 KS.out.1.2.2.1 KS.out.2.2.2.1; have y7 := keepf c3 KS.out.1.2.2.2 KS.out.2.2.2.2; have G4 := Lib.hid c3; unfold rat at *; clear b3 c3)
      | fail)
  have HZ := Lib.hid (below_set4 (chain HBc.out G4.out) (g := w.heap.size + 1 + 1) (by omega) (.bool xb) (.string xs) (.bool false) (.string ys))
  go_wp2
  exact bodyPost_ret (v := .tuple #[.agg #[.bool xb, .string xs, .bool false, .string ys], .int .i64 0]) (by simp [results, Tryz.results9, go_sem, y0, y1, y2, y3]) rfl ⟨rfl, HZ.out⟩
end Go.Proofs.YtlmklhffafcmmaaGreat

/- The function wide.combine where nothing fails, with the function literals of wide.AddRatio and wide.MulRatio; these two functions. -/
namespace Go.Proofs.YtlmklhffafcmmaaGreat
open Go.RowKit

def ZC4 (x y z u : Value) (w : World) (g : Nat) : Prop := (w.cell? ⟨g, 0, none⟩ = some x ∧ w.cell? ⟨g, 1, none⟩ = some y ∧ w.cell? ⟨g, 2, none⟩ = some z ∧ w.cell? ⟨g, 3, none⟩ = some u) ∧ w.frozen? ⟨g, 0, none⟩ = false ∧ w.frozen? ⟨g, 1, none⟩ = false ∧ w.frozen? ⟨g, 2, none⟩ = false ∧ w.frozen? ⟨g, 3, none⟩ = false
section
variable {x y z u x' y' z' u' : Value} {w w2 w3 : World} {t : TypeId} {g : Nat}
theorem ZC4.next (h : ZC4 x y z u w2 g) (b : Below w2.heap.size w2 w3) : ZC4 x y z u w3 g :=
  ⟨⟨keep1 b h.1.1, keep1 b h.1.2.1, keep1 b h.1.2.2.1, keep1 b h.1.2.2.2⟩, keepf b h.1.1 h.2.1, keepf b h.1.2.1 h.2.2.1, keepf b h.1.2.2.1 h.2.2.2.1, keepf b h.1.2.2.2 h.2.2.2.2⟩
theorem ZC4.made0 (w2 : World) : ZC4 x y z u (w2.alloc (.cells #[x, y, z, u] t)) w2.heap.size := by
  refine ⟨⟨?_, ?_, ?_, ?_⟩, ?_, ?_, ?_, ?_⟩ <;> simp [go_sem]
theorem ZC4.made (hg : w2.heap.size = g) (b3 : Below (w2.alloc (.cells #[x, y, z, u] t)).heap.size (w2.alloc (.cells #[x, y, z, u] t)) w3) : ZC4 x y z u w3 g := by
  subst hg
  exact (ZC4.made0 w2).next b3
theorem ZC4.set (h : ZC4 x' y' z' u' w g) : ZC4 x y z u ((((w.setCell ⟨g, 0, none⟩ x).setCell ⟨g, 1, none⟩ y).setCell ⟨g, 2, none⟩ z).setCell ⟨g, 3, none⟩ u) g := by
  obtain ⟨⟨h1, h2, h3, h4⟩, h5, h6, h7, h8⟩ := h
  refine ⟨⟨?_, ?_, ?_, ?_⟩, ?_, ?_, ?_, ?_⟩ <;> simp [go_sem, h1, h2, h3, h4, h5, h6, h7, h8]
theorem Rd.set4 {v : Value} {xs : List Nat} {b0 b1 : Bool} {p p' : Option Addr} {n c n' c' : Nat} (h : Rd w v xs) (q : ZC4 (.bool b0) (.slice p n c) (.bool b1) (.slice p' n' c') w g) (x y z u : Value) : Rd ((((w.setCell ⟨g, 0, none⟩ x).setCell ⟨g, 1, none⟩ y).setCell ⟨g, 2, none⟩ z).setCell ⟨g, 3, none⟩ u) v xs := by
  obtain ⟨⟨h1, h2, h3, h4⟩, _⟩ := q
  refine (((h.set h1 (fun _ => by simp)).set (old := .slice p n c) ?_ (fun _ => by simp)).set (old := .bool b1) ?_ (fun _ => by simp)).set (old := .slice p' n' c') ?_ (fun _ => by simp) <;> simp [go_sem, h1, h2, h3, h4]
end
theorem far6 {a x : Nat} (h : a + 3 ≤ x) : ¬(x = a) ∧ ¬(x = a+1) ∧ ¬(x = a+1+1) ∧ ¬(a = x) ∧ ¬(a+1 = x) ∧ ¬(a+1+1 = x) ∧ a < x ∧ a+1 < x ∧ a+1+1 < x := ⟨by omega, by omega, by omega, by omega, by omega, by omega, by omega, by omega, by omega⟩
/-- A fraction lies in a block that is new. -/
def CutF (a b : Bool) (s1 s2 : Value) (X1 X2 : List Nat) (B : Nat) (wb wx : World) (g : Nat) : Prop := B ≤ g ∧ ZC4 (.bool a) s1 (.bool b) s2 wx g ∧ Rd wx s1 X1 ∧ Rd wx s2 X2 ∧ Below B wb wx ∧ g < wx.heap.size
section
variable {a b : Bool} {s1 s2 : Value} {X1 X2 : List Nat} {B : Nat} {wb w3 : World} {t : TypeId} {b0 b1 : Bool} {p p' : Option Addr} {n c n' c' g : Nat}
theorem CutF.k1 (r1 : Rd w3 s1 X1) (r2 : Rd w3 s2 X2) (h : Below B wb w3) (hB : B ≤ w3.heap.size) : CutF a b s1 s2 X1 X2 B wb (w3.alloc (.cells #[.bool a, s1, .bool b, s2] t)) w3.heap.size :=
  ⟨hB, ZC4.made0 w3, r1.alloc _, r2.alloc _, h.alloc hB _, by simp⟩
theorem CutF.k2 (q : ZC4 (.bool b0) (.slice p n c) (.bool b1) (.slice p' n' c') w3 g) (hg : B ≤ g) (r1 : Rd w3 s1 X1) (r2 : Rd w3 s2 X2) (h : Below B wb w3) :
    CutF a b s1 s2 X1 X2 B wb ((((w3.setCell ⟨g, 0, none⟩ (.bool a)).setCell ⟨g, 1, none⟩ s1).setCell ⟨g, 2, none⟩ (.bool b)).setCell ⟨g, 3, none⟩ s2) g :=
  ⟨hg, q.set, r1.set4 q _ _ _ _, r2.set4 q _ _ _ _, below_set4 h hg _ _ _ _, by
    have := World.block_lt_of_cell? w3 _ q.1.1
    simpa using this⟩
theorem CutF.drew {wx : World} (h : CutF a b s1 s2 X1 X2 B wb wx g) : CutF a b s1 s2 X1 X2 B wb wx.drew g := ⟨h.1, h.2.1, h.2.2.1, h.2.2.2.1, h.2.2.2.2.1.drew, h.2.2.2.2.2⟩
end

set_option maxRecDepth 100000 in
set_option maxHeartbeats 4000000 in
theorem combine_add (na1 nb1 na2 nb2 : Bool) (s1 t1 s2 t2 : ByteArray) (sg : Bool) (k A B : Nat) (w : World) (hf : FracOK 81 na1 nb1 na2 nb2 (bv s1) (bv t1) (bv s2) (bv t2) sg k) (hl : LowOK k (bv t1 * bv t2) A B)
    (v1 : vld na1 s1 = true) (v2 : vld nb1 t1 = true) (v3 : vld na2 s2 = true) (v4 : vld nb2 t2 = true) (g1 : 0 < sgV nb1 t1) (g2 : 0 < sgV nb2 t2) :
    Calls Tryz.prog 80 #[rat na1 s1 nb1 t1, rat na2 s2 nb2 t2, .func (Fn.func 81) #[] #[]] w (RPost ((sg != (nb1 != nb2)) && decide (A ≠ 0)) (bs A) false (bs B) 0 w) := by
  have z1 := vld_size v1
  have z2 := vld_size v2
  have z3 := vld_size v3
  have z4 := vld_size v4
  have HV1 := ValidRatio_any na1 nb1 s1 t1
  have HV2 := ValidRatio_any na2 nb2 s2 t2
  have hvr1 : vldR na1 s1 nb1 t1 = true := by unfold vldR; rw [v1, decide_eq_true g1]; rfl
  have hvr2 : vldR na2 s2 nb2 t2 = true := by unfold vldR; rw [v3, decide_eq_true g2]; rfl
  rw [hvr1] at HV1
  rw [hvr2] at HV2
  have HA := Lib.hid (fun w => HV1 w (by omega) (by omega))
  have HB := Lib.hid (fun w => HV2 w (by omega) (by omega))
  have HR1 := Lib.hid (fun w => read_any na1 s1 w (by omega) (vld_can v1))
  have HR2 := Lib.hid (fun w => read_any nb1 t1 w (by omega) (vld_can v2))
  have HR3 := Lib.hid (fun w => read_any na2 s2 w (by omega) (vld_can v3))
  have HR4 := Lib.hid (fun w => read_any nb2 t2 w (by omega) (vld_can v4))
  have HT := Lib.hid (fun y1 y2 w h1 h2 => times_any nb1 nb2 y1 y2 (bv t1) (bv t2) w h1 h2 (Nat.le_trans (len_top (bv_lt v2)) (by decide)) (Nat.le_trans (len_top (bv_lt v4)) (by decide)))
  have HF := Lib.hid hf
  have HL := Lib.hid (lowest_of hl sg (nb1 != nb2))
  clear HV1 HV2 hvr1 hvr2 v1 v2 v3 v4 g1 g2 hf hl
  unfold FracOK at HF
  generalize ((sg != (nb1 != nb2)) && decide (A ≠ 0)) = xb at *
  generalize (nb1 != nb2) = bb at *
  generalize bs A = xs at *
  generalize bs B = ys at *
  generalize bv t1 * bv t2 = nn at *
  generalize bv s1 = M1 at *
  generalize bv t1 = N1 at *
  generalize bv s2 = M2 at *
  generalize bv t2 = N2 at *
  unfold rat
  obtain ⟨w0, hw0⟩ : ∃ w0 : World, w0 = ((w.alloc (.cells #[.bool na1, .string s1, .bool nb1, .string t1] 27)).alloc (.cells #[.bool na2, .string s2, .bool nb2, .string t2] 27)).alloc (.cells #[.bool false, .string ⟨#[]⟩, .bool false, .string ⟨#[]⟩] 27) := ⟨_, rfl⟩
  have hb0 : Hid (Below w.heap.size w w0) := by rw [hw0]; exact (((Below.refl _ _).alloc (Nat.le_refl _) _).alloc (by simp) _).alloc (by simp; omega) _
  have i1 : ZC4 (.bool na1) (.string s1) (.bool nb1) (.string t1) w0 w.heap.size := by
    rw [hw0]; refine ⟨⟨?_, ?_, ?_, ?_⟩, ?_, ?_, ?_, ?_⟩ <;> simp [go_sem]
  have i2 : ZC4 (.bool na2) (.string s2) (.bool nb2) (.string t2) w0 (w.heap.size + 1) := by
    rw [hw0]; refine ⟨⟨?_, ?_, ?_, ?_⟩, ?_, ?_, ?_, ?_⟩ <;> simp [go_sem]
  have i3 : ZC4 (.bool false) (.string ⟨#[]⟩) (.bool false) (.string ⟨#[]⟩) w0 (w.heap.size + 1 + 1) := by
    rw [hw0]; refine ⟨⟨?_, ?_, ?_, ?_⟩, ?_, ?_, ?_, ?_⟩ <;> simp [go_sem]
  have hsz : w.heap.size + 3 ≤ w0.heap.size := by rw [hw0]; simp
  have I1 := Lib.hid i1
  have I2 := Lib.hid i2
  have I3 := Lib.hid i3
  have Hsz := Lib.hid hsz
  have Hw0 := Lib.hid hw0
  clear i1 i2 i3 hw0 hsz
  go_enter Tryz.func80, Tryz.ntmps80
  go_wp2_with fail
  rw [← Hw0.out]
  refine (HA.out _).mono ?_
  rintro e wa ⟨rfl, ba⟩
  obtain ⟨⟨q0, q1, q2, q3⟩, _⟩ := I2.out.next ba
  have BA := Lib.hid ba
  clear ba
  go_wp2_with fail
  refine (HB.out _).mono ?_
  rintro e wb ⟨rfl, hbb⟩
  have BB := Lib.hid (chain BA.out hbb)
  clear q0 q1 q2 q3 hbb
  obtain ⟨⟨k0, k1, k2, k3⟩, _⟩ := I1.out.next BB.out
  have HSB : Hid (w.heap.size + 3 ≤ wb.heap.size) := Nat.le_trans Hsz.out BB.out.size
  go_upto_region 3 with (fail)
  obtain ⟨jba, jbb, jbc, jbd, jbe, jbf, jbg, jbh, jbi⟩ := far6 HSB.out
  go_cut [8] (fun s8 wx => ∃ (g8 : Nat) (y1 y2 : Option Addr) (l1 c1 l2 c2 : Nat), s8 = .pointer (some ⟨g8, 0, none⟩) ∧ Hid (CutF na1 nb1 (.slice y1 l1 c1) (.slice y2 l2 c2) (Nm.dg W M1) (Nm.dg W N1) wb.heap.size wb wx g8))
  case first =>
    rename_i J0 K0 hRJ hMK
    go_region_held3 (fun W' => W'.cell? ⟨w.heap.size, 0, none⟩ = some (.bool na1) ∧ W'.cell? ⟨w.heap.size, 1, none⟩ = some (.string s1) ∧ W'.cell? ⟨w.heap.size, 2, none⟩ = some (.bool nb1) ∧ W'.cell? ⟨w.heap.size, 3, none⟩ = some (.string t1)) (go_keep)
      (first
        | (go_at_call 63; (with_reducible refine (HR1.out _).mono ?_); rintro e w1 ⟨v1, rfl, r1, b1⟩; (try (have b1 := undrew b1)); have d1 : Below wb.heap.size wb w1 := chain (by first | exact Below.refl _ _ | exact (Below.refl _ _).drew | exact below_one _ _ | exact ((Below.refl _ _).drew).alloc (Nat.le_refl _) _) b1; have c1 : Below wb.heap.size wb w1 := d1; have p0 := keep1 c1 k0; have p1 := keep1 c1 k1; have p2 := keep1 c1 k2; have p3 := keep1 c1 k3; obtain ⟨j1a, j1b, j1c, j1d, j1e, j1f, j1g, j1h, j1i⟩ := far6 (show w.heap.size + 3 ≤ w1.heap.size from Nat.le_trans HSB.out c1.size); (try (have A0 := Lib.hid (ZC4.made (g := wb.heap.size) rfl b1); obtain ⟨⟨A0a, A0b, A0c, A0d⟩, A0e, A0f, A0g, A0h⟩ := A0.out)); (try (have L01 := Lib.hid (apart_b (g := wb.heap.size) rfl b1); obtain ⟨l01x, l01y, l01z⟩ := L01.out)); have G1 := Lib.hid r1; obtain ⟨pp1, bb1, oo1, cc1, rfl, rr1⟩ := r1; clear rr1)
        | (go_at_call 63; (with_reducible refine (HR2.out _).mono ?_); rintro e w2 ⟨v2, rfl, r2, b2⟩; (try (have b2 := undrew b2)); have d2 : Below w1.heap.size w1 w2 := chain (by first | exact Below.refl _ _ | exact (Below.refl _ _).drew | exact below_one _ _ | exact ((Below.refl _ _).drew).alloc (Nat.le_refl _) _) b2; have c2 : Below wb.heap.size wb w2 := chain c1 d2; have p0 := keep1 c2 k0; have p1 := keep1 c2 k1; have p2 := keep1 c2 k2; have p3 := keep1 c2 k3; obtain ⟨j2a, j2b, j2c, j2d, j2e, j2f, j2g, j2h, j2i⟩ := far6 (show w.heap.size + 3 ≤ w2.heap.size from Nat.le_trans HSB.out c2.size); (try (have A1 := Lib.hid (ZC4.made (g := w1.heap.size) rfl b2); obtain ⟨⟨A1a, A1b, A1c, A1d⟩, A1e, A1f, A1g, A1h⟩ := A1.out)); (try (have A0 := Lib.hid (A0.out.next d2); obtain ⟨⟨A0a, A0b, A0c, A0d⟩, A0e, A0f, A0g, A0h⟩ := A0.out)); (try (have L02 := Lib.hid (apart_t L01.out d2.size); obtain ⟨l02x, l02y, l02z⟩ := L02.out)); (try (have L12 := Lib.hid (apart_b (g := w1.heap.size) rfl b2); obtain ⟨l12x, l12y, l12z⟩ := L12.out)); have G2 := Lib.hid (And.intro (G1.out.below d2 (Nat.le_refl _)) r2); obtain ⟨pp2, bb2, oo2, cc2, rfl, rr2⟩ := r2; clear rr2)
        | fail)
    all_goals
      obtain ⟨r1, r2⟩ := G2.out
      refine hMK _ _ (Met.intro (hRJ _ _ ?_))
      (repeat apply Exists.intro)
      refine ⟨?_, rfl⟩
      refine ⟨_, pp1, pp2, (Nm.dg W M1).length, cc1, (Nm.dg W N1).length, cc2, rfl, ?_⟩
      show CutF na1 nb1 (.slice pp1 _ cc1) (.slice pp2 _ cc2) (Nm.dg W M1) (Nm.dg W N1) wb.heap.size wb _ _
      have sA0 : wb.heap.size ≤ wb.heap.size := Nat.le_refl _
      have sA1 : wb.heap.size ≤ w1.heap.size := c1.size
      have sA2 : wb.heap.size ≤ w2.heap.size := c2.size
      first
        | with_reducible exact (CutF.k1 r1 r2 c2 sA2)
        | with_reducible exact (CutF.k2 A0.out sA0 r1 r2 c2)
        | with_reducible exact (CutF.k2 A1.out sA1 r1 r2 c2)
        | with_reducible exact (CutF.k1 r1 r2 c2 sA2).drew
        | with_reducible exact (CutF.k2 A0.out sA0 r1 r2 c2).drew
        | with_reducible exact (CutF.k2 A1.out sA1 r1 r2 c2).drew
        | fail
  case rest =>
    obtain ⟨g8, y1, y2, l1, c1, l2, c2, rfl, hcut⟩ := hcut
    obtain ⟨hg8, z8, r1, r2, bx, lg8⟩ := hcut.out
    have Z8 := Lib.hid z8
    have RR1 := Lib.hid r1
    have RR2 := Lib.hid r2
    have BX := Lib.hid (chain BB.out bx)
    have LG8 : Hid (w.heap.size + 3 ≤ g8) := Nat.le_trans HSB.out hg8
    have hsb2 : w.heap.size + 3 ≤ wc.heap.size := Nat.le_trans HSB.out bx.size
    clear HSB jba jbb jbc jbd jbe jbf jbg jbh jbi k0 k1 k2 k3 hcut hg8 z8 r1 r2 bx lg8
    have HSB := Lib.hid hsb2
    clear hsb2
    obtain ⟨⟨k0, k1, k2, k3⟩, _⟩ := I2.out.next BX.out
    go_upto_region 4 with (fail)
    obtain ⟨jba, jbb, jbc, jbd, jbe, jbf, jbg, jbh, jbi⟩ := far6 HSB.out
    go_cut [9] (fun s8 wx => ∃ (g8 : Nat) (y1 y2 : Option Addr) (l1 c1 l2 c2 : Nat), s8 = .pointer (some ⟨g8, 0, none⟩) ∧ Hid (CutF na2 nb2 (.slice y1 l1 c1) (.slice y2 l2 c2) (Nm.dg W M2) (Nm.dg W N2) wc.heap.size wc wx g8))
    case first =>
      rename_i J0 K0 hRJ hMK
      go_region_held3 (fun W' => W'.cell? ⟨w.heap.size + 1, 0, none⟩ = some (.bool na2) ∧ W'.cell? ⟨w.heap.size + 1, 1, none⟩ = some (.string s2) ∧ W'.cell? ⟨w.heap.size + 1, 2, none⟩ = some (.bool nb2) ∧ W'.cell? ⟨w.heap.size + 1, 3, none⟩ = some (.string t2)) (go_keep)
        (first
          | (go_at_call 63; (with_reducible refine (HR3.out _).mono ?_); rintro e w1 ⟨v1, rfl, r1, b1⟩; (try (have b1 := undrew b1)); have d1 : Below wc.heap.size wc w1 := chain (by first | exact Below.refl _ _ | exact (Below.refl _ _).drew | exact below_one _ _ | exact ((Below.refl _ _).drew).alloc (Nat.le_refl _) _) b1; have c1 : Below wc.heap.size wc w1 := d1; have p0 := keep1 c1 k0; have p1 := keep1 c1 k1; have p2 := keep1 c1 k2; have p3 := keep1 c1 k3; obtain ⟨j1a, j1b, j1c, j1d, j1e, j1f, j1g, j1h, j1i⟩ := far6 (show w.heap.size + 3 ≤ w1.heap.size from Nat.le_trans HSB.out c1.size); (try (have A0 := Lib.hid (ZC4.made (g := wc.heap.size) rfl b1); obtain ⟨⟨A0a, A0b, A0c, A0d⟩, A0e, A0f, A0g, A0h⟩ := A0.out)); (try (have L01 := Lib.hid (apart_b (g := wc.heap.size) rfl b1); obtain ⟨l01x, l01y, l01z⟩ := L01.out)); have G1 := Lib.hid r1; obtain ⟨pp1, bb1, oo1, cc1, rfl, rr1⟩ := r1; clear rr1)
          | (go_at_call 63; (with_reducible refine (HR4.out _).mono ?_); rintro e w2 ⟨v2, rfl, r2, b2⟩; (try (have b2 := undrew b2)); have d2 : Below w1.heap.size w1 w2 := chain (by first | exact Below.refl _ _ | exact (Below.refl _ _).drew | exact below_one _ _ | exact ((Below.refl _ _).drew).alloc (Nat.le_refl _) _) b2; have c2 : Below wc.heap.size wc w2 := chain c1 d2; have p0 := keep1 c2 k0; have p1 := keep1 c2 k1; have p2 := keep1 c2 k2; have p3 := keep1 c2 k3; obtain ⟨j2a, j2b, j2c, j2d, j2e, j2f, j2g, j2h, j2i⟩ := far6 (show w.heap.size + 3 ≤ w2.heap.size from Nat.le_trans HSB.out c2.size); (try (have A1 := Lib.hid (ZC4.made (g := w1.heap.size) rfl b2); obtain ⟨⟨A1a, A1b, A1c, A1d⟩, A1e, A1f, A1g, A1h⟩ := A1.out)); (try (have A0 := Lib.hid (A0.out.next d2); obtain ⟨⟨A0a, A0b, A0c, A0d⟩, A0e, A0f, A0g, A0h⟩ := A0.out)); (try (have L02 := Lib.hid (apart_t L01.out d2.size); obtain ⟨l02x, l02y, l02z⟩ := L02.out)); (try (have L12 := Lib.hid (apart_b (g := w1.heap.size) rfl b2); obtain ⟨l12x, l12y, l12z⟩ := L12.out)); have G2 := Lib.hid (And.intro (G1.out.below d2 (Nat.le_refl _)) r2); obtain ⟨pp2, bb2, oo2, cc2, rfl, rr2⟩ := r2; clear rr2)
          | fail)
      all_goals
        obtain ⟨r1, r2⟩ := G2.out
        refine hMK _ _ (Met.intro (hRJ _ _ ?_))
        (repeat apply Exists.intro)
        refine ⟨?_, rfl⟩
        refine ⟨_, pp1, pp2, (Nm.dg W M2).length, cc1, (Nm.dg W N2).length, cc2, rfl, ?_⟩
        show CutF na2 nb2 (.slice pp1 _ cc1) (.slice pp2 _ cc2) (Nm.dg W M2) (Nm.dg W N2) wc.heap.size wc _ _
        have sA0 : wc.heap.size ≤ wc.heap.size := Nat.le_refl _
        have sA1 : wc.heap.size ≤ w1.heap.size := c1.size
        have sA2 : wc.heap.size ≤ w2.heap.size := c2.size
        first
          | with_reducible exact (CutF.k1 r1 r2 c2 sA2)
          | with_reducible exact (CutF.k2 A0.out sA0 r1 r2 c2)
          | with_reducible exact (CutF.k2 A1.out sA1 r1 r2 c2)
          | with_reducible exact (CutF.k1 r1 r2 c2 sA2).drew
          | with_reducible exact (CutF.k2 A0.out sA0 r1 r2 c2).drew
          | with_reducible exact (CutF.k2 A1.out sA1 r1 r2 c2).drew
          | fail
    case rest =>
      obtain ⟨g9, y3, y4, l3, c3, l4, c4, rfl, hcut⟩ := hcut
      obtain ⟨hg9, z9, r3, r4, bx, lg9⟩ := hcut.out
      have RR3 : Hid (Rd wc.drew (.slice y3 l3 c3) (Nm.dg W M2)) := r3
      have RR4 : Hid (Rd wc.drew (.slice y4 l4 c4) (Nm.dg W N2)) := r4
      have SS1 : Hid (Rd wc.drew (.slice y1 l1 c1) (Nm.dg W M1)) := RR1.out.below bx.drew (Nat.le_refl _)
      have SS2 : Hid (Rd wc.drew (.slice y2 l2 c2) (Nm.dg W N1)) := RR2.out.below bx.drew (Nat.le_refl _)
      have BY := Lib.hid (chain BX.out bx)
      have LG9 : Hid (w.heap.size + 3 ≤ g9) := Nat.le_trans HSB.out hg9
      have z8b := Z8.out.next bx
      obtain ⟨⟨b0, b1, b2, b3⟩, _⟩ := z8b
      obtain ⟨⟨b4, b5, b6, b7⟩, _⟩ := z9
      clear HSB jba jbb jbc jbd jbe jbf jbg jbh jbi k0 k1 k2 k3 hcut hg9 r3 r4 bx lg9 RR1 RR2 Z8
      have k0 := b0
      have k1 := b1
      have k2 := b2
      have k3 := b3
      have k4 := b4
      have k5 := b5
      have k6 := b6
      have k7 := b7
      clear b0 b1 b2 b3 b4 b5 b6 b7
      have e1 : ¬ g8 = w.heap.size + 1 + 1 := by have := LG8.out; omega
      have e2 : ¬ w.heap.size + 1 + 1 = g8 := fun e => e1 e.symm
      have e3 : ¬ g9 = w.heap.size + 1 + 1 := by have := LG9.out; omega
      have e4 : ¬ w.heap.size + 1 + 1 = g9 := fun e => e3 e.symm
      go_wp2_with fail
      go_region_held3 (fun W' => W'.cell? ⟨g8, 0, none⟩ = some (.bool na1) ∧ W'.cell? ⟨g8, 1, none⟩ = some (.slice y1 l1 c1) ∧ W'.cell? ⟨g8, 2, none⟩ = some (.bool nb1) ∧ W'.cell? ⟨g8, 3, none⟩ = some (.slice y2 l2 c2) ∧ W'.cell? ⟨g9, 0, none⟩ = some (.bool na2) ∧ W'.cell? ⟨g9, 1, none⟩ = some (.slice y3 l3 c3) ∧ W'.cell? ⟨g9, 2, none⟩ = some (.bool nb2) ∧ W'.cell? ⟨g9, 3, none⟩ = some (.slice y4 l4 c4)) (go_keep)
        (first
          | (go_at_call 81; (with_reducible refine (HF.out _ _ _ _ _ SS1.out SS2.out RR3.out RR4.out).mono ?_); rintro e w1 ⟨v5, rfl, r5, b5⟩; have d1 := chain ((Below.refl _ _).drew) b5; have p0 := keep1 d1 k0; have p1 := keep1 d1 k1; have p2 := keep1 d1 k2; have p3 := keep1 d1 k3; have p4 := keep1 d1 k4; have p5 := keep1 d1 k5; have p6 := keep1 d1 k6; have p7 := keep1 d1 k7; have G1 := Lib.hid (And.intro r5 d1); have T2 := Lib.hid (SS2.out.below b5 (Nat.le_refl _)); have T4 := Lib.hid (RR4.out.below b5 (Nat.le_refl _)); obtain ⟨p5, q5, o5, c5, rfl, hr5⟩ := r5; clear hr5 b5)
          | (go_at_call 83; (with_reducible refine (HT.out _ _ _ T2.out T4.out).mono ?_); rintro e w2 ⟨v6, rfl, r6, b6⟩; have d2 := chain G1.out.2 b6; have p0 := keep1 d2 k0; have p1 := keep1 d2 k1; have p2 := keep1 d2 k2; have p3 := keep1 d2 k3; have p4 := keep1 d2 k4; have p5 := keep1 d2 k5; have p6 := keep1 d2 k6; have p7 := keep1 d2 k7; have G2 := Lib.hid (And.intro (G1.out.1.below b6 (Nat.le_refl _)) (And.intro r6 d2)); obtain ⟨p6, q6, o6, c6, rfl, hr6⟩ := r6; clear hr6 b6)
          | (go_at_call 62; (with_reducible refine (HL.out _ _ _ G2.out.1 G2.out.2.1).mono ?_); rintro e w3 ⟨rfl, b7⟩; have d3 := chain G2.out.2.2 b7; have p0 := keep1 d3 k0; have p1 := keep1 d3 k1; have p2 := keep1 d3 k2; have p3 := keep1 d3 k3; have p4 := keep1 d3 k4; have p5 := keep1 d3 k5; have p6 := keep1 d3 k6; have p7 := keep1 d3 k7; obtain ⟨⟨x0, x1, x2, x3⟩, x4, x5, x6, x7⟩ := I3.out.next (chain BY.out d3); have G3 := Lib.hid d3; unfold rat at *; clear b7)
          | fail)
      have HZ := Lib.hid (below_set4 (chain hb0.out (chain BY.out G3.out)) (g := w.heap.size + 1 + 1) (by omega) (.bool xb) (.string xs) (.bool false) (.string ys))
      go_wp2
      exact bodyPost_ret (v := .tuple #[.agg #[.bool xb, .string xs, .bool false, .string ys], .int .i64 0]) (by simp [results, Tryz.results80, go_sem, x0, x1, x2, x3]) rfl ⟨rfl, HZ.out⟩

set_option maxRecDepth 100000 in
set_option maxHeartbeats 4000000 in
theorem combine_mul (na1 nb1 na2 nb2 : Bool) (s1 t1 s2 t2 : ByteArray) (sg : Bool) (k A B : Nat) (w : World) (hf : FracOK 86 na1 nb1 na2 nb2 (bv s1) (bv t1) (bv s2) (bv t2) sg k) (hl : LowOK k (bv t1 * bv t2) A B)
    (v1 : vld na1 s1 = true) (v2 : vld nb1 t1 = true) (v3 : vld na2 s2 = true) (v4 : vld nb2 t2 = true) (g1 : 0 < sgV nb1 t1) (g2 : 0 < sgV nb2 t2) :
    Calls Tryz.prog 80 #[rat na1 s1 nb1 t1, rat na2 s2 nb2 t2, .func (Fn.func 86) #[] #[]] w (RPost ((sg != (nb1 != nb2)) && decide (A ≠ 0)) (bs A) false (bs B) 0 w) := by
  have z1 := vld_size v1
  have z2 := vld_size v2
  have z3 := vld_size v3
  have z4 := vld_size v4
  have HV1 := ValidRatio_any na1 nb1 s1 t1
  have HV2 := ValidRatio_any na2 nb2 s2 t2
  have hvr1 : vldR na1 s1 nb1 t1 = true := by unfold vldR; rw [v1, decide_eq_true g1]; rfl
  have hvr2 : vldR na2 s2 nb2 t2 = true := by unfold vldR; rw [v3, decide_eq_true g2]; rfl
  rw [hvr1] at HV1
  rw [hvr2] at HV2
  have HA := Lib.hid (fun w => HV1 w (by omega) (by omega))
  have HB := Lib.hid (fun w => HV2 w (by omega) (by omega))
  have HR1 := Lib.hid (fun w => read_any na1 s1 w (by omega) (vld_can v1))
  have HR2 := Lib.hid (fun w => read_any nb1 t1 w (by omega) (vld_can v2))
  have HR3 := Lib.hid (fun w => read_any na2 s2 w (by omega) (vld_can v3))
  have HR4 := Lib.hid (fun w => read_any nb2 t2 w (by omega) (vld_can v4))
  have HT := Lib.hid (fun y1 y2 w h1 h2 => times_any nb1 nb2 y1 y2 (bv t1) (bv t2) w h1 h2 (Nat.le_trans (len_top (bv_lt v2)) (by decide)) (Nat.le_trans (len_top (bv_lt v4)) (by decide)))
  have HF := Lib.hid hf
  have HL := Lib.hid (lowest_of hl sg (nb1 != nb2))
  clear HV1 HV2 hvr1 hvr2 v1 v2 v3 v4 g1 g2 hf hl
  unfold FracOK at HF
  generalize ((sg != (nb1 != nb2)) && decide (A ≠ 0)) = xb at *
  generalize (nb1 != nb2) = bb at *
  generalize bs A = xs at *
  generalize bs B = ys at *
  generalize bv t1 * bv t2 = nn at *
  generalize bv s1 = M1 at *
  generalize bv t1 = N1 at *
  generalize bv s2 = M2 at *
  generalize bv t2 = N2 at *
  unfold rat
  obtain ⟨w0, hw0⟩ : ∃ w0 : World, w0 = ((w.alloc (.cells #[.bool na1, .string s1, .bool nb1, .string t1] 27)).alloc (.cells #[.bool na2, .string s2, .bool nb2, .string t2] 27)).alloc (.cells #[.bool false, .string ⟨#[]⟩, .bool false, .string ⟨#[]⟩] 27) := ⟨_, rfl⟩
  have hb0 : Hid (Below w.heap.size w w0) := by rw [hw0]; exact (((Below.refl _ _).alloc (Nat.le_refl _) _).alloc (by simp) _).alloc (by simp; omega) _
  have i1 : ZC4 (.bool na1) (.string s1) (.bool nb1) (.string t1) w0 w.heap.size := by
    rw [hw0]; refine ⟨⟨?_, ?_, ?_, ?_⟩, ?_, ?_, ?_, ?_⟩ <;> simp [go_sem]
  have i2 : ZC4 (.bool na2) (.string s2) (.bool nb2) (.string t2) w0 (w.heap.size + 1) := by
    rw [hw0]; refine ⟨⟨?_, ?_, ?_, ?_⟩, ?_, ?_, ?_, ?_⟩ <;> simp [go_sem]
  have i3 : ZC4 (.bool false) (.string ⟨#[]⟩) (.bool false) (.string ⟨#[]⟩) w0 (w.heap.size + 1 + 1) := by
    rw [hw0]; refine ⟨⟨?_, ?_, ?_, ?_⟩, ?_, ?_, ?_, ?_⟩ <;> simp [go_sem]
  have hsz : w.heap.size + 3 ≤ w0.heap.size := by rw [hw0]; simp
  have I1 := Lib.hid i1
  have I2 := Lib.hid i2
  have I3 := Lib.hid i3
  have Hsz := Lib.hid hsz
  have Hw0 := Lib.hid hw0
  clear i1 i2 i3 hw0 hsz
  go_enter Tryz.func80, Tryz.ntmps80
  go_wp2_with fail
  rw [← Hw0.out]
  refine (HA.out _).mono ?_
  rintro e wa ⟨rfl, ba⟩
  obtain ⟨⟨q0, q1, q2, q3⟩, _⟩ := I2.out.next ba
  have BA := Lib.hid ba
  clear ba
  go_wp2_with fail
  refine (HB.out _).mono ?_
  rintro e wb ⟨rfl, hbb⟩
  have BB := Lib.hid (chain BA.out hbb)
  clear q0 q1 q2 q3 hbb
  obtain ⟨⟨k0, k1, k2, k3⟩, _⟩ := I1.out.next BB.out
  have HSB : Hid (w.heap.size + 3 ≤ wb.heap.size) := Nat.le_trans Hsz.out BB.out.size
  go_upto_region 3 with (fail)
  obtain ⟨jba, jbb, jbc, jbd, jbe, jbf, jbg, jbh, jbi⟩ := far6 HSB.out
  go_cut [8] (fun s8 wx => ∃ (g8 : Nat) (y1 y2 : Option Addr) (l1 c1 l2 c2 : Nat), s8 = .pointer (some ⟨g8, 0, none⟩) ∧ Hid (CutF na1 nb1 (.slice y1 l1 c1) (.slice y2 l2 c2) (Nm.dg W M1) (Nm.dg W N1) wb.heap.size wb wx g8))
  case first =>
    rename_i J0 K0 hRJ hMK
    go_region_held3 (fun W' => W'.cell? ⟨w.heap.size, 0, none⟩ = some (.bool na1) ∧ W'.cell? ⟨w.heap.size, 1, none⟩ = some (.string s1) ∧ W'.cell? ⟨w.heap.size, 2, none⟩ = some (.bool nb1) ∧ W'.cell? ⟨w.heap.size, 3, none⟩ = some (.string t1)) (go_keep)
      (first
        | (go_at_call 63; (with_reducible refine (HR1.out _).mono ?_); rintro e w1 ⟨v1, rfl, r1, b1⟩; (try (have b1 := undrew b1)); have d1 : Below wb.heap.size wb w1 := chain (by first | exact Below.refl _ _ | exact (Below.refl _ _).drew | exact below_one _ _ | exact ((Below.refl _ _).drew).alloc (Nat.le_refl _) _) b1; have c1 : Below wb.heap.size wb w1 := d1; have p0 := keep1 c1 k0; have p1 := keep1 c1 k1; have p2 := keep1 c1 k2; have p3 := keep1 c1 k3; obtain ⟨j1a, j1b, j1c, j1d, j1e, j1f, j1g, j1h, j1i⟩ := far6 (show w.heap.size + 3 ≤ w1.heap.size from Nat.le_trans HSB.out c1.size); (try (have A0 := Lib.hid (ZC4.made (g := wb.heap.size) rfl b1); obtain ⟨⟨A0a, A0b, A0c, A0d⟩, A0e, A0f, A0g, A0h⟩ := A0.out)); (try (have L01 := Lib.hid (apart_b (g := wb.heap.size) rfl b1); obtain ⟨l01x, l01y, l01z⟩ := L01.out)); have G1 := Lib.hid r1; obtain ⟨pp1, bb1, oo1, cc1, rfl, rr1⟩ := r1; clear rr1)
        | (go_at_call 63; (with_reducible refine (HR2.out _).mono ?_); rintro e w2 ⟨v2, rfl, r2, b2⟩; (try (have b2 := undrew b2)); have d2 : Below w1.heap.size w1 w2 := chain (by first | exact Below.refl _ _ | exact (Below.refl _ _).drew | exact below_one _ _ | exact ((Below.refl _ _).drew).alloc (Nat.le_refl _) _) b2; have c2 : Below wb.heap.size wb w2 := chain c1 d2; have p0 := keep1 c2 k0; have p1 := keep1 c2 k1; have p2 := keep1 c2 k2; have p3 := keep1 c2 k3; obtain ⟨j2a, j2b, j2c, j2d, j2e, j2f, j2g, j2h, j2i⟩ := far6 (show w.heap.size + 3 ≤ w2.heap.size from Nat.le_trans HSB.out c2.size); (try (have A1 := Lib.hid (ZC4.made (g := w1.heap.size) rfl b2); obtain ⟨⟨A1a, A1b, A1c, A1d⟩, A1e, A1f, A1g, A1h⟩ := A1.out)); (try (have A0 := Lib.hid (A0.out.next d2); obtain ⟨⟨A0a, A0b, A0c, A0d⟩, A0e, A0f, A0g, A0h⟩ := A0.out)); (try (have L02 := Lib.hid (apart_t L01.out d2.size); obtain ⟨l02x, l02y, l02z⟩ := L02.out)); (try (have L12 := Lib.hid (apart_b (g := w1.heap.size) rfl b2); obtain ⟨l12x, l12y, l12z⟩ := L12.out)); have G2 := Lib.hid (And.intro (G1.out.below d2 (Nat.le_refl _)) r2); obtain ⟨pp2, bb2, oo2, cc2, rfl, rr2⟩ := r2; clear rr2)
        | fail)
    all_goals
      obtain ⟨r1, r2⟩ := G2.out
      refine hMK _ _ (Met.intro (hRJ _ _ ?_))
      (repeat apply Exists.intro)
      refine ⟨?_, rfl⟩
      refine ⟨_, pp1, pp2, (Nm.dg W M1).length, cc1, (Nm.dg W N1).length, cc2, rfl, ?_⟩
      show CutF na1 nb1 (.slice pp1 _ cc1) (.slice pp2 _ cc2) (Nm.dg W M1) (Nm.dg W N1) wb.heap.size wb _ _
      have sA0 : wb.heap.size ≤ wb.heap.size := Nat.le_refl _
      have sA1 : wb.heap.size ≤ w1.heap.size := c1.size
      have sA2 : wb.heap.size ≤ w2.heap.size := c2.size
      first
        | with_reducible exact (CutF.k1 r1 r2 c2 sA2)
        | with_reducible exact (CutF.k2 A0.out sA0 r1 r2 c2)
        | with_reducible exact (CutF.k2 A1.out sA1 r1 r2 c2)
        | with_reducible exact (CutF.k1 r1 r2 c2 sA2).drew
        | with_reducible exact (CutF.k2 A0.out sA0 r1 r2 c2).drew
        | with_reducible exact (CutF.k2 A1.out sA1 r1 r2 c2).drew
        | fail
  case rest =>
    obtain ⟨g8, y1, y2, l1, c1, l2, c2, rfl, hcut⟩ := hcut
    obtain ⟨hg8, z8, r1, r2, bx, lg8⟩ := hcut.out
    have Z8 := Lib.hid z8
    have RR1 := Lib.hid r1
    have RR2 := Lib.hid r2
    have BX := Lib.hid (chain BB.out bx)
    have LG8 : Hid (w.heap.size + 3 ≤ g8) := Nat.le_trans HSB.out hg8
    have hsb2 : w.heap.size + 3 ≤ wc.heap.size := Nat.le_trans HSB.out bx.size
    clear HSB jba jbb jbc jbd jbe jbf jbg jbh jbi k0 k1 k2 k3 hcut hg8 z8 r1 r2 bx lg8
    have HSB := Lib.hid hsb2
    clear hsb2
    obtain ⟨⟨k0, k1, k2, k3⟩, _⟩ := I2.out.next BX.out
    go_upto_region 4 with (fail)
    obtain ⟨jba, jbb, jbc, jbd, jbe, jbf, jbg, jbh, jbi⟩ := far6 HSB.out
    go_cut [9] (fun s8 wx => ∃ (g8 : Nat) (y1 y2 : Option Addr) (l1 c1 l2 c2 : Nat), s8 = .pointer (some ⟨g8, 0, none⟩) ∧ Hid (CutF na2 nb2 (.slice y1 l1 c1) (.slice y2 l2 c2) (Nm.dg W M2) (Nm.dg W N2) wc.heap.size wc wx g8))
    case first =>
      rename_i J0 K0 hRJ hMK
      go_region_held3 (fun W' => W'.cell? ⟨w.heap.size + 1, 0, none⟩ = some (.bool na2) ∧ W'.cell? ⟨w.heap.size + 1, 1, none⟩ = some (.string s2) ∧ W'.cell? ⟨w.heap.size + 1, 2, none⟩ = some (.bool nb2) ∧ W'.cell? ⟨w.heap.size + 1, 3, none⟩ = some (.string t2)) (go_keep)
        (first
          | (go_at_call 63; (with_reducible refine (HR3.out _).mono ?_); rintro e w1 ⟨v1, rfl, r1, b1⟩; (try (have b1 := undrew b1)); have d1 : Below wc.heap.size wc w1 := chain (by first | exact Below.refl _ _ | exact (Below.refl _ _).drew | exact below_one _ _ | exact ((Below.refl _ _).drew).alloc (Nat.le_refl _) _) b1; have c1 : Below wc.heap.size wc w1 := d1; have p0 := keep1 c1 k0; have p1 := keep1 c1 k1; have p2 := keep1 c1 k2; have p3 := keep1 c1 k3; obtain ⟨j1a, j1b, j1c, j1d, j1e, j1f, j1g, j1h, j1i⟩ := far6 (show w.heap.size + 3 ≤ w1.heap.size from Nat.le_trans HSB.out c1.size); (try (have A0 := Lib.hid (ZC4.made (g := wc.heap.size) rfl b1); obtain ⟨⟨A0a, A0b, A0c, A0d⟩, A0e, A0f, A0g, A0h⟩ := A0.out)); (try (have L01 := Lib.hid (apart_b (g := wc.heap.size) rfl b1); obtain ⟨l01x, l01y, l01z⟩ := L01.out)); have G1 := Lib.hid r1; obtain ⟨pp1, bb1, oo1, cc1, rfl, rr1⟩ := r1; clear rr1)
          | (go_at_call 63; (with_reducible refine (HR4.out _).mono ?_); rintro e w2 ⟨v2, rfl, r2, b2⟩; (try (have b2 := undrew b2)); have d2 : Below w1.heap.size w1 w2 := chain (by first | exact Below.refl _ _ | exact (Below.refl _ _).drew | exact below_one _ _ | exact ((Below.refl _ _).drew).alloc (Nat.le_refl _) _) b2; have c2 : Below wc.heap.size wc w2 := chain c1 d2; have p0 := keep1 c2 k0; have p1 := keep1 c2 k1; have p2 := keep1 c2 k2; have p3 := keep1 c2 k3; obtain ⟨j2a, j2b, j2c, j2d, j2e, j2f, j2g, j2h, j2i⟩ := far6 (show w.heap.size + 3 ≤ w2.heap.size from Nat.le_trans HSB.out c2.size); (try (have A1 := Lib.hid (ZC4.made (g := w1.heap.size) rfl b2); obtain ⟨⟨A1a, A1b, A1c, A1d⟩, A1e, A1f, A1g, A1h⟩ := A1.out)); (try (have A0 := Lib.hid (A0.out.next d2); obtain ⟨⟨A0a, A0b, A0c, A0d⟩, A0e, A0f, A0g, A0h⟩ := A0.out)); (try (have L02 := Lib.hid (apart_t L01.out d2.size); obtain ⟨l02x, l02y, l02z⟩ := L02.out)); (try (have L12 := Lib.hid (apart_b (g := w1.heap.size) rfl b2); obtain ⟨l12x, l12y, l12z⟩ := L12.out)); have G2 := Lib.hid (And.intro (G1.out.below d2 (Nat.le_refl _)) r2); obtain ⟨pp2, bb2, oo2, cc2, rfl, rr2⟩ := r2; clear rr2)
          | fail)
      all_goals
        obtain ⟨r1, r2⟩ := G2.out
        refine hMK _ _ (Met.intro (hRJ _ _ ?_))
        (repeat apply Exists.intro)
        refine ⟨?_, rfl⟩
        refine ⟨_, pp1, pp2, (Nm.dg W M2).length, cc1, (Nm.dg W N2).length, cc2, rfl, ?_⟩
        show CutF na2 nb2 (.slice pp1 _ cc1) (.slice pp2 _ cc2) (Nm.dg W M2) (Nm.dg W N2) wc.heap.size wc _ _
        have sA0 : wc.heap.size ≤ wc.heap.size := Nat.le_refl _
        have sA1 : wc.heap.size ≤ w1.heap.size := c1.size
        have sA2 : wc.heap.size ≤ w2.heap.size := c2.size
        first
          | with_reducible exact (CutF.k1 r1 r2 c2 sA2)
          | with_reducible exact (CutF.k2 A0.out sA0 r1 r2 c2)
          | with_reducible exact (CutF.k2 A1.out sA1 r1 r2 c2)
          | with_reducible exact (CutF.k1 r1 r2 c2 sA2).drew
          | with_reducible exact (CutF.k2 A0.out sA0 r1 r2 c2).drew
          | with_reducible exact (CutF.k2 A1.out sA1 r1 r2 c2).drew
          | fail
    case rest =>
      obtain ⟨g9, y3, y4, l3, c3, l4, c4, rfl, hcut⟩ := hcut
      obtain ⟨hg9, z9, r3, r4, bx, lg9⟩ := hcut.out
      have RR3 : Hid (Rd wc.drew (.slice y3 l3 c3) (Nm.dg W M2)) := r3
      have RR4 : Hid (Rd wc.drew (.slice y4 l4 c4) (Nm.dg W N2)) := r4
      have SS1 : Hid (Rd wc.drew (.slice y1 l1 c1) (Nm.dg W M1)) := RR1.out.below bx.drew (Nat.le_refl _)
      have SS2 : Hid (Rd wc.drew (.slice y2 l2 c2) (Nm.dg W N1)) := RR2.out.below bx.drew (Nat.le_refl _)
      have BY := Lib.hid (chain BX.out bx)
      have LG9 : Hid (w.heap.size + 3 ≤ g9) := Nat.le_trans HSB.out hg9
      have z8b := Z8.out.next bx
      obtain ⟨⟨b0, b1, b2, b3⟩, _⟩ := z8b
      obtain ⟨⟨b4, b5, b6, b7⟩, _⟩ := z9
      clear HSB jba jbb jbc jbd jbe jbf jbg jbh jbi k0 k1 k2 k3 hcut hg9 r3 r4 bx lg9 RR1 RR2 Z8
      have k0 := b0
      have k1 := b1
      have k2 := b2
      have k3 := b3
      have k4 := b4
      have k5 := b5
      have k6 := b6
      have k7 := b7
      clear b0 b1 b2 b3 b4 b5 b6 b7
      have e1 : ¬ g8 = w.heap.size + 1 + 1 := by have := LG8.out; omega
      have e2 : ¬ w.heap.size + 1 + 1 = g8 := fun e => e1 e.symm
      have e3 : ¬ g9 = w.heap.size + 1 + 1 := by have := LG9.out; omega
      have e4 : ¬ w.heap.size + 1 + 1 = g9 := fun e => e3 e.symm
      go_wp2_with fail
      go_region_held3 (fun W' => W'.cell? ⟨g8, 0, none⟩ = some (.bool na1) ∧ W'.cell? ⟨g8, 1, none⟩ = some (.slice y1 l1 c1) ∧ W'.cell? ⟨g8, 2, none⟩ = some (.bool nb1) ∧ W'.cell? ⟨g8, 3, none⟩ = some (.slice y2 l2 c2) ∧ W'.cell? ⟨g9, 0, none⟩ = some (.bool na2) ∧ W'.cell? ⟨g9, 1, none⟩ = some (.slice y3 l3 c3) ∧ W'.cell? ⟨g9, 2, none⟩ = some (.bool nb2) ∧ W'.cell? ⟨g9, 3, none⟩ = some (.slice y4 l4 c4)) (go_keep)
        (first
          | (go_at_call 86; (with_reducible refine (HF.out _ _ _ _ _ SS1.out SS2.out RR3.out RR4.out).mono ?_); rintro e w1 ⟨v5, rfl, r5, b5⟩; have d1 := chain ((Below.refl _ _).drew) b5; have p0 := keep1 d1 k0; have p1 := keep1 d1 k1; have p2 := keep1 d1 k2; have p3 := keep1 d1 k3; have p4 := keep1 d1 k4; have p5 := keep1 d1 k5; have p6 := keep1 d1 k6; have p7 := keep1 d1 k7; have G1 := Lib.hid (And.intro r5 d1); have T2 := Lib.hid (SS2.out.below b5 (Nat.le_refl _)); have T4 := Lib.hid (RR4.out.below b5 (Nat.le_refl _)); obtain ⟨p5, q5, o5, c5, rfl, hr5⟩ := r5; clear hr5 b5)
          | (go_at_call 83; (with_reducible refine (HT.out _ _ _ T2.out T4.out).mono ?_); rintro e w2 ⟨v6, rfl, r6, b6⟩; have d2 := chain G1.out.2 b6; have p0 := keep1 d2 k0; have p1 := keep1 d2 k1; have p2 := keep1 d2 k2; have p3 := keep1 d2 k3; have p4 := keep1 d2 k4; have p5 := keep1 d2 k5; have p6 := keep1 d2 k6; have p7 := keep1 d2 k7; have G2 := Lib.hid (And.intro (G1.out.1.below b6 (Nat.le_refl _)) (And.intro r6 d2)); obtain ⟨p6, q6, o6, c6, rfl, hr6⟩ := r6; clear hr6 b6)
          | (go_at_call 62; (with_reducible refine (HL.out _ _ _ G2.out.1 G2.out.2.1).mono ?_); rintro e w3 ⟨rfl, b7⟩; have d3 := chain G2.out.2.2 b7; have p0 := keep1 d3 k0; have p1 := keep1 d3 k1; have p2 := keep1 d3 k2; have p3 := keep1 d3 k3; have p4 := keep1 d3 k4; have p5 := keep1 d3 k5; have p6 := keep1 d3 k6; have p7 := keep1 d3 k7; obtain ⟨⟨x0, x1, x2, x3⟩, x4, x5, x6, x7⟩ := I3.out.next (chain BY.out d3); have G3 := Lib.hid d3; unfold rat at *; clear b7)
          | fail)
      have HZ := Lib.hid (below_set4 (chain hb0.out (chain BY.out G3.out)) (g := w.heap.size + 1 + 1) (by omega) (.bool xb) (.string xs) (.bool false) (.string ys))
      go_wp2
      exact bodyPost_ret (v := .tuple #[.agg #[.bool xb, .string xs, .bool false, .string ys], .int .i64 0]) (by simp [results, Tryz.results80, go_sem, x0, x1, x2, x3]) rfl ⟨rfl, HZ.out⟩

set_option maxRecDepth 100000 in
set_option maxHeartbeats 2000000 in
theorem AddRatio_ok (na1 nb1 na2 nb2 : Bool) (s1 t1 s2 t2 : ByteArray) (sg : Bool) (k A B : Nat) (w : World) (hf : FracOK 81 na1 nb1 na2 nb2 (bv s1) (bv t1) (bv s2) (bv t2) sg k) (hl : LowOK k (bv t1 * bv t2) A B)
    (v1 : vld na1 s1 = true) (v2 : vld nb1 t1 = true) (v3 : vld na2 s2 = true) (v4 : vld nb2 t2 = true) (g1 : 0 < sgV nb1 t1) (g2 : 0 < sgV nb2 t2) :
    Calls Tryz.prog 23 #[rat na1 s1 nb1 t1, rat na2 s2 nb2 t2] w (RPost ((sg != (nb1 != nb2)) && decide (A ≠ 0)) (bs A) false (bs B) 0 w) := by
  have HC := Lib.hid (fun w => combine_add na1 nb1 na2 nb2 s1 t1 s2 t2 sg k A B w hf hl v1 v2 v3 v4 g1 g2)
  clear hf hl v1 v2 v3 v4 g1 g2
  generalize ((sg != (nb1 != nb2)) && decide (A ≠ 0)) = xb at *
  generalize bs A = xs at *
  generalize bs B = ys at *
  unfold rat at HC ⊢
  obtain ⟨w0, hw0⟩ : ∃ w0 : World, w0 = ((w.alloc (.cells #[.bool na1, .string s1, .bool nb1, .string t1] 27)).alloc (.cells #[.bool na2, .string s2, .bool nb2, .string t2] 27)).alloc (.cells #[.bool false, .string ⟨#[]⟩, .bool false, .string ⟨#[]⟩] 27) := ⟨_, rfl⟩
  have hb0 : Hid (Below w.heap.size w w0) := by rw [hw0]; exact (((Below.refl _ _).alloc (Nat.le_refl _) _).alloc (by simp) _).alloc (by simp; omega) _
  have i3 : ZC4 (.bool false) (.string ⟨#[]⟩) (.bool false) (.string ⟨#[]⟩) w0 (w.heap.size + 1 + 1) := by
    rw [hw0]; refine ⟨⟨?_, ?_, ?_, ?_⟩, ?_, ?_, ?_, ?_⟩ <;> simp [go_sem]
  have I3 := Lib.hid i3
  have Hw0 := Lib.hid hw0
  clear i3 hw0
  go_enter Tryz.func23, Tryz.ntmps23
  go_wp2_with fail
  rw [← Hw0.out]
  refine (HC.out _).mono ?_
  rintro e wc ⟨rfl, bc⟩
  obtain ⟨⟨x0, x1, x2, x3⟩, x4, x5, x6, x7⟩ := I3.out.next bc
  have HZ := Lib.hid (below_set4 (chain hb0.out bc) (g := w.heap.size + 1 + 1) (by omega) (.bool xb) (.string xs) (.bool false) (.string ys))
  unfold rat at *
  clear bc
  go_wp2
  exact bodyPost_ret (v := .tuple #[.agg #[.bool xb, .string xs, .bool false, .string ys], .int .i64 0]) (by simp [results, Tryz.results23, go_sem, x0, x1, x2, x3]) rfl ⟨rfl, HZ.out⟩

set_option maxRecDepth 100000 in
set_option maxHeartbeats 2000000 in
theorem MulRatio_ok (na1 nb1 na2 nb2 : Bool) (s1 t1 s2 t2 : ByteArray) (sg : Bool) (k A B : Nat) (w : World) (hf : FracOK 86 na1 nb1 na2 nb2 (bv s1) (bv t1) (bv s2) (bv t2) sg k) (hl : LowOK k (bv t1 * bv t2) A B)
    (v1 : vld na1 s1 = true) (v2 : vld nb1 t1 = true) (v3 : vld na2 s2 = true) (v4 : vld nb2 t2 = true) (g1 : 0 < sgV nb1 t1) (g2 : 0 < sgV nb2 t2) :
    Calls Tryz.prog 25 #[rat na1 s1 nb1 t1, rat na2 s2 nb2 t2] w (RPost ((sg != (nb1 != nb2)) && decide (A ≠ 0)) (bs A) false (bs B) 0 w) := by
  have HC := Lib.hid (fun w => combine_mul na1 nb1 na2 nb2 s1 t1 s2 t2 sg k A B w hf hl v1 v2 v3 v4 g1 g2)
  clear hf hl v1 v2 v3 v4 g1 g2
  generalize ((sg != (nb1 != nb2)) && decide (A ≠ 0)) = xb at *
  generalize bs A = xs at *
  generalize bs B = ys at *
  unfold rat at HC ⊢
  obtain ⟨w0, hw0⟩ : ∃ w0 : World, w0 = ((w.alloc (.cells #[.bool na1, .string s1, .bool nb1, .string t1] 27)).alloc (.cells #[.bool na2, .string s2, .bool nb2, .string t2] 27)).alloc (.cells #[.bool false, .string ⟨#[]⟩, .bool false, .string ⟨#[]⟩] 27) := ⟨_, rfl⟩
  have hb0 : Hid (Below w.heap.size w w0) := by rw [hw0]; exact (((Below.refl _ _).alloc (Nat.le_refl _) _).alloc (by simp) _).alloc (by simp; omega) _
  have i3 : ZC4 (.bool false) (.string ⟨#[]⟩) (.bool false) (.string ⟨#[]⟩) w0 (w.heap.size + 1 + 1) := by
    rw [hw0]; refine ⟨⟨?_, ?_, ?_, ?_⟩, ?_, ?_, ?_, ?_⟩ <;> simp [go_sem]
  have I3 := Lib.hid i3
  have Hw0 := Lib.hid hw0
  clear i3 hw0
  go_enter Tryz.func25, Tryz.ntmps25
  go_wp2_with fail
  rw [← Hw0.out]
  refine (HC.out _).mono ?_
  rintro e wc ⟨rfl, bc⟩
  obtain ⟨⟨x0, x1, x2, x3⟩, x4, x5, x6, x7⟩ := I3.out.next bc
  have HZ := Lib.hid (below_set4 (chain hb0.out bc) (g := w.heap.size + 1 + 1) (by omega) (.bool xb) (.string xs) (.bool false) (.string ys))
  unfold rat at *
  clear bc
  go_wp2
  exact bodyPost_ret (v := .tuple #[.agg #[.bool xb, .string xs, .bool false, .string ys], .int .i64 0]) (by simp [results, Tryz.results25, go_sem, x0, x1, x2, x3]) rfl ⟨rfl, HZ.out⟩

end Go.Proofs.YtlmklhffafcmmaaGreat

/- The function wide.CompareRatio of two valid ratios that are not negative and have the same sign. -/
namespace Go.Proofs.YtlmklhffafcmmaaGreat
open Go.RowKit

def CRPost (c : Int) (w : World) (e : Ending) (w' : World) : Prop := e = .returned (.tuple #[.int .i64 c, .int .i64 0]) ∧ Below w.heap.size w w'

set_option maxRecDepth 100000 in
set_option maxHeartbeats 4000000 in
theorem CompareRatio_pos (na1 nb1 na2 nb2 : Bool) (s1 t1 s2 t2 : ByteArray) (w : World)
    (v1 : vld na1 s1 = true) (v2 : vld nb1 t1 = true) (v3 : vld na2 s2 = true) (v4 : vld nb2 t2 = true) (g1 : 0 < sgV nb1 t1) (g2 : 0 < sgV nb2 t2) (hs : sgV na1 s1 = sgV na2 s2) (hn : na1 = false) :
    Calls Tryz.prog 22 #[rat na1 s1 nb1 t1, rat na2 s2 nb2 t2] w (CRPost (cmpN (bv s1 * bv t2) (bv s2 * bv t1)) w) := by
  subst hn
  have z1 := vld_size v1
  have z2 := vld_size v2
  have z3 := vld_size v3
  have z4 := vld_size v4
  have HV1 := ValidRatio_any false nb1 s1 t1
  have HV2 := ValidRatio_any na2 nb2 s2 t2
  have hvr1 : vldR false s1 nb1 t1 = true := by unfold vldR; rw [v1, decide_eq_true g1]; rfl
  have hvr2 : vldR na2 s2 nb2 t2 = true := by unfold vldR; rw [v3, decide_eq_true g2]; rfl
  rw [hvr1] at HV1
  rw [hvr2] at HV2
  have HA := Lib.hid (fun w => HV1 w (by omega) (by omega))
  have HB := Lib.hid (fun w => HV2 w (by omega) (by omega))
  have HR1 := Lib.hid (fun w => read_any false s1 w (by omega) (vld_can v1))
  have HR2 := Lib.hid (fun w => read_any nb1 t1 w (by omega) (vld_can v2))
  have HR3 := Lib.hid (fun w => read_any na2 s2 w (by omega) (vld_can v3))
  have HR4 := Lib.hid (fun w => read_any nb2 t2 w (by omega) (vld_can v4))
  have HS1 := Lib.hid (fun w => Sign_any false s1 w (by omega))
  have HS2 := Lib.hid (fun w => Sign_any na2 s2 w (by omega))
  rw [hs] at HS1
  have l1 := Nat.le_trans (len_top (bv_lt v1)) (by decide : 1024 ≤ 1000000000)
  have l2 := Nat.le_trans (len_top (bv_lt v2)) (by decide : 1024 ≤ 1000000000)
  have l3 := Nat.le_trans (len_top (bv_lt v3)) (by decide : 1024 ≤ 1000000000)
  have l4 := Nat.le_trans (len_top (bv_lt v4)) (by decide : 1024 ≤ 1000000000)
  have HM1 : Hid (∀ x1 x2 w, Rd w x1 (Nm.dg W (bv s1)) → Rd w x2 (Nm.dg W (bv t2)) → Calls Tryz.prog 78 #[x1, x2] w (Gives (bv s1 * bv t2) w)) := by
    intro x1 x2 w h1 h2
    have h := mulLimbs_any x1 x2 _ _ w h1 h2 l1 l4 (Nm.dig_dg W2 _) (Nm.dig_dg W2 _)
    rwa [Nm.val_dg W2, Nm.val_dg W2] at h
  have HM2 : Hid (∀ x1 x2 w, Rd w x1 (Nm.dg W (bv s2)) → Rd w x2 (Nm.dg W (bv t1)) → Calls Tryz.prog 78 #[x1, x2] w (Gives (bv s2 * bv t1) w)) := by
    intro x1 x2 w h1 h2
    have h := mulLimbs_any x1 x2 _ _ w h1 h2 l3 l2 (Nm.dig_dg W2 _) (Nm.dig_dg W2 _)
    rwa [Nm.val_dg W2, Nm.val_dg W2] at h
  have lm1 : (Nm.dg W (bv s1 * bv t2)).length ≤ 1000000000 := Nat.le_trans (len_top3 (bv_lt v1) (bv_lt v4)) (by decide)
  have lm2 : (Nm.dg W (bv s2 * bv t1)).length ≤ 1000000000 := Nat.le_trans (len_top3 (bv_lt v3) (bv_lt v2)) (by decide)
  have HC : Hid (∀ x1 x2 w, Rd w x1 (Nm.dg W (bv s1 * bv t2)) → Rd w x2 (Nm.dg W (bv s2 * bv t1)) → Calls Tryz.prog 79 #[x1, x2] w (CmpPost (cmpN (bv s1 * bv t2) (bv s2 * bv t1)) w)) := by
    intro x1 x2 w h1 h2
    have h := compareLimbs_any x1 x2 _ _ w h1 h2 lm1 lm2 (Nm.dig_dg W2 _) (Nm.dig_dg W2 _) (Nm.nrm_dg W2 _) (Nm.nrm_dg W2 _)
    rwa [Nm.val_dg W2, Nm.val_dg W2] at h
  clear HV1 HV2 hvr1 hvr2 v1 v2 v3 v4 g1 g2 hs l1 l2 l3 l4 lm1 lm2
  generalize cmpN (bv s1 * bv t2) (bv s2 * bv t1) = cc at *
  generalize bv s1 * bv t2 = K1 at *
  generalize bv s2 * bv t1 = K2 at *
  generalize bv s1 = M1 at *
  generalize bv t1 = N1 at *
  generalize bv s2 = M2 at *
  generalize bv t2 = N2 at *
  generalize sgV na2 s2 = sg at *
  unfold rat
  obtain ⟨w0, hw0⟩ : ∃ w0 : World, w0 = (w.alloc (.cells #[.bool false, .string s1, .bool nb1, .string t1] 27)).alloc (.cells #[.bool na2, .string s2, .bool nb2, .string t2] 27) := ⟨_, rfl⟩
  have hb0 : Hid (Below w.heap.size w w0) := by rw [hw0]; exact ((Below.refl _ _).alloc (Nat.le_refl _) _).alloc (by simp) _
  have i1 : ZC4 (.bool false) (.string s1) (.bool nb1) (.string t1) w0 w.heap.size := by
    rw [hw0]; refine ⟨⟨?_, ?_, ?_, ?_⟩, ?_, ?_, ?_, ?_⟩ <;> simp [go_sem]
  have i2 : ZC4 (.bool na2) (.string s2) (.bool nb2) (.string t2) w0 (w.heap.size + 1) := by
    rw [hw0]; refine ⟨⟨?_, ?_, ?_, ?_⟩, ?_, ?_, ?_, ?_⟩ <;> simp [go_sem]
  have I1 := Lib.hid i1
  have I2 := Lib.hid i2
  have Hw0 := Lib.hid hw0
  clear i1 i2 hw0
  go_enter Tryz.func22, Tryz.ntmps22
  go_wp2_with fail
  rw [← Hw0.out]
  refine (HA.out _).mono ?_
  rintro e wa ⟨rfl, ba⟩
  obtain ⟨⟨q0, q1, q2, q3⟩, _⟩ := I2.out.next ba
  have BA := Lib.hid ba
  clear ba
  go_wp2_with fail
  refine (HB.out _).mono ?_
  rintro e wb ⟨rfl, hbb⟩
  have BB := Lib.hid (chain BA.out hbb)
  clear q0 q1 q2 q3 hbb
  obtain ⟨⟨k0, k1, k2, k3⟩, _⟩ := I1.out.next BB.out
  obtain ⟨⟨k4, k5, k6, k7⟩, _⟩ := I2.out.next BB.out
  go_wp2_with fail
  go_region_held3 (fun W' => W'.cell? ⟨w.heap.size, 0, none⟩ = some (.bool false) ∧ W'.cell? ⟨w.heap.size, 1, none⟩ = some (.string s1) ∧ W'.cell? ⟨w.heap.size + 1, 0, none⟩ = some (.bool na2) ∧ W'.cell? ⟨w.heap.size + 1, 1, none⟩ = some (.string s2)) (go_keep)
    (first
      | (go_at_call 59; (with_reducible refine (HS1.out _).mono ?_); rintro e w1 ⟨rfl, b1⟩; have d1 := chain ((Below.refl _ _).drew) b1; have p0 := keep1 d1 k0; have p1 := keep1 d1 k1; have p4 := keep1 d1 k4; have p5 := keep1 d1 k5; have G1 := Lib.hid d1; clear b1)
      | (go_at_call 59; (with_reducible refine (HS2.out _).mono ?_); rintro e w2 ⟨rfl, b2⟩; have d2 := chain G1.out b2; have p0 := keep1 d2 k0; have p1 := keep1 d2 k1; have p4 := keep1 d2 k4; have p5 := keep1 d2 k5; have G2 := Lib.hid d2; clear b2)
      | fail)
  have C2 := Lib.hid (chain BB.out G2.out)
  clear k0 k1 k2 k3 k4 k5 k6 k7 p0 p1 p4 p5 G1 G2 d1 d2
  obtain ⟨⟨m0, m1, k2, k3⟩, _⟩ := I1.out.next C2.out
  obtain ⟨⟨k4, k5, m2, m3⟩, _⟩ := I2.out.next C2.out
  have hfl := field_limbs
  go_wp2_with fail
  go_region_held3 (fun W' => W'.cell? ⟨w.heap.size, 0, none⟩ = some (.bool false) ∧ W'.cell? ⟨w.heap.size, 1, none⟩ = some (.string s1) ∧ W'.cell? ⟨w.heap.size + 1, 2, none⟩ = some (.bool nb2) ∧ W'.cell? ⟨w.heap.size + 1, 3, none⟩ = some (.string t2)) (go_keep)
    (first
      | (go_at_call 63; (with_reducible refine (HR1.out _).mono ?_); rintro e wa1 ⟨v1, rfl, r1, b1⟩; have d1 := chain ((Below.refl w2.heap.size w2).drew) b1; have p0 := keep1 d1 m0; have p1 := keep1 d1 m1; have p2 := keep1 d1 m2; have p3 := keep1 d1 m3; have waG1 := Lib.hid (And.intro r1 d1); obtain ⟨x1, x2, x3, x4, rfl, x5⟩ := r1; clear x5 b1)
      | (go_at_call 63; (with_reducible refine (HR4.out _).mono ?_); rintro e wa2 ⟨v2, rfl, r2, b2⟩; have d2 := chain waG1.out.2 b2; have p0 := keep1 d2 m0; have p1 := keep1 d2 m1; have p2 := keep1 d2 m2; have p3 := keep1 d2 m3; have waG2 := Lib.hid (And.intro (waG1.out.1.below b2 (Nat.le_refl _)) (And.intro r2 d2)); obtain ⟨x6, x7, x8, x9, rfl, x10⟩ := r2; clear x10 b2)
      | (go_at_call 78; (with_reducible refine (HM1.out _ _ _ waG2.out.1 waG2.out.2.1).mono ?_); rintro e wa3 ⟨wav, rfl, r3, b3⟩; have d3 := chain waG2.out.2.2 b3; have p0 := keep1 d3 m0; have p1 := keep1 d3 m1; have p2 := keep1 d3 m2; have p3 := keep1 d3 m3; have waG3 := Lib.hid (And.intro r3 d3); clear b3)
      | fail)
  have C3 := Lib.hid (chain C2.out waG3.out.2)
  have RA := Lib.hid waG3.out.1
  clear m0 m1 m2 m3 k2 k3 k4 k5 p0 p1 p2 p3 waG1 waG2 d1 d2 d3 r3
  obtain ⟨⟨k0, k1, m2, m3⟩, _⟩ := I1.out.next C3.out
  obtain ⟨⟨m0, m1, k2, k3⟩, _⟩ := I2.out.next C3.out
  go_wp2_with fail
  go_region_held3 (fun W' => W'.cell? ⟨w.heap.size + 1, 0, none⟩ = some (.bool na2) ∧ W'.cell? ⟨w.heap.size + 1, 1, none⟩ = some (.string s2) ∧ W'.cell? ⟨w.heap.size, 2, none⟩ = some (.bool nb1) ∧ W'.cell? ⟨w.heap.size, 3, none⟩ = some (.string t1)) (go_keep)
    (first
      | (go_at_call 63; (with_reducible refine (HR3.out _).mono ?_); rintro e wb1 ⟨v1, rfl, r1, b1⟩; have d1 := chain ((Below.refl wa3.heap.size wa3).drew) b1; have p0 := keep1 d1 m0; have p1 := keep1 d1 m1; have p2 := keep1 d1 m2; have p3 := keep1 d1 m3; have wbG1 := Lib.hid (And.intro r1 d1); obtain ⟨x1, x2, x3, x4, rfl, x5⟩ := r1; clear x5 b1)
      | (go_at_call 63; (with_reducible refine (HR2.out _).mono ?_); rintro e wb2 ⟨v2, rfl, r2, b2⟩; have d2 := chain wbG1.out.2 b2; have p0 := keep1 d2 m0; have p1 := keep1 d2 m1; have p2 := keep1 d2 m2; have p3 := keep1 d2 m3; have wbG2 := Lib.hid (And.intro (wbG1.out.1.below b2 (Nat.le_refl _)) (And.intro r2 d2)); obtain ⟨x6, x7, x8, x9, rfl, x10⟩ := r2; clear x10 b2)
      | (go_at_call 78; (with_reducible refine (HM2.out _ _ _ wbG2.out.1 wbG2.out.2.1).mono ?_); rintro e wb3 ⟨wbv, rfl, r3, b3⟩; have d3 := chain wbG2.out.2.2 b3; have p0 := keep1 d3 m0; have p1 := keep1 d3 m1; have p2 := keep1 d3 m2; have p3 := keep1 d3 m3; have wbG3 := Lib.hid (And.intro r3 d3); clear b3)
      | fail)
  have C4 := Lib.hid (chain C3.out wbG3.out.2)
  have RA2 := Lib.hid (RA.out.below wbG3.out.2 (Nat.le_refl _))
  have RB := Lib.hid wbG3.out.1
  clear m0 m1 m2 m3 k0 k1 k2 k3 p0 p1 p2 p3 wbG1 wbG2 d1 d2 d3 r3
  obtain ⟨⟨k0, _⟩, _⟩ := I1.out.next C4.out
  go_wp2_with fail
  refine (HC.out _ _ _ RA2.out RB.out).mono ?_
  rintro e wz ⟨rfl, nn, rfl⟩
  have HZ := Lib.hid (chain hb0.out (belowDrewN C4.out nn))
  go_wp2
  go_ret2
  exact ⟨rfl, HZ.out⟩
end Go.Proofs.YtlmklhffafcmmaaGreat

/- The function wide.CompareRatio: negative ratios, signs that differ, what is not valid. -/
namespace Go.Proofs.YtlmklhffafcmmaaGreat
open Go.RowKit

set_option maxRecDepth 100000 in
set_option maxHeartbeats 4000000 in
theorem CompareRatio_neg (na1 nb1 na2 nb2 : Bool) (s1 t1 s2 t2 : ByteArray) (w : World)
    (v1 : vld na1 s1 = true) (v2 : vld nb1 t1 = true) (v3 : vld na2 s2 = true) (v4 : vld nb2 t2 = true) (g1 : 0 < sgV nb1 t1) (g2 : 0 < sgV nb2 t2) (hs : sgV na1 s1 = sgV na2 s2) (hn : na1 = true) :
    Calls Tryz.prog 22 #[rat na1 s1 nb1 t1, rat na2 s2 nb2 t2] w (CRPost (cmpN (bv s2 * bv t1) (bv s1 * bv t2)) w) := by
  subst hn
  have z1 := vld_size v1
  have z2 := vld_size v2
  have z3 := vld_size v3
  have z4 := vld_size v4
  have HV1 := ValidRatio_any true nb1 s1 t1
  have HV2 := ValidRatio_any na2 nb2 s2 t2
  have hvr1 : vldR true s1 nb1 t1 = true := by unfold vldR; rw [v1, decide_eq_true g1]; rfl
  have hvr2 : vldR na2 s2 nb2 t2 = true := by unfold vldR; rw [v3, decide_eq_true g2]; rfl
  rw [hvr1] at HV1
  rw [hvr2] at HV2
  have HA := Lib.hid (fun w => HV1 w (by omega) (by omega))
  have HB := Lib.hid (fun w => HV2 w (by omega) (by omega))
  have HR1 := Lib.hid (fun w => read_any true s1 w (by omega) (vld_can v1))
  have HR2 := Lib.hid (fun w => read_any nb1 t1 w (by omega) (vld_can v2))
  have HR3 := Lib.hid (fun w => read_any na2 s2 w (by omega) (vld_can v3))
  have HR4 := Lib.hid (fun w => read_any nb2 t2 w (by omega) (vld_can v4))
  have HS1 := Lib.hid (fun w => Sign_any true s1 w (by omega))
  have HS2 := Lib.hid (fun w => Sign_any na2 s2 w (by omega))
  rw [hs] at HS1
  have l1 := Nat.le_trans (len_top (bv_lt v1)) (by decide : 1024 ≤ 1000000000)
  have l2 := Nat.le_trans (len_top (bv_lt v2)) (by decide : 1024 ≤ 1000000000)
  have l3 := Nat.le_trans (len_top (bv_lt v3)) (by decide : 1024 ≤ 1000000000)
  have l4 := Nat.le_trans (len_top (bv_lt v4)) (by decide : 1024 ≤ 1000000000)
  have HM1 : Hid (∀ x1 x2 w, Rd w x1 (Nm.dg W (bv s1)) → Rd w x2 (Nm.dg W (bv t2)) → Calls Tryz.prog 78 #[x1, x2] w (Gives (bv s1 * bv t2) w)) := by
    intro x1 x2 w h1 h2
    have h := mulLimbs_any x1 x2 _ _ w h1 h2 l1 l4 (Nm.dig_dg W2 _) (Nm.dig_dg W2 _)
    rwa [Nm.val_dg W2, Nm.val_dg W2] at h
  have HM2 : Hid (∀ x1 x2 w, Rd w x1 (Nm.dg W (bv s2)) → Rd w x2 (Nm.dg W (bv t1)) → Calls Tryz.prog 78 #[x1, x2] w (Gives (bv s2 * bv t1) w)) := by
    intro x1 x2 w h1 h2
    have h := mulLimbs_any x1 x2 _ _ w h1 h2 l3 l2 (Nm.dig_dg W2 _) (Nm.dig_dg W2 _)
    rwa [Nm.val_dg W2, Nm.val_dg W2] at h
  have lm1 : (Nm.dg W (bv s1 * bv t2)).length ≤ 1000000000 := Nat.le_trans (len_top3 (bv_lt v1) (bv_lt v4)) (by decide)
  have lm2 : (Nm.dg W (bv s2 * bv t1)).length ≤ 1000000000 := Nat.le_trans (len_top3 (bv_lt v3) (bv_lt v2)) (by decide)
  have HC : Hid (∀ x1 x2 w, Rd w x1 (Nm.dg W (bv s2 * bv t1)) → Rd w x2 (Nm.dg W (bv s1 * bv t2)) → Calls Tryz.prog 79 #[x1, x2] w (CmpPost (cmpN (bv s2 * bv t1) (bv s1 * bv t2)) w)) := by
    intro x1 x2 w h1 h2
    have h := compareLimbs_any x1 x2 _ _ w h1 h2 lm2 lm1 (Nm.dig_dg W2 _) (Nm.dig_dg W2 _) (Nm.nrm_dg W2 _) (Nm.nrm_dg W2 _)
    rwa [Nm.val_dg W2, Nm.val_dg W2] at h
  clear HV1 HV2 hvr1 hvr2 v1 v2 v3 v4 g1 g2 hs l1 l2 l3 l4 lm1 lm2
  generalize cmpN (bv s2 * bv t1) (bv s1 * bv t2) = cc at *
  generalize bv s1 * bv t2 = K1 at *
  generalize bv s2 * bv t1 = K2 at *
  generalize bv s1 = M1 at *
  generalize bv t1 = N1 at *
  generalize bv s2 = M2 at *
  generalize bv t2 = N2 at *
  generalize sgV na2 s2 = sg at *
  unfold rat
  obtain ⟨w0, hw0⟩ : ∃ w0 : World, w0 = (w.alloc (.cells #[.bool true, .string s1, .bool nb1, .string t1] 27)).alloc (.cells #[.bool na2, .string s2, .bool nb2, .string t2] 27) := ⟨_, rfl⟩
  have hb0 : Hid (Below w.heap.size w w0) := by rw [hw0]; exact ((Below.refl _ _).alloc (Nat.le_refl _) _).alloc (by simp) _
  have i1 : ZC4 (.bool true) (.string s1) (.bool nb1) (.string t1) w0 w.heap.size := by
    rw [hw0]; refine ⟨⟨?_, ?_, ?_, ?_⟩, ?_, ?_, ?_, ?_⟩ <;> simp [go_sem]
  have i2 : ZC4 (.bool na2) (.string s2) (.bool nb2) (.string t2) w0 (w.heap.size + 1) := by
    rw [hw0]; refine ⟨⟨?_, ?_, ?_, ?_⟩, ?_, ?_, ?_, ?_⟩ <;> simp [go_sem]
  have I1 := Lib.hid i1
  have I2 := Lib.hid i2
  have Hw0 := Lib.hid hw0
  clear i1 i2 hw0
  go_enter Tryz.func22, Tryz.ntmps22
  go_wp2_with fail
  rw [← Hw0.out]
  refine (HA.out _).mono ?_
  rintro e wa ⟨rfl, ba⟩
  obtain ⟨⟨q0, q1, q2, q3⟩, _⟩ := I2.out.next ba
  have BA := Lib.hid ba
  clear ba
  go_wp2_with fail
  refine (HB.out _).mono ?_
  rintro e wb ⟨rfl, hbb⟩
  have BB := Lib.hid (chain BA.out hbb)
  clear q0 q1 q2 q3 hbb
  obtain ⟨⟨k0, k1, k2, k3⟩, _⟩ := I1.out.next BB.out
  obtain ⟨⟨k4, k5, k6, k7⟩, _⟩ := I2.out.next BB.out
  go_wp2_with fail
  go_region_held3 (fun W' => W'.cell? ⟨w.heap.size, 0, none⟩ = some (.bool true) ∧ W'.cell? ⟨w.heap.size, 1, none⟩ = some (.string s1) ∧ W'.cell? ⟨w.heap.size + 1, 0, none⟩ = some (.bool na2) ∧ W'.cell? ⟨w.heap.size + 1, 1, none⟩ = some (.string s2)) (go_keep)
    (first
      | (go_at_call 59; (with_reducible refine (HS1.out _).mono ?_); rintro e w1 ⟨rfl, b1⟩; have d1 := chain ((Below.refl _ _).drew) b1; have p0 := keep1 d1 k0; have p1 := keep1 d1 k1; have p4 := keep1 d1 k4; have p5 := keep1 d1 k5; have G1 := Lib.hid d1; clear b1)
      | (go_at_call 59; (with_reducible refine (HS2.out _).mono ?_); rintro e w2 ⟨rfl, b2⟩; have d2 := chain G1.out b2; have p0 := keep1 d2 k0; have p1 := keep1 d2 k1; have p4 := keep1 d2 k4; have p5 := keep1 d2 k5; have G2 := Lib.hid d2; clear b2)
      | fail)
  have C2 := Lib.hid (chain BB.out G2.out)
  clear k0 k1 k2 k3 k4 k5 k6 k7 p0 p1 p4 p5 G1 G2 d1 d2
  obtain ⟨⟨m0, m1, k2, k3⟩, _⟩ := I1.out.next C2.out
  obtain ⟨⟨k4, k5, m2, m3⟩, _⟩ := I2.out.next C2.out
  have hfl := field_limbs
  go_wp2_with fail
  go_region_held3 (fun W' => W'.cell? ⟨w.heap.size, 0, none⟩ = some (.bool true) ∧ W'.cell? ⟨w.heap.size, 1, none⟩ = some (.string s1) ∧ W'.cell? ⟨w.heap.size + 1, 2, none⟩ = some (.bool nb2) ∧ W'.cell? ⟨w.heap.size + 1, 3, none⟩ = some (.string t2)) (go_keep)
    (first
      | (go_at_call 63; (with_reducible refine (HR1.out _).mono ?_); rintro e wa1 ⟨v1, rfl, r1, b1⟩; have d1 := chain ((Below.refl w2.heap.size w2).drew) b1; have p0 := keep1 d1 m0; have p1 := keep1 d1 m1; have p2 := keep1 d1 m2; have p3 := keep1 d1 m3; have waG1 := Lib.hid (And.intro r1 d1); obtain ⟨x1, x2, x3, x4, rfl, x5⟩ := r1; clear x5 b1)
      | (go_at_call 63; (with_reducible refine (HR4.out _).mono ?_); rintro e wa2 ⟨v2, rfl, r2, b2⟩; have d2 := chain waG1.out.2 b2; have p0 := keep1 d2 m0; have p1 := keep1 d2 m1; have p2 := keep1 d2 m2; have p3 := keep1 d2 m3; have waG2 := Lib.hid (And.intro (waG1.out.1.below b2 (Nat.le_refl _)) (And.intro r2 d2)); obtain ⟨x6, x7, x8, x9, rfl, x10⟩ := r2; clear x10 b2)
      | (go_at_call 78; (with_reducible refine (HM1.out _ _ _ waG2.out.1 waG2.out.2.1).mono ?_); rintro e wa3 ⟨wav, rfl, r3, b3⟩; have d3 := chain waG2.out.2.2 b3; have p0 := keep1 d3 m0; have p1 := keep1 d3 m1; have p2 := keep1 d3 m2; have p3 := keep1 d3 m3; have waG3 := Lib.hid (And.intro r3 d3); clear b3)
      | fail)
  have C3 := Lib.hid (chain C2.out waG3.out.2)
  have RA := Lib.hid waG3.out.1
  clear m0 m1 m2 m3 k2 k3 k4 k5 p0 p1 p2 p3 waG1 waG2 d1 d2 d3 r3
  obtain ⟨⟨k0, k1, m2, m3⟩, _⟩ := I1.out.next C3.out
  obtain ⟨⟨m0, m1, k2, k3⟩, _⟩ := I2.out.next C3.out
  go_wp2_with fail
  go_region_held3 (fun W' => W'.cell? ⟨w.heap.size + 1, 0, none⟩ = some (.bool na2) ∧ W'.cell? ⟨w.heap.size + 1, 1, none⟩ = some (.string s2) ∧ W'.cell? ⟨w.heap.size, 2, none⟩ = some (.bool nb1) ∧ W'.cell? ⟨w.heap.size, 3, none⟩ = some (.string t1)) (go_keep)
    (first
      | (go_at_call 63; (with_reducible refine (HR3.out _).mono ?_); rintro e wb1 ⟨v1, rfl, r1, b1⟩; have d1 := chain ((Below.refl wa3.heap.size wa3).drew) b1; have p0 := keep1 d1 m0; have p1 := keep1 d1 m1; have p2 := keep1 d1 m2; have p3 := keep1 d1 m3; have wbG1 := Lib.hid (And.intro r1 d1); obtain ⟨x1, x2, x3, x4, rfl, x5⟩ := r1; clear x5 b1)
      | (go_at_call 63; (with_reducible refine (HR2.out _).mono ?_); rintro e wb2 ⟨v2, rfl, r2, b2⟩; have d2 := chain wbG1.out.2 b2; have p0 := keep1 d2 m0; have p1 := keep1 d2 m1; have p2 := keep1 d2 m2; have p3 := keep1 d2 m3; have wbG2 := Lib.hid (And.intro (wbG1.out.1.below b2 (Nat.le_refl _)) (And.intro r2 d2)); obtain ⟨x6, x7, x8, x9, rfl, x10⟩ := r2; clear x10 b2)
      | (go_at_call 78; (with_reducible refine (HM2.out _ _ _ wbG2.out.1 wbG2.out.2.1).mono ?_); rintro e wb3 ⟨wbv, rfl, r3, b3⟩; have d3 := chain wbG2.out.2.2 b3; have p0 := keep1 d3 m0; have p1 := keep1 d3 m1; have p2 := keep1 d3 m2; have p3 := keep1 d3 m3; have wbG3 := Lib.hid (And.intro r3 d3); clear b3)
      | fail)
  have C4 := Lib.hid (chain C3.out wbG3.out.2)
  have RA2 := Lib.hid (RA.out.below wbG3.out.2 (Nat.le_refl _))
  have RB := Lib.hid wbG3.out.1
  clear m0 m1 m2 m3 k0 k1 k2 k3 p0 p1 p2 p3 wbG1 wbG2 d1 d2 d3 r3
  obtain ⟨⟨k0, _⟩, _⟩ := I1.out.next C4.out
  go_wp2_with fail
  refine (HC.out _ _ _ RB.out RA2.out).mono ?_
  rintro e wz ⟨rfl, nn, rfl⟩
  have HZ := Lib.hid (chain hb0.out (belowDrewN C4.out nn))
  go_wp2
  go_ret2
  exact ⟨rfl, HZ.out⟩

set_option maxRecDepth 100000 in
set_option maxHeartbeats 4000000 in
theorem CompareRatio_diff (na1 nb1 na2 nb2 : Bool) (s1 t1 s2 t2 : ByteArray) (w : World)
    (v1 : vld na1 s1 = true) (v2 : vld nb1 t1 = true) (v3 : vld na2 s2 = true) (v4 : vld nb2 t2 = true) (g1 : 0 < sgV nb1 t1) (g2 : 0 < sgV nb2 t2) (hs : ¬ sgV na1 s1 = sgV na2 s2) :
    Calls Tryz.prog 22 #[rat na1 s1 nb1 t1, rat na2 s2 nb2 t2] w (CRPost (Lib.compareInt (sgV na1 s1) (sgV na2 s2)) w) := by
  have z1 := vld_size v1
  have z2 := vld_size v2
  have z3 := vld_size v3
  have z4 := vld_size v4
  have HV1 := ValidRatio_any na1 nb1 s1 t1
  have HV2 := ValidRatio_any na2 nb2 s2 t2
  have hvr1 : vldR na1 s1 nb1 t1 = true := by unfold vldR; rw [v1, decide_eq_true g1]; rfl
  have hvr2 : vldR na2 s2 nb2 t2 = true := by unfold vldR; rw [v3, decide_eq_true g2]; rfl
  rw [hvr1] at HV1
  rw [hvr2] at HV2
  have HA := Lib.hid (fun w => HV1 w (by omega) (by omega))
  have HB := Lib.hid (fun w => HV2 w (by omega) (by omega))
  have HS1 := Lib.hid (fun w => Sign_any na1 s1 w (by omega))
  have HS2 := Lib.hid (fun w => Sign_any na2 s2 w (by omega))
  clear HV1 HV2 hvr1 hvr2 v1 v2 v3 v4 g1 g2
  obtain ⟨u1, hu1⟩ : ∃ u, sgV na1 s1 = u := ⟨_, rfl⟩
  obtain ⟨u2, hu2⟩ : ∃ u, sgV na2 s2 = u := ⟨_, rfl⟩
  rw [hu1] at HS1 hs ⊢
  rw [hu2] at HS2 hs ⊢
  have hs2 : (u1 != u2) = true := by simp [hs]
  have HCC : Hid (∀ w, Calls Tryz.prog 77 #[.int .i64 u1, .int .i64 u2] w fun e w' => e = .returned (.int .i64 (Lib.compareInt u1 u2)) ∧ w' = w) := fun w => Tryz.cmp_Compare_int u1 u2 w
  generalize Lib.compareInt u1 u2 = cc at *
  clear hu1 hu2
  unfold rat
  obtain ⟨w0, hw0⟩ : ∃ w0 : World, w0 = (w.alloc (.cells #[.bool na1, .string s1, .bool nb1, .string t1] 27)).alloc (.cells #[.bool na2, .string s2, .bool nb2, .string t2] 27) := ⟨_, rfl⟩
  have hb0 : Hid (Below w.heap.size w w0) := by rw [hw0]; exact ((Below.refl _ _).alloc (Nat.le_refl _) _).alloc (by simp) _
  have i1 : ZC4 (.bool na1) (.string s1) (.bool nb1) (.string t1) w0 w.heap.size := by
    rw [hw0]; refine ⟨⟨?_, ?_, ?_, ?_⟩, ?_, ?_, ?_, ?_⟩ <;> simp [go_sem]
  have i2 : ZC4 (.bool na2) (.string s2) (.bool nb2) (.string t2) w0 (w.heap.size + 1) := by
    rw [hw0]; refine ⟨⟨?_, ?_, ?_, ?_⟩, ?_, ?_, ?_, ?_⟩ <;> simp [go_sem]
  have I1 := Lib.hid i1
  have I2 := Lib.hid i2
  have Hw0 := Lib.hid hw0
  clear i1 i2 hw0
  go_enter Tryz.func22, Tryz.ntmps22
  go_wp2_with fail
  rw [← Hw0.out]
  refine (HA.out _).mono ?_
  rintro e wa ⟨rfl, ba⟩
  obtain ⟨⟨q0, q1, q2, q3⟩, _⟩ := I2.out.next ba
  have BA := Lib.hid ba
  clear ba
  go_wp2_with fail
  refine (HB.out _).mono ?_
  rintro e wb ⟨rfl, hbb⟩
  have BB := Lib.hid (chain BA.out hbb)
  clear q0 q1 q2 q3 hbb
  obtain ⟨⟨k0, k1, k2, k3⟩, _⟩ := I1.out.next BB.out
  obtain ⟨⟨k4, k5, k6, k7⟩, _⟩ := I2.out.next BB.out
  go_wp2_with fail
  go_region_held3 (fun W' => W'.cell? ⟨w.heap.size, 0, none⟩ = some (.bool na1) ∧ W'.cell? ⟨w.heap.size, 1, none⟩ = some (.string s1) ∧ W'.cell? ⟨w.heap.size + 1, 0, none⟩ = some (.bool na2) ∧ W'.cell? ⟨w.heap.size + 1, 1, none⟩ = some (.string s2)) (go_keep)
    (first
      | (go_at_call 59; (with_reducible refine (HS1.out _).mono ?_); rintro e w1 ⟨rfl, b1⟩; have d1 := chain ((Below.refl _ _).drew) b1; have p0 := keep1 d1 k0; have p1 := keep1 d1 k1; have p4 := keep1 d1 k4; have p5 := keep1 d1 k5; have G1 := Lib.hid d1; clear b1)
      | (go_at_call 59; (with_reducible refine (HS2.out _).mono ?_); rintro e w2 ⟨rfl, b2⟩; have d2 := chain G1.out b2; have p0 := keep1 d2 k0; have p1 := keep1 d2 k1; have p4 := keep1 d2 k4; have p5 := keep1 d2 k5; have G2 := Lib.hid d2; clear b2)
      | fail)
  have C2 := Lib.hid (chain BB.out G2.out)
  clear k0 k1 k2 k3 k4 k5 k6 k7 p0 p1 p4 p5 G1 G2 d1 d2
  have HZ := Lib.hid (chain hb0.out C2.out)
  go_wp2_with fail
  refine (HCC.out _).mono ?_
  rintro e wz ⟨rfl, rfl⟩
  go_wp2
  go_ret2
  exact ⟨rfl, HZ.out⟩

set_option maxRecDepth 100000 in
set_option maxHeartbeats 2000000 in
theorem CompareRatio_bad1 (na1 nb1 na2 nb2 : Bool) (s1 t1 s2 t2 : ByteArray) (w : World) (z1 : s1.size ≤ 140737488351232) (z2 : t1.size ≤ 140737488351232) (z3 : s2.size ≤ 140737488351232) (z4 : t2.size ≤ 140737488351232) (h1 : vldR na1 s1 nb1 t1 = false) :
    Calls Tryz.prog 22 #[rat na1 s1 nb1 t1, rat na2 s2 nb2 t2] w (fun e w' => e = .returned (.tuple #[.int .i64 0, .int .i64 2]) ∧ Below w.heap.size w w') := by
  have HA := Lib.hid (fun w => ValidRatio_any na1 nb1 s1 t1 w z1 z2)
  rw [h1] at HA
  unfold BPost at *
  skip
  unfold rat
  obtain ⟨w0, hw0⟩ : ∃ w0 : World, w0 = (w.alloc (.cells #[.bool na1, .string s1, .bool nb1, .string t1] 27)).alloc (.cells #[.bool na2, .string s2, .bool nb2, .string t2] 27) := ⟨_, rfl⟩
  have hb0 : Hid (Below w.heap.size w w0) := by rw [hw0]; exact ((Below.refl _ _).alloc (Nat.le_refl _) _).alloc (by simp) _
  have I2 : Hid (ZC4 (.bool na2) (.string s2) (.bool nb2) (.string t2) w0 (w.heap.size + 1)) := by
    show ZC4 _ _ _ _ _ _
    rw [hw0]; refine ⟨⟨?_, ?_, ?_, ?_⟩, ?_, ?_, ?_, ?_⟩ <;> simp [go_sem]
  have Hw0 := Lib.hid hw0
  clear hw0
  go_enter Tryz.func22, Tryz.ntmps22
  go_wp2_with fail
  rw [← Hw0.out]
  refine (HA.out _).mono ?_
  rintro e wa ⟨rfl, ba⟩
  have D := Lib.hid ba
  clear ba
  have HZ := Lib.hid (chain hb0.out D.out)
  go_wp2
  exact bodyPost_ret (v := .tuple #[.int .i64 0, .int .i64 2]) (by simp [results, Tryz.results22, go_sem]) rfl ⟨rfl, HZ.out⟩

set_option maxRecDepth 100000 in
set_option maxHeartbeats 2000000 in
theorem CompareRatio_bad2 (na1 nb1 na2 nb2 : Bool) (s1 t1 s2 t2 : ByteArray) (w : World) (z1 : s1.size ≤ 140737488351232) (z2 : t1.size ≤ 140737488351232) (z3 : s2.size ≤ 140737488351232) (z4 : t2.size ≤ 140737488351232) (h1 : vldR na1 s1 nb1 t1 = true) (h2 : vldR na2 s2 nb2 t2 = false) :
    Calls Tryz.prog 22 #[rat na1 s1 nb1 t1, rat na2 s2 nb2 t2] w (fun e w' => e = .returned (.tuple #[.int .i64 0, .int .i64 2]) ∧ Below w.heap.size w w') := by
  have HA := Lib.hid (fun w => ValidRatio_any na1 nb1 s1 t1 w z1 z2)
  rw [h1] at HA
  have HB := Lib.hid (fun w => ValidRatio_any na2 nb2 s2 t2 w z3 z4)
  rw [h2] at HB
  unfold BPost at *
  skip
  unfold rat
  obtain ⟨w0, hw0⟩ : ∃ w0 : World, w0 = (w.alloc (.cells #[.bool na1, .string s1, .bool nb1, .string t1] 27)).alloc (.cells #[.bool na2, .string s2, .bool nb2, .string t2] 27) := ⟨_, rfl⟩
  have hb0 : Hid (Below w.heap.size w w0) := by rw [hw0]; exact ((Below.refl _ _).alloc (Nat.le_refl _) _).alloc (by simp) _
  have I2 : Hid (ZC4 (.bool na2) (.string s2) (.bool nb2) (.string t2) w0 (w.heap.size + 1)) := by
    show ZC4 _ _ _ _ _ _
    rw [hw0]; refine ⟨⟨?_, ?_, ?_, ?_⟩, ?_, ?_, ?_, ?_⟩ <;> simp [go_sem]
  have Hw0 := Lib.hid hw0
  clear hw0
  go_enter Tryz.func22, Tryz.ntmps22
  go_wp2_with fail
  rw [← Hw0.out]
  refine (HA.out _).mono ?_
  rintro e wa ⟨rfl, ba⟩
  have D := Lib.hid ba
  clear ba
  obtain ⟨⟨q0, q1, q2, q3⟩, _⟩ := I2.out.next D.out
  go_wp2_with fail
  refine (HB.out _).mono ?_
  rintro e wb ⟨rfl, bb⟩
  have D := Lib.hid (chain D.out bb)
  clear bb q0 q1 q2 q3
  have HZ := Lib.hid (chain hb0.out D.out)
  go_wp2
  exact bodyPost_ret (v := .tuple #[.int .i64 0, .int .i64 2]) (by simp [results, Tryz.results22, go_sem]) rfl ⟨rfl, HZ.out⟩

theorem CompareRatio_bad (na1 nb1 na2 nb2 : Bool) (s1 t1 s2 t2 : ByteArray) (w : World) (z1 : s1.size ≤ 140737488351232) (z2 : t1.size ≤ 140737488351232) (z3 : s2.size ≤ 140737488351232) (z4 : t2.size ≤ 140737488351232) (h : (vldR na1 s1 nb1 t1 && vldR na2 s2 nb2 t2) = false) :
    Calls Tryz.prog 22 #[rat na1 s1 nb1 t1, rat na2 s2 nb2 t2] w (fun e w' => e = .returned (.tuple #[.int .i64 0, .int .i64 2]) ∧ Below w.heap.size w w') := by
  cases h1 : vldR na1 s1 nb1 t1 with
  | false => exact CompareRatio_bad1 na1 nb1 na2 nb2 s1 t1 s2 t2 w z1 z2 z3 z4 h1
  | true => exact CompareRatio_bad2 na1 nb1 na2 nb2 s1 t1 s2 t2 w z1 z2 z3 z4 h1 (by rw [h1] at h; simpa using h)
end Go.Proofs.YtlmklhffafcmmaaGreat
