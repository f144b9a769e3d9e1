/- What the theorem leans on, part 7: VRat, Low, Frac, Ratio, Comb, Q1. -/
import Derived.Test.YtlmklhffafcmmaaGreatV6
import Derived.Test.YtlmklhffafcmmaaGreatV5
import Derived.Test.YtlmklhffafcmmaaGreatV4

/- The function wide.ValidRatio. -/
namespace Go.Proofs.YtlmklhffafcmmaaGreat
open Go.RowKit

/-- The ratio with these parts is valid. -/
def vldR (a : Bool) (s : ByteArray) (b : Bool) (t : ByteArray) : Bool := vld a s && decide (0 < sgV b t)
/-- A ratio as a value. -/
def rat (a : Bool) (s : ByteArray) (b : Bool) (t : ByteArray) : Value := .agg #[.bool a, .string s, .bool b, .string t]

set_option maxRecDepth 100000 in
set_option maxHeartbeats 1000000 in
theorem ValidRatio_any (a b : Bool) (s t : ByteArray) (w : World) (z1 : s.size ≤ 140737488351232) (z2 : t.size ≤ 140737488351232) :
    Calls Tryz.prog 12 #[.agg #[.bool a, .string s, .bool b, .string t]] w (BPost (vldR a s b t) w) := by
  have HA := Lib.hid (fun w => Valid_any a s w z1)
  have HB := Lib.hid (fun w => Sign_any b t w z2)
  unfold vldR
  generalize vld a s = va at *
  obtain ⟨sg, hsg⟩ : ∃ sg, sgV b t = sg := ⟨_, rfl⟩
  rw [hsg] at HB ⊢
  clear hsg
  cases va with
  | false =>
    go_enter Tryz.func12, Tryz.ntmps12
    go_wp2_with fail
    refine (HA.out _).mono ?_
    rintro e wa ⟨rfl, hba⟩
    have HZ := Lib.hid (chain (below_one w _) hba)
    clear hba
    go_wp2
    go_ret
    exact ⟨rfl, HZ.out⟩
  | true =>
    go_enter Tryz.func12, Tryz.ntmps12
    go_wp2_with fail
    refine (HA.out _).mono ?_
    rintro e wa ⟨rfl, hba⟩
    have k2 := keep1 hba (p := ⟨w.heap.size, 2, none⟩) (v := .bool b) (by simp [go_sem])
    have k3 := keep1 hba (p := ⟨w.heap.size, 3, none⟩) (v := .string t) (by simp [go_sem])
    have HBa := Lib.hid (chain (below_one w _) hba)
    clear hba
    go_wp2_with fail
    refine (HB.out _).mono ?_
    rintro e wb ⟨rfl, hbb⟩
    have HZ := Lib.hid (chain HBa.out hbb)
    clear hbb
    go_wp2
    go_ret
    exact ⟨by simp, HZ.out⟩
end Go.Proofs.YtlmklhffafcmmaaGreat

/- The function wide.lowest where nothing is too large. -/
namespace Go.Proofs.YtlmklhffafcmmaaGreat
open Go.RowKit

/-- A ratio and an error code come back. -/
def RPost (a : Bool) (s : ByteArray) (b : Bool) (t : ByteArray) (c : Int) (w : World) (e : Ending) (w' : World) : Prop := e = .returned (.tuple #[rat a s b t, .int .i64 c]) ∧ Below w.heap.size w w'
theorem wd_form (a : Bool) (m : Nat) : ∃ b s, wd a m = .agg #[.bool b, .string s] := ⟨_, _, rfl⟩
theorem below_set4 {B : Nat} {a w : World} {g : Nat} (h : Below B a w) (hg : B ≤ g) (u0 u1 u2 u3 : Value) : Below B a ((((w.setCell ⟨g, 0, none⟩ u0).setCell ⟨g, 1, none⟩ u1).setCell ⟨g, 2, none⟩ u2).setCell ⟨g, 3, none⟩ u3) :=
  (((h.setCell (p := ⟨g, 0, none⟩) hg _).setCell (p := ⟨g, 1, none⟩) hg _).setCell (p := ⟨g, 2, none⟩) hg _).setCell (p := ⟨g, 3, none⟩) hg _

set_option maxRecDepth 100000 in
set_option maxHeartbeats 2000000 in
theorem lowest_ok (a b : Bool) (v1 v2 : Value) (m n g A B : Nat) (w : World) (hg : GcdOK m n) (e0 : Nat.gcd m n = g) (d1 : DivOK m g) (d2 : DivOK n g) (e1 : m / g = A) (e2 : n / g = B)
    (h1 : Rd w v1 (Nm.dg W m)) (h2 : Rd w v2 (Nm.dg W n)) (l1 : (Nm.dg W A).length ≤ 1000000) (l2 : (Nm.dg W B).length ≤ 1000000) (t1 : A < Top) (t2 : B < Top) :
    Calls Tryz.prog 62 #[.agg #[.bool a, v1], .agg #[.bool b, v2]] w (RPost ((a != b) && decide (A ≠ 0)) (bs A) false (bs B) 0 w) := by
  obtain ⟨ab, hab⟩ : ∃ ab, (a != b) = ab := ⟨_, rfl⟩
  have HW1 := Lib.hid (fun v w h => write_any ab v A w h l1)
  have HW2 := Lib.hid (fun v w h => write_any false v B w h l2)
  rw [wres_ok _ t1, werr_ok t1] at HW1
  rw [wres_ok _ t2, werr_ok t2] at HW2
  have HG : Hid (∀ v1 v2 w, Rd w v1 (Nm.dg W m) → Rd w v2 (Nm.dg W n) → Calls Tryz.prog 120 #[v1, v2] w (Gives g w)) := by rw [← e0]; exact hg
  have HD1 : Hid (∀ v1 v2 w, Rd w v1 (Nm.dg W m) → Rd w v2 (Nm.dg W g) → Calls Tryz.prog 127 #[v1, v2] w (DivPost m g w)) := d1
  have HD2 : Hid (∀ v1 v2 w, Rd w v1 (Nm.dg W n) → Rd w v2 (Nm.dg W g) → Calls Tryz.prog 127 #[v1, v2] w (DivPost n g w)) := d2
  unfold DivPost at HD1 HD2
  rw [e1] at HD1
  rw [e2] at HD2
  rw [hab]
  have hab2 : (!(a == b)) = ab := hab
  clear hab
  have hx : wd ab A = .agg #[.bool (ab && decide (A ≠ 0)), .string (bs A)] := rfl
  have hy : wd false B = .agg #[.bool false, .string (bs B)] := by rw [wd]; simp
  rw [hx] at HW1
  rw [hy] at HW2
  generalize (ab && decide (A ≠ 0)) = xb at *
  generalize bs A = xs at *
  generalize bs B = ys at *
  have H1 := Lib.hid h1
  have H2 := Lib.hid h2
  clear hx hy t1 t2 l1 l2 e0 e1 e2 hg d1 d2
  generalize m % g = mr at *
  generalize n % g = nr at *
  obtain ⟨p1, b1, o1, c1, rfl, hr1⟩ := h1
  obtain ⟨p2, b2, o2, c2, rfl, hr2⟩ := h2
  clear hr1 hr2
  generalize (Nm.dg W m).length = s1 at *
  generalize (Nm.dg W n).length = s2 at *
  obtain ⟨w0, hw0⟩ : ∃ w0 : World, w0 = ((w.alloc (.cells #[.bool a, .slice p1 s1 c1] 86)).alloc (.cells #[.bool b, .slice p2 s2 c2] 86)).alloc (.cells #[.bool false, .string ⟨#[]⟩, .bool false, .string ⟨#[]⟩] 27) := ⟨_, rfl⟩
  have hb0 : Hid (Below w.heap.size w w0) := by rw [hw0]; exact (((Below.refl _ _).alloc (Nat.le_refl _) _).alloc (by simp) _).alloc (by simp; omega) _
  have k0 : w0.cell? ⟨w.heap.size, 0, none⟩ = some (.bool a) := by rw [hw0]; simp [go_sem]
  have k1 : w0.cell? ⟨w.heap.size, 1, none⟩ = some (.slice p1 s1 c1) := by rw [hw0]; simp [go_sem]
  have k2 : w0.cell? ⟨w.heap.size + 1, 0, none⟩ = some (.bool b) := by rw [hw0]; simp [go_sem]
  have k3 : w0.cell? ⟨w.heap.size + 1, 1, none⟩ = some (.slice p2 s2 c2) := by rw [hw0]; simp [go_sem]
  have k4 : w0.cell? ⟨w.heap.size + 1 + 1, 0, none⟩ = some (.bool false) ∧ w0.cell? ⟨w.heap.size + 1 + 1, 1, none⟩ = some (.string ⟨#[]⟩) ∧ w0.cell? ⟨w.heap.size + 1 + 1, 2, none⟩ = some (.bool false) ∧ w0.cell? ⟨w.heap.size + 1 + 1, 3, none⟩ = some (.string ⟨#[]⟩) := by
    rw [hw0]; refine ⟨?_, ?_, ?_, ?_⟩ <;> simp [go_sem]
  have k5 : w0.frozen? ⟨w.heap.size + 1 + 1, 0, none⟩ = false ∧ w0.frozen? ⟨w.heap.size + 1 + 1, 1, none⟩ = false ∧ w0.frozen? ⟨w.heap.size + 1 + 1, 2, none⟩ = false ∧ w0.frozen? ⟨w.heap.size + 1 + 1, 3, none⟩ = false := by
    rw [hw0]; refine ⟨?_, ?_, ?_, ?_⟩ <;> simp [go_sem]
  have hsz : w0.heap.size = w.heap.size + 3 := by rw [hw0]; simp
  have KK := Lib.hid (And.intro k0 (And.intro k1 (And.intro k2 k3)))
  have KR := Lib.hid (And.intro k4 k5)
  have Hsz := Lib.hid hsz
  have Hw0 := Lib.hid hw0
  clear k0 k1 k2 k3 k4 k5 hw0 hsz
  have R1 := Lib.hid (H1.out.below hb0.out (Nat.le_refl _))
  have R2 := Lib.hid (H2.out.below hb0.out (Nat.le_refl _))
  clear H1 H2
  go_enter Tryz.func62, Tryz.ntmps62
  go_wp2_with fail
  rw [← Hw0.out]
  refine (HG.out _ _ _ R1.out R2.out).mono ?_
  rintro e wa ⟨v3, rfl, r3, ba⟩
  have q0 := keep1 ba KK.out.1
  have q1 := keep1 ba KK.out.2.1
  have q2 := keep1 ba KK.out.2.2.1
  have q3 := keep1 ba KK.out.2.2.2
  have BA := Lib.hid ba
  have RG := Lib.hid r3
  have R1a := Lib.hid (R1.out.below ba (Nat.le_refl _))
  have R2a := Lib.hid (R2.out.below ba (Nat.le_refl _))
  clear ba r3 R1 R2
  go_wp2_with fail
  refine (HD1.out _ _ _ R1a.out RG.out).mono ?_
  rintro e wb ⟨v4, v5, rfl, r4, r5, bb⟩
  have q0 := keep1 bb q0
  have q1 := keep1 bb q1
  have q2 := keep1 bb q2
  have q3 := keep1 bb q3
  have BB := Lib.hid (chain BA.out bb)
  have RGb := Lib.hid (RG.out.below bb (Nat.le_refl _))
  have R2b := Lib.hid (R2a.out.below bb (Nat.le_refl _))
  have RA := Lib.hid r4
  obtain ⟨p4, b4, o4, c4, rfl, hr4⟩ := r4
  clear bb r5 hr4 R1a R2a RG
  go_wp2_with fail
  refine (HD2.out _ _ _ R2b.out RGb.out).mono ?_
  rintro e wc ⟨v6, v7, rfl, r6, r7, bc⟩
  have q0 := keep1 bc q0
  have q1 := keep1 bc q1
  have q2 := keep1 bc q2
  have q3 := keep1 bc q3
  have BC := Lib.hid (chain BB.out bc)
  have RAc := Lib.hid (RA.out.below bc (Nat.le_refl _))
  have RB := Lib.hid r6
  obtain ⟨p6, b6, o6, c6, rfl, hr6⟩ := r6
  clear bc r7 hr6 R2b RGb RA
  go_wp2_with fail
  refine (HW1.out _ _ RAc.out).mono ?_
  rintro e wd1 ⟨rfl, bd⟩
  have BD := Lib.hid (chain BC.out bd)
  have RBd := Lib.hid (RB.out.below bd (Nat.le_refl _))
  clear bd q0 q1 q2 q3 RAc RB hab2
  go_wp2_with fail
  refine (HW2.out _ _ (RBd.out.alloc _)).mono ?_
  rintro e we ⟨rfl, be⟩
  have BE := chain (BD.out.alloc BD.out.size _) be
  obtain ⟨z1, z2, z3, z4⟩ := (ZC.new (x := .bool xb) (y := .string xs) (t := 23) (w := wd1) rfl).next be
  have s0 := be.size
  have s1 := BD.out.size
  have s2 := Hsz.out
  have f1 : ¬ we.heap.size = wd1.heap.size := by simp at s0; omega
  have f2 : ¬ wd1.heap.size = we.heap.size := by simp at s0; omega
  have f3 : ¬ wd1.heap.size = w.heap.size + 1 + 1 := by omega
  have f4 : ¬ we.heap.size = w.heap.size + 1 + 1 := by simp at s0; omega
  have f5 : ¬ w.heap.size + 1 + 1 = we.heap.size := by simp at s0; omega
  have f6 : wd1.heap.size < we.heap.size := by simp at s0; omega
  have f7 : w.heap.size + 1 + 1 < we.heap.size := by simp at s0; omega
  have q0 := keep1 BE KR.out.1.1
  have q1 := keep1 BE KR.out.1.2.1
  have q2 := keep1 BE KR.out.1.2.2.1
  have q3 := keep1 BE KR.out.1.2.2.2
  have q4 := keepf BE KR.out.1.1 KR.out.2.1
  have q5 := keepf BE KR.out.1.2.1 KR.out.2.2.1
  have q6 := keepf BE KR.out.1.2.2.1 KR.out.2.2.2.1
  have q7 := keepf BE KR.out.1.2.2.2 KR.out.2.2.2.2
  have HZ := Lib.hid ((below_set4 (chain hb0.out BE) (g := w.heap.size + 1 + 1) (by omega) (.bool xb) (.string xs) (.bool false) (.string ys)).alloc (by simpa using (chain hb0.out BE).size) (.cells #[.bool false, .string ys] 23))
  clear be BE s0 s1 s2 BD RBd
  go_wp2
  exact bodyPost_ret (v := .tuple #[.agg #[.bool xb, .string xs, .bool false, .string ys], .int .i64 0]) (by simp [results, Tryz.results62, go_sem, q0, q1, q2, q3, f4, f5, f7]) rfl ⟨rfl, HZ.out⟩
end Go.Proofs.YtlmklhffafcmmaaGreat

/- The function literals of wide.AddRatio and wide.MulRatio: the numerator above the product of both denominators. -/
namespace Go.Proofs.YtlmklhffafcmmaaGreat
open Go.RowKit

def FracOK (f : Nat) (a1 b1 a2 b2 : Bool) (m1 n1 m2 n2 : Nat) (s : Bool) (k : Nat) : Prop := ∀ x1 y1 x2 y2 w, Rd w x1 (Nm.dg W m1) → Rd w y1 (Nm.dg W n1) → Rd w x2 (Nm.dg W m2) → Rd w y2 (Nm.dg W n2) →
  Calls Tryz.prog f #[.agg #[.bool a1, x1, .bool b1, y1], .agg #[.bool a2, x2, .bool b2, y2]] w (NumPost s k w)

set_option maxRecDepth 100000 in
set_option maxHeartbeats 2000000 in
theorem mulFrac (a1 b1 a2 b2 : Bool) (m1 n1 m2 n2 : Nat) (l1 : (Nm.dg W m1).length ≤ 1000000000) (l3 : (Nm.dg W m2).length ≤ 1000000000) :
    FracOK 86 a1 b1 a2 b2 m1 n1 m2 n2 (a1 != a2) (m1 * m2) := by
  intro x1 y1 x2 y2 w h1 h2 h3 h4
  have HC := Lib.hid (fun W' (hb : Below w.heap.size w W') => times_any a1 a2 x1 x2 m1 m2 W' (h1.below hb (Nat.le_refl _)) (h3.below hb (Nat.le_refl _)) l1 l3)
  generalize (a1 != a2) = s at *
  generalize m1 * m2 = k at *
  obtain ⟨p1, q1, o1, c1, rfl, hr1⟩ := h1
  obtain ⟨p2, q2, o2, c2, rfl, hr2⟩ := h2
  obtain ⟨p3, q3, o3, c3, rfl, hr3⟩ := h3
  obtain ⟨p4, q4, o4, c4, rfl, hr4⟩ := h4
  clear hr1 hr2 hr3 hr4 l1 l3
  generalize (Nm.dg W m1).length = len1 at *
  generalize (Nm.dg W n1).length = len2 at *
  generalize (Nm.dg W m2).length = len3 at *
  generalize (Nm.dg W n2).length = len4 at *
  obtain ⟨w0, hw0⟩ : ∃ w0 : World, w0 = ((w.alloc (.cells #[.bool a1, .slice p1 len1 c1, .bool b1, .slice p2 len2 c2] 105)).alloc (.cells #[.bool a2, .slice p3 len3 c3, .bool b2, .slice p4 len4 c4] 105)).alloc (.cells #[.bool false, .slice none 0 0] 86) := ⟨_, rfl⟩
  have hb0 : Hid (Below w.heap.size w w0) := by rw [hw0]; exact (((Below.refl _ _).alloc (Nat.le_refl _) _).alloc (by simp) _).alloc (by simp; omega) _
  have k4 : w0.cell? ⟨w.heap.size + 1 + 1, 0, none⟩ = some (.bool false) := by rw [hw0]; simp [go_sem]
  have k5 : w0.cell? ⟨w.heap.size + 1 + 1, 1, none⟩ = some (.slice none 0 0) := by rw [hw0]; simp [go_sem]
  have k6 : w0.frozen? ⟨w.heap.size + 1 + 1, 0, none⟩ = false := by rw [hw0]; simp [go_sem]
  have k7 : w0.frozen? ⟨w.heap.size + 1 + 1, 1, none⟩ = false := by rw [hw0]; simp [go_sem]
  have KK := Lib.hid (And.intro k4 (And.intro k5 (And.intro k6 k7)))
  have Hw0 := Lib.hid hw0
  clear k4 k5 k6 k7 hw0
  go_enter Tryz.func86, Tryz.ntmps86
  go_wp2_with fail
  rw [← Hw0.out]
  refine (HC.out _ hb0.out).mono ?_
  rintro e w' ⟨v9, rfl, r9, b9⟩
  have y0 := keep1 b9 KK.out.1
  have y1 := keep1 b9 KK.out.2.1
  have y2 := keepf b9 KK.out.1 KK.out.2.2.1
  have y3 := keepf b9 KK.out.2.1 KK.out.2.2.2
  have HR := Lib.hid r9
  obtain ⟨p9, q9, o9, c9, rfl, hr9⟩ := r9
  have HZ := Lib.hid (below_set2 (chain hb0.out b9) (g := w.heap.size + 1 + 1) (by omega) (.bool s) (.slice p9 (Nm.dg W k).length c9))
  have HR2 := Lib.hid (HR.out.set2 ⟨y0, y1, y2, y3⟩ (.bool s) (.slice p9 (Nm.dg W k).length c9))
  clear b9 hr9
  go_wp2
  exact bodyPost_ret (v := .agg #[.bool s, .slice p9 (Nm.dg W k).length c9]) (by simp [results, Tryz.results86, go_sem, y0, y1]) rfl ⟨_, rfl, HR2.out, HZ.out⟩

set_option maxRecDepth 100000 in
set_option maxHeartbeats 2000000 in
theorem addFrac (a1 b1 a2 b2 : Bool) (m1 n1 m2 n2 : Nat) (l1 : (Nm.dg W m1).length ≤ 1000000000) (l2 : (Nm.dg W n1).length ≤ 1000000000) (l3 : (Nm.dg W m2).length ≤ 1000000000) (l4 : (Nm.dg W n2).length ≤ 1000000000)
    (l5 : (Nm.dg W (m1 * n2)).length ≤ 1000000000) (l6 : (Nm.dg W (m2 * n1)).length ≤ 1000000000) :
    FracOK 81 a1 b1 a2 b2 m1 n1 m2 n2 (pls (a1 != b2) (m1 * n2) (a2 != b1) (m2 * n1)).1 (pls (a1 != b2) (m1 * n2) (a2 != b1) (m2 * n1)).2 := by
  intro x1 y1 x2 y2 w h1 h2 h3 h4
  have HC1 := Lib.hid (fun W' (hb : Below w.heap.size w W') => times_any a1 b2 x1 y2 m1 n2 W' (h1.below hb (Nat.le_refl _)) (h4.below hb (Nat.le_refl _)) l1 l4)
  have HC2 := Lib.hid (fun W' (hb : Below w.heap.size w W') => times_any a2 b1 x2 y1 m2 n1 W' (h3.below hb (Nat.le_refl _)) (h2.below hb (Nat.le_refl _)) l3 l2)
  generalize (a1 != b2) = s1 at *
  generalize (a2 != b1) = s2 at *
  generalize m1 * n2 = k1 at *
  generalize m2 * n1 = k2 at *
  have HP := Lib.hid (fun v1 v2 w h1 h2 => plus_any s1 s2 v1 v2 k1 k2 w h1 h2 l5 l6)
  generalize (pls s1 k1 s2 k2).1 = s at *
  generalize (pls s1 k1 s2 k2).2 = k at *
  obtain ⟨p1, q1, o1, c1, rfl, hr1⟩ := h1
  obtain ⟨p2, q2, o2, c2, rfl, hr2⟩ := h2
  obtain ⟨p3, q3, o3, c3, rfl, hr3⟩ := h3
  obtain ⟨p4, q4, o4, c4, rfl, hr4⟩ := h4
  clear hr1 hr2 hr3 hr4 l1 l2 l3 l4 l5 l6
  generalize (Nm.dg W m1).length = len1 at *
  generalize (Nm.dg W n1).length = len2 at *
  generalize (Nm.dg W m2).length = len3 at *
  generalize (Nm.dg W n2).length = len4 at *
  obtain ⟨w0, hw0⟩ : ∃ w0 : World, w0 = ((w.alloc (.cells #[.bool a1, .slice p1 len1 c1, .bool b1, .slice p2 len2 c2] 105)).alloc (.cells #[.bool a2, .slice p3 len3 c3, .bool b2, .slice p4 len4 c4] 105)).alloc (.cells #[.bool false, .slice none 0 0] 86) := ⟨_, rfl⟩
  have hb0 : Hid (Below w.heap.size w w0) := by rw [hw0]; exact (((Below.refl _ _).alloc (Nat.le_refl _) _).alloc (by simp) _).alloc (by simp; omega) _
  have i0 : w0.cell? ⟨w.heap.size, 0, none⟩ = some (.bool a1) := by rw [hw0]; simp [go_sem]
  have i1 : w0.cell? ⟨w.heap.size, 1, none⟩ = some (.slice p1 len1 c1) := by rw [hw0]; simp [go_sem]
  have i2 : w0.cell? ⟨w.heap.size, 2, none⟩ = some (.bool b1) := by rw [hw0]; simp [go_sem]
  have i3 : w0.cell? ⟨w.heap.size, 3, none⟩ = some (.slice p2 len2 c2) := by rw [hw0]; simp [go_sem]
  have i4 : w0.cell? ⟨w.heap.size + 1, 0, none⟩ = some (.bool a2) := by rw [hw0]; simp [go_sem]
  have i5 : w0.cell? ⟨w.heap.size + 1, 1, none⟩ = some (.slice p3 len3 c3) := by rw [hw0]; simp [go_sem]
  have i6 : w0.cell? ⟨w.heap.size + 1, 2, none⟩ = some (.bool b2) := by rw [hw0]; simp [go_sem]
  have i7 : w0.cell? ⟨w.heap.size + 1, 3, none⟩ = some (.slice p4 len4 c4) := by rw [hw0]; simp [go_sem]
  have k4 : w0.cell? ⟨w.heap.size + 1 + 1, 0, none⟩ = some (.bool false) := by rw [hw0]; simp [go_sem]
  have k5 : w0.cell? ⟨w.heap.size + 1 + 1, 1, none⟩ = some (.slice none 0 0) := by rw [hw0]; simp [go_sem]
  have k6 : w0.frozen? ⟨w.heap.size + 1 + 1, 0, none⟩ = false := by rw [hw0]; simp [go_sem]
  have k7 : w0.frozen? ⟨w.heap.size + 1 + 1, 1, none⟩ = false := by rw [hw0]; simp [go_sem]
  have KK := Lib.hid (And.intro k4 (And.intro k5 (And.intro k6 k7)))
  have Hw0 := Lib.hid hw0
  have n1 : ¬ (w.heap.size = w.heap.size + 1 + 1) := by omega
  have n2 : ¬ (w.heap.size + 1 + 1 = w.heap.size) := by omega
  clear k4 k5 k6 k7 hw0
  go_enter Tryz.func81, Tryz.ntmps81
  go_wp2_with fail
  rw [← Hw0.out]
  go_region_held3 (fun W' => W'.cell? ⟨w.heap.size, 0, none⟩ = some (.bool a1) ∧ W'.cell? ⟨w.heap.size, 1, none⟩ = some (.slice p1 len1 c1) ∧ W'.cell? ⟨w.heap.size, 2, none⟩ = some (.bool b1) ∧ W'.cell? ⟨w.heap.size, 3, none⟩ = some (.slice p2 len2 c2) ∧ W'.cell? ⟨w.heap.size + 1, 0, none⟩ = some (.bool a2) ∧ W'.cell? ⟨w.heap.size + 1, 1, none⟩ = some (.slice p3 len3 c3) ∧ W'.cell? ⟨w.heap.size + 1, 2, none⟩ = some (.bool b2) ∧ W'.cell? ⟨w.heap.size + 1, 3, none⟩ = some (.slice p4 len4 c4)) (go_keep)
    (first
      | (go_at_call 83; (with_reducible refine (HC1.out _ (chain hb0.out ((Below.refl _ _).drew))).mono ?_); rintro e w1 ⟨v5, rfl, r5, b5⟩; have d1 := chain ((Below.refl _ _).drew) b5; have j0 := keep1 d1 i0; have j1 := keep1 d1 i1; have j2 := keep1 d1 i2; have j3 := keep1 d1 i3; have j4 := keep1 d1 i4; have j5 := keep1 d1 i5; have j6 := keep1 d1 i6; have j7 := keep1 d1 i7; have G1 := Lib.hid (And.intro r5 d1); obtain ⟨p5, q5, o5, c5, rfl, hr5⟩ := r5; clear hr5 b5 d1)
      | (go_at_call 83; (with_reducible refine (HC2.out _ (chain hb0.out G1.out.2)).mono ?_); rintro e w2 ⟨v6, rfl, r6, b6⟩; have d2 := chain G1.out.2 b6; have j0 := keep1 d2 i0; have j1 := keep1 d2 i1; have j2 := keep1 d2 i2; have j3 := keep1 d2 i3; have j4 := keep1 d2 i4; have j5 := keep1 d2 i5; have j6 := keep1 d2 i6; have j7 := keep1 d2 i7; have G2 := Lib.hid (And.intro (G1.out.1.below b6 (Nat.le_refl _)) (And.intro r6 d2)); obtain ⟨p6, q6, o6, c6, rfl, hr6⟩ := r6; clear hr6 b6 d2)
      | (go_at_call 82; (with_reducible refine (HP.out _ _ _ G2.out.1 G2.out.2.1).mono ?_); rintro e w3 ⟨v7, rfl, r7, b7⟩; have d3 := chain G2.out.2.2 b7; have j0 := keep1 d3 i0; have j1 := keep1 d3 i1; have j2 := keep1 d3 i2; have j3 := keep1 d3 i3; have j4 := keep1 d3 i4; have j5 := keep1 d3 i5; have j6 := keep1 d3 i6; have j7 := keep1 d3 i7; have y0 := keep1 d3 KK.out.1; have y1 := keep1 d3 KK.out.2.1; have y2 := keepf d3 KK.out.1 KK.out.2.2.1; have y3 := keepf d3 KK.out.2.1 KK.out.2.2.2; have G3 := Lib.hid (And.intro r7 d3); obtain ⟨p9, q9, o9, c9, rfl, hr9⟩ := r7; clear hr9 b7 d3)
      | fail)
  have HZ := Lib.hid (below_set2 (chain hb0.out G3.out.2) (g := w.heap.size + 1 + 1) (by omega) (.bool s) (.slice p9 (Nm.dg W k).length c9))
  have HR2 := Lib.hid (G3.out.1.set2 ⟨y0, y1, y2, y3⟩ (.bool s) (.slice p9 (Nm.dg W k).length c9))
  go_wp2
  exact bodyPost_ret (v := .agg #[.bool s, .slice p9 (Nm.dg W k).length c9]) (by simp [results, Tryz.results81, go_sem, y0, y1]) rfl ⟨_, rfl, HR2.out, HZ.out⟩
end Go.Proofs.YtlmklhffafcmmaaGreat

/- The functions wide.Ratio and wide.RatioOf where nothing fails. -/
namespace Go.Proofs.YtlmklhffafcmmaaGreat
open Go.RowKit

/-- A numerator and a denominator that come down to A over B. -/
def LowOK (m n A B : Nat) : Prop := GcdOK m n ∧ DivOK m (Nat.gcd m n) ∧ DivOK n (Nat.gcd m n) ∧ m / Nat.gcd m n = A ∧ n / Nat.gcd m n = B ∧ (Nm.dg W A).length ≤ 1000000 ∧ (Nm.dg W B).length ≤ 1000000 ∧ A < Top ∧ B < Top
theorem lowest_of {m n A B : Nat} (h : LowOK m n A B) (a b : Bool) (v1 v2 : Value) (w : World) (h1 : Rd w v1 (Nm.dg W m)) (h2 : Rd w v2 (Nm.dg W n)) :
    Calls Tryz.prog 62 #[.agg #[.bool a, v1], .agg #[.bool b, v2]] w (RPost ((a != b) && decide (A ≠ 0)) (bs A) false (bs B) 0 w) := by
  obtain ⟨g1, g2, g3, g4, g5, g6, g7, g8, g9⟩ := h
  exact lowest_ok a b v1 v2 m n _ A B w g1 rfl g2 g3 g4 g5 h1 h2 g6 g7 g8 g9

set_option maxRecDepth 100000 in
set_option maxHeartbeats 2000000 in
theorem Ratio_ok (a b : Bool) (s t : ByteArray) (A B : Nat) (w : World) (hl : LowOK (bv s) (bv t) A B) (hv1 : vld a s = true) (hv2 : vld b t = true) (h0 : 0 < bv t) :
    Calls Tryz.prog 9 #[.agg #[.bool a, .string s], .agg #[.bool b, .string t]] w (RPost ((a != b) && decide (A ≠ 0)) (bs A) false (bs B) 0 w) := by
  have z1 := vld_size hv1
  have z2 := vld_size hv2
  have HV1 := Valid_any a s
  have HV2 := Valid_any b t
  rw [hv1] at HV1
  rw [hv2] at HV2
  have HA := Lib.hid (fun w => HV1 w (by omega))
  have HB := Lib.hid (fun w => HV2 w (by omega))
  have HR1 := Lib.hid (fun w => read_any a s w (by omega) (vld_can hv1))
  have HR2 := Lib.hid (fun w => read_any b t w (by omega) (vld_can hv2))
  have HP := Lib.hid (lowest_of hl a b)
  have ht0 : 0 < t.size := by
    rcases Nat.eq_zero_or_pos t.size with h | h
    · rw [empty_of h] at h0; exact absurd h0 (by decide)
    · exact h
  have he := nonempty_str t ht0
  have he2 : (t.toList == []) = false := by
    cases hd : t.toList with
    | nil => rw [hd] at he; simp at he
    | cons x l => rfl
  clear HV1 HV2 hv1 hv2 hl h0 ht0
  generalize ((a != b) && decide (A ≠ 0)) = xb at *
  generalize bs A = xs at *
  generalize bs B = ys at *
  generalize bv s = m at *
  generalize bv t = n at *
  obtain ⟨w0, hw0⟩ : ∃ w0 : World, w0 = ((w.alloc (.cells #[.bool a, .string s] 23)).alloc (.cells #[.bool b, .string t] 23)).alloc (.cells #[.bool false, .string ⟨#[]⟩, .bool false, .string ⟨#[]⟩] 27) := ⟨_, rfl⟩
  have hb0 : Hid (Below w.heap.size w w0) := by rw [hw0]; exact (((Below.refl _ _).alloc (Nat.le_refl _) _).alloc (by simp) _).alloc (by simp; omega) _
  have k0 : w0.cell? ⟨w.heap.size, 0, none⟩ = some (.bool a) := by rw [hw0]; simp [go_sem]
  have k1 : w0.cell? ⟨w.heap.size, 1, none⟩ = some (.string s) := by rw [hw0]; simp [go_sem]
  have k2 : w0.cell? ⟨w.heap.size + 1, 0, none⟩ = some (.bool b) := by rw [hw0]; simp [go_sem]
  have k3 : w0.cell? ⟨w.heap.size + 1, 1, none⟩ = some (.string t) := by rw [hw0]; simp [go_sem]
  have k4 : w0.cell? ⟨w.heap.size + 1 + 1, 0, none⟩ = some (.bool false) ∧ w0.cell? ⟨w.heap.size + 1 + 1, 1, none⟩ = some (.string ⟨#[]⟩) ∧ w0.cell? ⟨w.heap.size + 1 + 1, 2, none⟩ = some (.bool false) ∧ w0.cell? ⟨w.heap.size + 1 + 1, 3, none⟩ = some (.string ⟨#[]⟩) := by
    rw [hw0]; refine ⟨?_, ?_, ?_, ?_⟩ <;> simp [go_sem]
  have k5 : w0.frozen? ⟨w.heap.size + 1 + 1, 0, none⟩ = false ∧ w0.frozen? ⟨w.heap.size + 1 + 1, 1, none⟩ = false ∧ w0.frozen? ⟨w.heap.size + 1 + 1, 2, none⟩ = false ∧ w0.frozen? ⟨w.heap.size + 1 + 1, 3, none⟩ = false := by
    rw [hw0]; refine ⟨?_, ?_, ?_, ?_⟩ <;> simp [go_sem]
  have KK := Lib.hid (And.intro k0 (And.intro k1 (And.intro k2 k3)))
  have KR := Lib.hid (And.intro k4 k5)
  have Hw0 := Lib.hid hw0
  clear k0 k1 k2 k3 k4 k5 hw0
  go_enter Tryz.func9, Tryz.ntmps9
  go_wp2_with fail
  rw [← Hw0.out]
  refine (HA.out _).mono ?_
  rintro e wa ⟨rfl, hba⟩
  have q2 := keep1 hba KK.out.2.2.1
  have q3 := keep1 hba KK.out.2.2.2
  have HBa := Lib.hid hba
  clear hba
  go_wp2_with fail
  refine (HB.out _).mono ?_
  rintro e wb ⟨rfl, hbb⟩
  have hbc := chain HBa.out hbb
  have k0 := keep1 hbc KK.out.1
  have k1 := keep1 hbc KK.out.2.1
  have k2 := keep1 hbc KK.out.2.2.1
  have k3 := keep1 hbc KK.out.2.2.2
  have KS := Lib.hid (And.intro (And.intro (keep1 hbc KR.out.1.1) (And.intro (keep1 hbc KR.out.1.2.1) (And.intro (keep1 hbc KR.out.1.2.2.1) (keep1 hbc KR.out.1.2.2.2)))) (And.intro (keepf hbc KR.out.1.1 KR.out.2.1) (And.intro (keepf hbc KR.out.1.2.1 KR.out.2.2.1) (And.intro (keepf hbc KR.out.1.2.2.1 KR.out.2.2.2.1) (keepf hbc KR.out.1.2.2.2 KR.out.2.2.2.2)))))
  have HBc := Lib.hid (chain hb0.out hbc)
  have n1 : ¬ (w.heap.size = w.heap.size + 1 + 1) := by omega
  have n2 : ¬ (w.heap.size + 1 + 1 = w.heap.size) := by omega
  clear q2 q3 hbb hbc
  go_wp2_with fail
  go_region_held3 (fun W' => W'.cell? ⟨w.heap.size, 0, none⟩ = some (.bool a) ∧ W'.cell? ⟨w.heap.size, 1, none⟩ = some (.string s) ∧ W'.cell? ⟨w.heap.size + 1, 0, none⟩ = some (.bool b) ∧ W'.cell? ⟨w.heap.size + 1, 1, none⟩ = some (.string t)) (go_keep)
    (first
      | (go_at_call 63; (with_reducible refine (HR1.out _).mono ?_); rintro e w1 ⟨v1, rfl, r1, b1⟩; have c1 := chain ((Below.refl _ _).drew) b1; have p0 := keep1 c1 k0; have p1 := keep1 c1 k1; have p2 := keep1 c1 k2; have p3 := keep1 c1 k3; have G1 := Lib.hid (And.intro r1 c1); obtain ⟨x1, x2, x3, x4, rfl, x5⟩ := r1; clear x5 b1 c1)
      | (go_at_call 63; (with_reducible refine (HR2.out _).mono ?_); rintro e w2 ⟨v2, rfl, r2, b2⟩; have c2 := chain G1.out.2 b2; have p0 := keep1 c2 k0; have p1 := keep1 c2 k1; have p2 := keep1 c2 k2; have p3 := keep1 c2 k3; have G2 := Lib.hid (And.intro (G1.out.1.below b2 (Nat.le_refl _)) (And.intro r2 c2)); obtain ⟨x6, x7, x8, x9, rfl, x10⟩ := r2; clear x10 b2 c2)
      | (go_at_call 62; (with_reducible refine (HP.out _ _ _ G2.out.1 G2.out.2.1).mono ?_); rintro e w3 ⟨rfl, b3⟩; have c3 := chain G2.out.2.2 b3; have p0 := keep1 c3 k0; have p1 := keep1 c3 k1; have p2 := keep1 c3 k2; have p3 := keep1 c3 k3; have y0 := keep1 c3 KS.out.1.1; have y1 := keep1 c3 KS.out.1.2.1; have y2 := keep1 c3 KS.out.1.2.2.1; have y3 := keep1 c3 KS.out.1.2.2.2; have y4 := keepf c3 KS.out.1.1 KS.out.2.1; have y5 := keepf c3 KS.out.1.2.1 KS.out.2.2.1; have y6 := keepf c3 KS.out.1.2.2.1 KS.out.2.2.2.1; have y7 := keepf c3 KS.out.1.2.2.2 KS.out.2.2.2.2; have G4 := Lib.hid c3; unfold rat at *; clear b3 c3)
      | fail)
  have HZ := Lib.hid (below_set4 (chain HBc.out G4.out) (g := w.heap.size + 1 + 1) (by omega) (.bool xb) (.string xs) (.bool false) (.string ys))
  go_wp2
  exact bodyPost_ret (v := .tuple #[.agg #[.bool xb, .string xs, .bool false, .string ys], .int .i64 0]) (by simp [results, Tryz.results9, go_sem, y0, y1, y2, y3]) rfl ⟨rfl, HZ.out⟩
end Go.Proofs.YtlmklhffafcmmaaGreat

/- The function wide.combine where nothing fails, with the function literals of wide.AddRatio and wide.MulRatio; these two functions. -/
namespace Go.Proofs.YtlmklhffafcmmaaGreat
open Go.RowKit

def ZC4 (x y z u : Value) (w : World) (g : Nat) : Prop := (w.cell? ⟨g, 0, none⟩ = some x ∧ w.cell? ⟨g, 1, none⟩ = some y ∧ w.cell? ⟨g, 2, none⟩ = some z ∧ w.cell? ⟨g, 3, none⟩ = some u) ∧ w.frozen? ⟨g, 0, none⟩ = false ∧ w.frozen? ⟨g, 1, none⟩ = false ∧ w.frozen? ⟨g, 2, none⟩ = false ∧ w.frozen? ⟨g, 3, none⟩ = false
section
variable {x y z u x' y' z' u' : Value} {w w2 w3 : World} {t : TypeId} {g : Nat}
theorem ZC4.next (h : ZC4 x y z u w2 g) (b : Below w2.heap.size w2 w3) : ZC4 x y z u w3 g :=
  ⟨⟨keep1 b h.1.1, keep1 b h.1.2.1, keep1 b h.1.2.2.1, keep1 b h.1.2.2.2⟩, keepf b h.1.1 h.2.1, keepf b h.1.2.1 h.2.2.1, keepf b h.1.2.2.1 h.2.2.2.1, keepf b h.1.2.2.2 h.2.2.2.2⟩
theorem ZC4.made0 (w2 : World) : ZC4 x y z u (w2.alloc (.cells #[x, y, z, u] t)) w2.heap.size := by
  refine ⟨⟨?_, ?_, ?_, ?_⟩, ?_, ?_, ?_, ?_⟩ <;> simp [go_sem]
theorem ZC4.made (hg : w2.heap.size = g) (b3 : Below (w2.alloc (.cells #[x, y, z, u] t)).heap.size (w2.alloc (.cells #[x, y, z, u] t)) w3) : ZC4 x y z u w3 g := by
  subst hg
  exact (ZC4.made0 w2).next b3
theorem ZC4.set (h : ZC4 x' y' z' u' w g) : ZC4 x y z u ((((w.setCell ⟨g, 0, none⟩ x).setCell ⟨g, 1, none⟩ y).setCell ⟨g, 2, none⟩ z).setCell ⟨g, 3, none⟩ u) g := by
  obtain ⟨⟨h1, h2, h3, h4⟩, h5, h6, h7, h8⟩ := h
  refine ⟨⟨?_, ?_, ?_, ?_⟩, ?_, ?_, ?_, ?_⟩ <;> simp [go_sem, h1, h2, h3, h4, h5, h6, h7, h8]
theorem Rd.set4 {v : Value} {xs : List Nat} {b0 b1 : Bool} {p p' : Option Addr} {n c n' c' : Nat} (h : Rd w v xs) (q : ZC4 (.bool b0) (.slice p n c) (.bool b1) (.slice p' n' c') w g) (x y z u : Value) : Rd ((((w.setCell ⟨g, 0, none⟩ x).setCell ⟨g, 1, none⟩ y).setCell ⟨g, 2, none⟩ z).setCell ⟨g, 3, none⟩ u) v xs := by
  obtain ⟨⟨h1, h2, h3, h4⟩, _⟩ := q
  refine (((h.set h1 (fun _ => by simp)).set (old := .slice p n c) ?_ (fun _ => by simp)).set (old := .bool b1) ?_ (fun _ => by simp)).set (old := .slice p' n' c') ?_ (fun _ => by simp) <;> simp [go_sem, h1, h2, h3, h4]
end
theorem far6 {a x : Nat} (h : a + 3 ≤ x) : ¬(x = a) ∧ ¬(x = a+1) ∧ ¬(x = a+1+1) ∧ ¬(a = x) ∧ ¬(a+1 = x) ∧ ¬(a+1+1 = x) ∧ a < x ∧ a+1 < x ∧ a+1+1 < x := ⟨by omega, by omega, by omega, by omega, by omega, by omega, by omega, by omega, by omega⟩
/-- A fraction lies in a block that is new. -/
def CutF (a b : Bool) (s1 s2 : Value) (X1 X2 : List Nat) (B : Nat) (wb wx : World) (g : Nat) : Prop := B ≤ g ∧ ZC4 (.bool a) s1 (.bool b) s2 wx g ∧ Rd wx s1 X1 ∧ Rd wx s2 X2 ∧ Below B wb wx ∧ g < wx.heap.size
section
variable {a b : Bool} {s1 s2 : Value} {X1 X2 : List Nat} {B : Nat} {wb w3 : World} {t : TypeId} {b0 b1 : Bool} {p p' : Option Addr} {n c n' c' g : Nat}
theorem CutF.k1 (r1 : Rd w3 s1 X1) (r2 : Rd w3 s2 X2) (h : Below B wb w3) (hB : B ≤ w3.heap.size) : CutF a b s1 s2 X1 X2 B wb (w3.alloc (.cells #[.bool a, s1, .bool b, s2] t)) w3.heap.size :=
  ⟨hB, ZC4.made0 w3, r1.alloc _, r2.alloc _, h.alloc hB _, by simp⟩
theorem CutF.k2 (q : ZC4 (.bool b0) (.slice p n c) (.bool b1) (.slice p' n' c') w3 g) (hg : B ≤ g) (r1 : Rd w3 s1 X1) (r2 : Rd w3 s2 X2) (h : Below B wb w3) :
    CutF a b s1 s2 X1 X2 B wb ((((w3.setCell ⟨g, 0, none⟩ (.bool a)).setCell ⟨g, 1, none⟩ s1).setCell ⟨g, 2, none⟩ (.bool b)).setCell ⟨g, 3, none⟩ s2) g :=
  ⟨hg, q.set, r1.set4 q _ _ _ _, r2.set4 q _ _ _ _, below_set4 h hg _ _ _ _, by
    have := World.block_lt_of_cell? w3 _ q.1.1
    simpa using this⟩
theorem CutF.drew {wx : World} (h : CutF a b s1 s2 X1 X2 B wb wx g) : CutF a b s1 s2 X1 X2 B wb wx.drew g := ⟨h.1, h.2.1, h.2.2.1, h.2.2.2.1, h.2.2.2.2.1.drew, h.2.2.2.2.2⟩
end

set_option maxRecDepth 100000 in
set_option maxHeartbeats 4000000 in
theorem combine_add (na1 nb1 na2 nb2 : Bool) (s1 t1 s2 t2 : ByteArray) (sg : Bool) (k A B : Nat) (w : World) (hf : FracOK 81 na1 nb1 na2 nb2 (bv s1) (bv t1) (bv s2) (bv t2) sg k) (hl : LowOK k (bv t1 * bv t2) A B)
    (v1 : vld na1 s1 = true) (v2 : vld nb1 t1 = true) (v3 : vld na2 s2 = true) (v4 : vld nb2 t2 = true) (g1 : 0 < sgV nb1 t1) (g2 : 0 < sgV nb2 t2) :
    Calls Tryz.prog 80 #[rat na1 s1 nb1 t1, rat na2 s2 nb2 t2, .func (Fn.func 81) #[] #[]] w (RPost ((sg != (nb1 != nb2)) && decide (A ≠ 0)) (bs A) false (bs B) 0 w) := by
  have z1 := vld_size v1
  have z2 := vld_size v2
  have z3 := vld_size v3
  have z4 := vld_size v4
  have HV1 := ValidRatio_any na1 nb1 s1 t1
  have HV2 := ValidRatio_any na2 nb2 s2 t2
  have hvr1 : vldR na1 s1 nb1 t1 = true := by unfold vldR; rw [v1, decide_eq_true g1]; rfl
  have hvr2 : vldR na2 s2 nb2 t2 = true := by unfold vldR; rw [v3, decide_eq_true g2]; rfl
  rw [hvr1] at HV1
  rw [hvr2] at HV2
  have HA := Lib.hid (fun w => HV1 w (by omega) (by omega))
  have HB := Lib.hid (fun w => HV2 w (by omega) (by omega))
  have HR1 := Lib.hid (fun w => read_any na1 s1 w (by omega) (vld_can v1))
  have HR2 := Lib.hid (fun w => read_any nb1 t1 w (by omega) (vld_can v2))
  have HR3 := Lib.hid (fun w => read_any na2 s2 w (by omega) (vld_can v3))
  have HR4 := Lib.hid (fun w => read_any nb2 t2 w (by omega) (vld_can v4))
  have HT := Lib.hid (fun y1 y2 w h1 h2 => times_any nb1 nb2 y1 y2 (bv t1) (bv t2) w h1 h2 (Nat.le_trans (len_top (bv_lt v2)) (by decide)) (Nat.le_trans (len_top (bv_lt v4)) (by decide)))
  have HF := Lib.hid hf
  have HL := Lib.hid (lowest_of hl sg (nb1 != nb2))
  clear HV1 HV2 hvr1 hvr2 v1 v2 v3 v4 g1 g2 hf hl
  unfold FracOK at HF
  generalize ((sg != (nb1 != nb2)) && decide (A ≠ 0)) = xb at *
  generalize (nb1 != nb2) = bb at *
  generalize bs A = xs at *
  generalize bs B = ys at *
  generalize bv t1 * bv t2 = nn at *
  generalize bv s1 = M1 at *
  generalize bv t1 = N1 at *
  generalize bv s2 = M2 at *
  generalize bv t2 = N2 at *
  unfold rat
  obtain ⟨w0, hw0⟩ : ∃ w0 : World, w0 = ((w.alloc (.cells #[.bool na1, .string s1, .bool nb1, .string t1] 27)).alloc (.cells #[.bool na2, .string s2, .bool nb2, .string t2] 27)).alloc (.cells #[.bool false, .string ⟨#[]⟩, .bool false, .string ⟨#[]⟩] 27) := ⟨_, rfl⟩
  have hb0 : Hid (Below w.heap.size w w0) := by rw [hw0]; exact (((Below.refl _ _).alloc (Nat.le_refl _) _).alloc (by simp) _).alloc (by simp; omega) _
  have i1 : ZC4 (.bool na1) (.string s1) (.bool nb1) (.string t1) w0 w.heap.size := by
    rw [hw0]; refine ⟨⟨?_, ?_, ?_, ?_⟩, ?_, ?_, ?_, ?_⟩ <;> simp [go_sem]
  have i2 : ZC4 (.bool na2) (.string s2) (.bool nb2) (.string t2) w0 (w.heap.size + 1) := by
    rw [hw0]; refine ⟨⟨?_, ?_, ?_, ?_⟩, ?_, ?_, ?_, ?_⟩ <;> simp [go_sem]
  have i3 : ZC4 (.bool false) (.string ⟨#[]⟩) (.bool false) (.string ⟨#[]⟩) w0 (w.heap.size + 1 + 1) := by
    rw [hw0]; refine ⟨⟨?_, ?_, ?_, ?_⟩, ?_, ?_, ?_, ?_⟩ <;> simp [go_sem]
  have hsz : w.heap.size + 3 ≤ w0.heap.size := by rw [hw0]; simp
  have I1 := Lib.hid i1
  have I2 := Lib.hid i2
  have I3 := Lib.hid i3
  have Hsz := Lib.hid hsz
  have Hw0 := Lib.hid hw0
  clear i1 i2 i3 hw0 hsz
  go_enter Tryz.func80, Tryz.ntmps80
  go_wp2_with fail
  rw [← Hw0.out]
  refine (HA.out _).mono ?_
  rintro e wa ⟨rfl, ba⟩
  obtain ⟨⟨q0, q1, q2, q3⟩, _⟩ := I2.out.next ba
  have BA := Lib.hid ba
  clear ba
  go_wp2_with fail
  refine (HB.out _).mono ?_
  rintro e wb ⟨rfl, hbb⟩
  have BB := Lib.hid (chain BA.out hbb)
  clear q0 q1 q2 q3 hbb
  obtain ⟨⟨k0, k1, k2, k3⟩, _⟩ := I1.out.next BB.out
  have HSB : Hid (w.heap.size + 3 ≤ wb.heap.size) := Nat.le_trans Hsz.out BB.out.size
  go_upto_region 3 with (fail)
  obtain ⟨jba, jbb, jbc, jbd, jbe, jbf, jbg, jbh, jbi⟩ := far6 HSB.out
  go_cut [8] (fun s8 wx => ∃ (g8 : Nat) (y1 y2 : Option Addr) (l1 c1 l2 c2 : Nat), s8 = .pointer (some ⟨g8, 0, none⟩) ∧ Hid (CutF na1 nb1 (.slice y1 l1 c1) (.slice y2 l2 c2) (Nm.dg W M1) (Nm.dg W N1) wb.heap.size wb wx g8))
  case first =>
    rename_i J0 K0 hRJ hMK
    go_region_held3 (fun W' => W'.cell? ⟨w.heap.size, 0, none⟩ = some (.bool na1) ∧ W'.cell? ⟨w.heap.size, 1, none⟩ = some (.string s1) ∧ W'.cell? ⟨w.heap.size, 2, none⟩ = some (.bool nb1) ∧ W'.cell? ⟨w.heap.size, 3, none⟩ = some (.string t1)) (go_keep)
      (first
        | (go_at_call 63; (with_reducible refine (HR1.out _).mono ?_); rintro e w1 ⟨v1, rfl, r1, b1⟩; (try (have b1 := undrew b1)); have d1 : Below wb.heap.size wb w1 := chain (by first | exact Below.refl _ _ | exact (Below.refl _ _).drew | exact below_one _ _ | exact ((Below.refl _ _).drew).alloc (Nat.le_refl _) _) b1; have c1 : Below wb.heap.size wb w1 := d1; have p0 := keep1 c1 k0; have p1 := keep1 c1 k1; have p2 := keep1 c1 k2; have p3 := keep1 c1 k3; obtain ⟨j1a, j1b, j1c, j1d, j1e, j1f, j1g, j1h, j1i⟩ := far6 (show w.heap.size + 3 ≤ w1.heap.size from Nat.le_trans HSB.out c1.size); (try (have A0 := Lib.hid (ZC4.made (g := wb.heap.size) rfl b1); obtain ⟨⟨A0a, A0b, A0c, A0d⟩, A0e, A0f, A0g, A0h⟩ := A0.out)); (try (have L01 := Lib.hid (apart_b (g := wb.heap.size) rfl b1); obtain ⟨l01x, l01y, l01z⟩ := L01.out)); have G1 := Lib.hid r1; obtain ⟨pp1, bb1, oo1, cc1, rfl, rr1⟩ := r1; clear rr1)
        | (go_at_call 63; (with_reducible refine (HR2.out _).mono ?_); rintro e w2 ⟨v2, rfl, r2, b2⟩; (try (have b2 := undrew b2)); have d2 : Below w1.heap.size w1 w2 := chain (by first | exact Below.refl _ _ | exact (Below.refl _ _).drew | exact below_one _ _ | exact ((Below.refl _ _).drew).alloc (Nat.le_refl _) _) b2; have c2 : Below wb.heap.size wb w2 := chain c1 d2; have p0 := keep1 c2 k0; have p1 := keep1 c2 k1; have p2 := keep1 c2 k2; have p3 := keep1 c2 k3; obtain ⟨j2a, j2b, j2c, j2d, j2e, j2f, j2g, j2h, j2i⟩ := far6 (show w.heap.size + 3 ≤ w2.heap.size from Nat.le_trans HSB.out c2.size); (try (have A1 := Lib.hid (ZC4.made (g := w1.heap.size) rfl b2); obtain ⟨⟨A1a, A1b, A1c, A1d⟩, A1e, A1f, A1g, A1h⟩ := A1.out)); (try (have A0 := Lib.hid (A0.out.next d2); obtain ⟨⟨A0a, A0b, A0c, A0d⟩, A0e, A0f, A0g, A0h⟩ := A0.out)); (try (have L02 := Lib.hid (apart_t L01.out d2.size); obtain ⟨l02x, l02y, l02z⟩ := L02.out)); (try (have L12 := Lib.hid (apart_b (g := w1.heap.size) rfl b2); obtain ⟨l12x, l12y, l12z⟩ := L12.out)); have G2 := Lib.hid (And.intro (G1.out.below d2 (Nat.le_refl _)) r2); obtain ⟨pp2, bb2, oo2, cc2, rfl, rr2⟩ := r2; clear rr2)
        | fail)
    all_goals
      obtain ⟨r1, r2⟩ := G2.out
      refine hMK _ _ (Met.intro (hRJ _ _ ?_))
      (repeat apply Exists.intro)
      refine ⟨?_, rfl⟩
      refine ⟨_, pp1, pp2, (Nm.dg W M1).length, cc1, (Nm.dg W N1).length, cc2, rfl, ?_⟩
      show CutF na1 nb1 (.slice pp1 _ cc1) (.slice pp2 _ cc2) (Nm.dg W M1) (Nm.dg W N1) wb.heap.size wb _ _
      have sA0 : wb.heap.size ≤ wb.heap.size := Nat.le_refl _
      have sA1 : wb.heap.size ≤ w1.heap.size := c1.size
      have sA2 : wb.heap.size ≤ w2.heap.size := c2.size
      first
        | with_reducible exact (CutF.k1 r1 r2 c2 sA2)
        | with_reducible exact (CutF.k2 A0.out sA0 r1 r2 c2)
        | with_reducible exact (CutF.k2 A1.out sA1 r1 r2 c2)
        | with_reducible exact (CutF.k1 r1 r2 c2 sA2).drew
        | with_reducible exact (CutF.k2 A0.out sA0 r1 r2 c2).drew
        | with_reducible exact (CutF.k2 A1.out sA1 r1 r2 c2).drew
        | fail
  case rest =>
    obtain ⟨g8, y1, y2, l1, c1, l2, c2, rfl, hcut⟩ := hcut
    obtain ⟨hg8, z8, r1, r2, bx, lg8⟩ := hcut.out
    have Z8 := Lib.hid z8
    have RR1 := Lib.hid r1
    have RR2 := Lib.hid r2
    have BX := Lib.hid (chain BB.out bx)
    have LG8 : Hid (w.heap.size + 3 ≤ g8) := Nat.le_trans HSB.out hg8
    have hsb2 : w.heap.size + 3 ≤ wc.heap.size := Nat.le_trans HSB.out bx.size
    clear HSB jba jbb jbc jbd jbe jbf jbg jbh jbi k0 k1 k2 k3 hcut hg8 z8 r1 r2 bx lg8
    have HSB := Lib.hid hsb2
    clear hsb2
    obtain ⟨⟨k0, k1, k2, k3⟩, _⟩ := I2.out.next BX.out
    go_upto_region 4 with (fail)
    obtain ⟨jba, jbb, jbc, jbd, jbe, jbf, jbg, jbh, jbi⟩ := far6 HSB.out
    go_cut [9] (fun s8 wx => ∃ (g8 : Nat) (y1 y2 : Option Addr) (l1 c1 l2 c2 : Nat), s8 = .pointer (some ⟨g8, 0, none⟩) ∧ Hid (CutF na2 nb2 (.slice y1 l1 c1) (.slice y2 l2 c2) (Nm.dg W M2) (Nm.dg W N2) wc.heap.size wc wx g8))
    case first =>
      rename_i J0 K0 hRJ hMK
      go_region_held3 (fun W' => W'.cell? ⟨w.heap.size + 1, 0, none⟩ = some (.bool na2) ∧ W'.cell? ⟨w.heap.size + 1, 1, none⟩ = some (.string s2) ∧ W'.cell? ⟨w.heap.size + 1, 2, none⟩ = some (.bool nb2) ∧ W'.cell? ⟨w.heap.size + 1, 3, none⟩ = some (.string t2)) (go_keep)
        (first
          | (go_at_call 63; (with_reducible refine (HR3.out _).mono ?_); rintro e w1 ⟨v1, rfl, r1, b1⟩; (try (have b1 := undrew b1)); have d1 : Below wc.heap.size wc w1 := chain (by first | exact Below.refl _ _ | exact (Below.refl _ _).drew | exact below_one _ _ | exact ((Below.refl _ _).drew).alloc (Nat.le_refl _) _) b1; have c1 : Below wc.heap.size wc w1 := d1; have p0 := keep1 c1 k0; have p1 := keep1 c1 k1; have p2 := keep1 c1 k2; have p3 := keep1 c1 k3; obtain ⟨j1a, j1b, j1c, j1d, j1e, j1f, j1g, j1h, j1i⟩ := far6 (show w.heap.size + 3 ≤ w1.heap.size from Nat.le_trans HSB.out c1.size); (try (have A0 := Lib.hid (ZC4.made (g := wc.heap.size) rfl b1); obtain ⟨⟨A0a, A0b, A0c, A0d⟩, A0e, A0f, A0g, A0h⟩ := A0.out)); (try (have L01 := Lib.hid (apart_b (g := wc.heap.size) rfl b1); obtain ⟨l01x, l01y, l01z⟩ := L01.out)); have G1 := Lib.hid r1; obtain ⟨pp1, bb1, oo1, cc1, rfl, rr1⟩ := r1; clear rr1)
          | (go_at_call 63; (with_reducible refine (HR4.out _).mono ?_); rintro e w2 ⟨v2, rfl, r2, b2⟩; (try (have b2 := undrew b2)); have d2 : Below w1.heap.size w1 w2 := chain (by first | exact Below.refl _ _ | exact (Below.refl _ _).drew | exact below_one _ _ | exact ((Below.refl _ _).drew).alloc (Nat.le_refl _) _) b2; have c2 : Below wc.heap.size wc w2 := chain c1 d2; have p0 := keep1 c2 k0; have p1 := keep1 c2 k1; have p2 := keep1 c2 k2; have p3 := keep1 c2 k3; obtain ⟨j2a, j2b, j2c, j2d, j2e, j2f, j2g, j2h, j2i⟩ := far6 (show w.heap.size + 3 ≤ w2.heap.size from Nat.le_trans HSB.out c2.size); (try (have A1 := Lib.hid (ZC4.made (g := w1.heap.size) rfl b2); obtain ⟨⟨A1a, A1b, A1c, A1d⟩, A1e, A1f, A1g, A1h⟩ := A1.out)); (try (have A0 := Lib.hid (A0.out.next d2); obtain ⟨⟨A0a, A0b, A0c, A0d⟩, A0e, A0f, A0g, A0h⟩ := A0.out)); (try (have L02 := Lib.hid (apart_t L01.out d2.size); obtain ⟨l02x, l02y, l02z⟩ := L02.out)); (try (have L12 := Lib.hid (apart_b (g := w1.heap.size) rfl b2); obtain ⟨l12x, l12y, l12z⟩ := L12.out)); have G2 := Lib.hid (And.intro (G1.out.below d2 (Nat.le_refl _)) r2); obtain ⟨pp2, bb2, oo2, cc2, rfl, rr2⟩ := r2; clear rr2)
          | fail)
      all_goals
        obtain ⟨r1, r2⟩ := G2.out
        refine hMK _ _ (Met.intro (hRJ _ _ ?_))
        (repeat apply Exists.intro)
        refine ⟨?_, rfl⟩
        refine ⟨_, pp1, pp2, (Nm.dg W M2).length, cc1, (Nm.dg W N2).length, cc2, rfl, ?_⟩
        show CutF na2 nb2 (.slice pp1 _ cc1) (.slice pp2 _ cc2) (Nm.dg W M2) (Nm.dg W N2) wc.heap.size wc _ _
        have sA0 : wc.heap.size ≤ wc.heap.size := Nat.le_refl _
        have sA1 : wc.heap.size ≤ w1.heap.size := c1.size
        have sA2 : wc.heap.size ≤ w2.heap.size := c2.size
        first
          | with_reducible exact (CutF.k1 r1 r2 c2 sA2)
          | with_reducible exact (CutF.k2 A0.out sA0 r1 r2 c2)
          | with_reducible exact (CutF.k2 A1.out sA1 r1 r2 c2)
          | with_reducible exact (CutF.k1 r1 r2 c2 sA2).drew
          | with_reducible exact (CutF.k2 A0.out sA0 r1 r2 c2).drew
          | with_reducible exact (CutF.k2 A1.out sA1 r1 r2 c2).drew
          | fail
    case rest =>
      obtain ⟨g9, y3, y4, l3, c3, l4, c4, rfl, hcut⟩ := hcut
      obtain ⟨hg9, z9, r3, r4, bx, lg9⟩ := hcut.out
      have RR3 : Hid (Rd wc.drew (.slice y3 l3 c3) (Nm.dg W M2)) := r3
      have RR4 : Hid (Rd wc.drew (.slice y4 l4 c4) (Nm.dg W N2)) := r4
      have SS1 : Hid (Rd wc.drew (.slice y1 l1 c1) (Nm.dg W M1)) := RR1.out.below bx.drew (Nat.le_refl _)
      have SS2 : Hid (Rd wc.drew (.slice y2 l2 c2) (Nm.dg W N1)) := RR2.out.below bx.drew (Nat.le_refl _)
      have BY := Lib.hid (chain BX.out bx)
      have LG9 : Hid (w.heap.size + 3 ≤ g9) := Nat.le_trans HSB.out hg9
      have z8b := Z8.out.next bx
      obtain ⟨⟨b0, b1, b2, b3⟩, _⟩ := z8b
      obtain ⟨⟨b4, b5, b6, b7⟩, _⟩ := z9
      clear HSB jba jbb jbc jbd jbe jbf jbg jbh jbi k0 k1 k2 k3 hcut hg9 r3 r4 bx lg9 RR1 RR2 Z8
      have k0 := b0
      have k1 := b1
      have k2 := b2
      have k3 := b3
      have k4 := b4
      have k5 := b5
      have k6 := b6
      have k7 := b7
      clear b0 b1 b2 b3 b4 b5 b6 b7
      have e1 : ¬ g8 = w.heap.size + 1 + 1 := by have := LG8.out; omega
      have e2 : ¬ w.heap.size + 1 + 1 = g8 := fun e => e1 e.symm
      have e3 : ¬ g9 = w.heap.size + 1 + 1 := by have := LG9.out; omega
      have e4 : ¬ w.heap.size + 1 + 1 = g9 := fun e => e3 e.symm
      go_wp2_with fail
      go_region_held3 (fun W' => W'.cell? ⟨g8, 0, none⟩ = some (.bool na1) ∧ W'.cell? ⟨g8, 1, none⟩ = some (.slice y1 l1 c1) ∧ W'.cell? ⟨g8, 2, none⟩ = some (.bool nb1) ∧ W'.cell? ⟨g8, 3, none⟩ = some (.slice y2 l2 c2) ∧ W'.cell? ⟨g9, 0, none⟩ = some (.bool na2) ∧ W'.cell? ⟨g9, 1, none⟩ = some (.slice y3 l3 c3) ∧ W'.cell? ⟨g9, 2, none⟩ = some (.bool nb2) ∧ W'.cell? ⟨g9, 3, none⟩ = some (.slice y4 l4 c4)) (go_keep)
        (first
          | (go_at_call 81; (with_reducible refine (HF.out _ _ _ _ _ SS1.out SS2.out RR3.out RR4.out).mono ?_); rintro e w1 ⟨v5, rfl, r5, b5⟩; have d1 := chain ((Below.refl _ _).drew) b5; have p0 := keep1 d1 k0; have p1 := keep1 d1 k1; have p2 := keep1 d1 k2; have p3 := keep1 d1 k3; have p4 := keep1 d1 k4; have p5 := keep1 d1 k5; have p6 := keep1 d1 k6; have p7 := keep1 d1 k7; have G1 := Lib.hid (And.intro r5 d1); have T2 := Lib.hid (SS2.out.below b5 (Nat.le_refl _)); have T4 := Lib.hid (RR4.out.below b5 (Nat.le_refl _)); obtain ⟨p5, q5, o5, c5, rfl, hr5⟩ := r5; clear hr5 b5)
          | (go_at_call 83; (with_reducible refine (HT.out _ _ _ T2.out T4.out).mono ?_); rintro e w2 ⟨v6, rfl, r6, b6⟩; have d2 := chain G1.out.2 b6; have p0 := keep1 d2 k0; have p1 := keep1 d2 k1; have p2 := keep1 d2 k2; have p3 := keep1 d2 k3; have p4 := keep1 d2 k4; have p5 := keep1 d2 k5; have p6 := keep1 d2 k6; have p7 := keep1 d2 k7; have G2 := Lib.hid (And.intro (G1.out.1.below b6 (Nat.le_refl _)) (And.intro r6 d2)); obtain ⟨p6, q6, o6, c6, rfl, hr6⟩ := r6; clear hr6 b6)
          | (go_at_call 62; (with_reducible refine (HL.out _ _ _ G2.out.1 G2.out.2.1).mono ?_); rintro e w3 ⟨rfl, b7⟩; have d3 := chain G2.out.2.2 b7; have p0 := keep1 d3 k0; have p1 := keep1 d3 k1; have p2 := keep1 d3 k2; have p3 := keep1 d3 k3; have p4 := keep1 d3 k4; have p5 := keep1 d3 k5; have p6 := keep1 d3 k6; have p7 := keep1 d3 k7; obtain ⟨⟨x0, x1, x2, x3⟩, x4, x5, x6, x7⟩ := I3.out.next (chain BY.out d3); have G3 := Lib.hid d3; unfold rat at *; clear b7)
          | fail)
      have HZ := Lib.hid (below_set4 (chain hb0.out (chain BY.out G3.out)) (g := w.heap.size + 1 + 1) (by omega) (.bool xb) (.string xs) (.bool false) (.string ys))
      go_wp2
      exact bodyPost_ret (v := .tuple #[.agg #[.bool xb, .string xs, .bool false, .string ys], .int .i64 0]) (by simp [results, Tryz.results80, go_sem, x0, x1, x2, x3]) rfl ⟨rfl, HZ.out⟩

set_option maxRecDepth 100000 in
set_option maxHeartbeats 4000000 in
theorem combine_mul (na1 nb1 na2 nb2 : Bool) (s1 t1 s2 t2 : ByteArray) (sg : Bool) (k A B : Nat) (w : World) (hf : FracOK 86 na1 nb1 na2 nb2 (bv s1) (bv t1) (bv s2) (bv t2) sg k) (hl : LowOK k (bv t1 * bv t2) A B)
    (v1 : vld na1 s1 = true) (v2 : vld nb1 t1 = true) (v3 : vld na2 s2 = true) (v4 : vld nb2 t2 = true) (g1 : 0 < sgV nb1 t1) (g2 : 0 < sgV nb2 t2) :
    Calls Tryz.prog 80 #[rat na1 s1 nb1 t1, rat na2 s2 nb2 t2, .func (Fn.func 86) #[] #[]] w (RPost ((sg != (nb1 != nb2)) && decide (A ≠ 0)) (bs A) false (bs B) 0 w) := by
  have z1 := vld_size v1
  have z2 := vld_size v2
  have z3 := vld_size v3
  have z4 := vld_size v4
  have HV1 := ValidRatio_any na1 nb1 s1 t1
  have HV2 := ValidRatio_any na2 nb2 s2 t2
  have hvr1 : vldR na1 s1 nb1 t1 = true := by unfold vldR; rw [v1, decide_eq_true g1]; rfl
  have hvr2 : vldR na2 s2 nb2 t2 = true := by unfold vldR; rw [v3, decide_eq_true g2]; rfl
  rw [hvr1] at HV1
  rw [hvr2] at HV2
  have HA := Lib.hid (fun w => HV1 w (by omega) (by omega))
  have HB := Lib.hid (fun w => HV2 w (by omega) (by omega))
  have HR1 := Lib.hid (fun w => read_any na1 s1 w (by omega) (vld_can v1))
  have HR2 := Lib.hid (fun w => read_any nb1 t1 w (by omega) (vld_can v2))
  have HR3 := Lib.hid (fun w => read_any na2 s2 w (by omega) (vld_can v3))
  have HR4 := Lib.hid (fun w => read_any nb2 t2 w (by omega) (vld_can v4))
  have HT := Lib.hid (fun y1 y2 w h1 h2 => times_any nb1 nb2 y1 y2 (bv t1) (bv t2) w h1 h2 (Nat.le_trans (len_top (bv_lt v2)) (by decide)) (Nat.le_trans (len_top (bv_lt v4)) (by decide)))
  have HF := Lib.hid hf
  have HL := Lib.hid (lowest_of hl sg (nb1 != nb2))
  clear HV1 HV2 hvr1 hvr2 v1 v2 v3 v4 g1 g2 hf hl
  unfold FracOK at HF
  generalize ((sg != (nb1 != nb2)) && decide (A ≠ 0)) = xb at *
  generalize (nb1 != nb2) = bb at *
  generalize bs A = xs at *
  generalize bs B = ys at *
  generalize bv t1 * bv t2 = nn at *
  generalize bv s1 = M1 at *
  generalize bv t1 = N1 at *
  generalize bv s2 = M2 at *
  generalize bv t2 = N2 at *
  unfold rat
  obtain ⟨w0, hw0⟩ : ∃ w0 : World, w0 = ((w.alloc (.cells #[.bool na1, .string s1, .bool nb1, .string t1] 27)).alloc (.cells #[.bool na2, .string s2, .bool nb2, .string t2] 27)).alloc (.cells #[.bool false, .string ⟨#[]⟩, .bool false, .string ⟨#[]⟩] 27) := ⟨_, rfl⟩
  have hb0 : Hid (Below w.heap.size w w0) := by rw [hw0]; exact (((Below.refl _ _).alloc (Nat.le_refl _) _).alloc (by simp) _).alloc (by simp; omega) _
  have i1 : ZC4 (.bool na1) (.string s1) (.bool nb1) (.string t1) w0 w.heap.size := by
    rw [hw0]; refine ⟨⟨?_, ?_, ?_, ?_⟩, ?_, ?_, ?_, ?_⟩ <;> simp [go_sem]
  have i2 : ZC4 (.bool na2) (.string s2) (.bool nb2) (.string t2) w0 (w.heap.size + 1) := by
    rw [hw0]; refine ⟨⟨?_, ?_, ?_, ?_⟩, ?_, ?_, ?_, ?_⟩ <;> simp [go_sem]
  have i3 : ZC4 (.bool false) (.string ⟨#[]⟩) (.bool false) (.string ⟨#[]⟩) w0 (w.heap.size + 1 + 1) := by
    rw [hw0]; refine ⟨⟨?_, ?_, ?_, ?_⟩, ?_, ?_, ?_, ?_⟩ <;> simp [go_sem]
  have hsz : w.heap.size + 3 ≤ w0.heap.size := by rw [hw0]; simp
  have I1 := Lib.hid i1
  have I2 := Lib.hid i2
  have I3 := Lib.hid i3
  have Hsz := Lib.hid hsz
  have Hw0 := Lib.hid hw0
  clear i1 i2 i3 hw0 hsz
  go_enter Tryz.func80, Tryz.ntmps80
  go_wp2_with fail
  rw [← Hw0.out]
  refine (HA.out _).mono ?_
  rintro e wa ⟨rfl, ba⟩
  obtain ⟨⟨q0, q1, q2, q3⟩, _⟩ := I2.out.next ba
  have BA := Lib.hid ba
  clear ba
  go_wp2_with fail
  refine (HB.out _).mono ?_
  rintro e wb ⟨rfl, hbb⟩
  have BB := Lib.hid (chain BA.out hbb)
  clear q0 q1 q2 q3 hbb
  obtain ⟨⟨k0, k1, k2, k3⟩, _⟩ := I1.out.next BB.out
  have HSB : Hid (w.heap.size + 3 ≤ wb.heap.size) := Nat.le_trans Hsz.out BB.out.size
  go_upto_region 3 with (fail)
  obtain ⟨jba, jbb, jbc, jbd, jbe, jbf, jbg, jbh, jbi⟩ := far6 HSB.out
  go_cut [8] (fun s8 wx => ∃ (g8 : Nat) (y1 y2 : Option Addr) (l1 c1 l2 c2 : Nat), s8 = .pointer (some ⟨g8, 0, none⟩) ∧ Hid (CutF na1 nb1 (.slice y1 l1 c1) (.slice y2 l2 c2) (Nm.dg W M1) (Nm.dg W N1) wb.heap.size wb wx g8))
  case first =>
    rename_i J0 K0 hRJ hMK
    go_region_held3 (fun W' => W'.cell? ⟨w.heap.size, 0, none⟩ = some (.bool na1) ∧ W'.cell? ⟨w.heap.size, 1, none⟩ = some (.string s1) ∧ W'.cell? ⟨w.heap.size, 2, none⟩ = some (.bool nb1) ∧ W'.cell? ⟨w.heap.size, 3, none⟩ = some (.string t1)) (go_keep)
      (first
        | (go_at_call 63; (with_reducible refine (HR1.out _).mono ?_); rintro e w1 ⟨v1, rfl, r1, b1⟩; (try (have b1 := undrew b1)); have d1 : Below wb.heap.size wb w1 := chain (by first | exact Below.refl _ _ | exact (Below.refl _ _).drew | exact below_one _ _ | exact ((Below.refl _ _).drew).alloc (Nat.le_refl _) _) b1; have c1 : Below wb.heap.size wb w1 := d1; have p0 := keep1 c1 k0; have p1 := keep1 c1 k1; have p2 := keep1 c1 k2; have p3 := keep1 c1 k3; obtain ⟨j1a, j1b, j1c, j1d, j1e, j1f, j1g, j1h, j1i⟩ := far6 (show w.heap.size + 3 ≤ w1.heap.size from Nat.le_trans HSB.out c1.size); (try (have A0 := Lib.hid (ZC4.made (g := wb.heap.size) rfl b1); obtain ⟨⟨A0a, A0b, A0c, A0d⟩, A0e, A0f, A0g, A0h⟩ := A0.out)); (try (have L01 := Lib.hid (apart_b (g := wb.heap.size) rfl b1); obtain ⟨l01x, l01y, l01z⟩ := L01.out)); have G1 := Lib.hid r1; obtain ⟨pp1, bb1, oo1, cc1, rfl, rr1⟩ := r1; clear rr1)
        | (go_at_call 63; (with_reducible refine (HR2.out _).mono ?_); rintro e w2 ⟨v2, rfl, r2, b2⟩; (try (have b2 := undrew b2)); have d2 : Below w1.heap.size w1 w2 := chain (by first | exact Below.refl _ _ | exact (Below.refl _ _).drew | exact below_one _ _ | exact ((Below.refl _ _).drew).alloc (Nat.le_refl _) _) b2; have c2 : Below wb.heap.size wb w2 := chain c1 d2; have p0 := keep1 c2 k0; have p1 := keep1 c2 k1; have p2 := keep1 c2 k2; have p3 := keep1 c2 k3; obtain ⟨j2a, j2b, j2c, j2d, j2e, j2f, j2g, j2h, j2i⟩ := far6 (show w.heap.size + 3 ≤ w2.heap.size from Nat.le_trans HSB.out c2.size); (try (have A1 := Lib.hid (ZC4.made (g := w1.heap.size) rfl b2); obtain ⟨⟨A1a, A1b, A1c, A1d⟩, A1e, A1f, A1g, A1h⟩ := A1.out)); (try (have A0 := Lib.hid (A0.out.next d2); obtain ⟨⟨A0a, A0b, A0c, A0d⟩, A0e, A0f, A0g, A0h⟩ := A0.out)); (try (have L02 := Lib.hid (apart_t L01.out d2.size); obtain ⟨l02x, l02y, l02z⟩ := L02.out)); (try (have L12 := Lib.hid (apart_b (g := w1.heap.size) rfl b2); obtain ⟨l12x, l12y, l12z⟩ := L12.out)); have G2 := Lib.hid (And.intro (G1.out.below d2 (Nat.le_refl _)) r2); obtain ⟨pp2, bb2, oo2, cc2, rfl, rr2⟩ := r2; clear rr2)
        | fail)
    all_goals
      obtain ⟨r1, r2⟩ := G2.out
      refine hMK _ _ (Met.intro (hRJ _ _ ?_))
      (repeat apply Exists.intro)
      refine ⟨?_, rfl⟩
      refine ⟨_, pp1, pp2, (Nm.dg W M1).length, cc1, (Nm.dg W N1).length, cc2, rfl, ?_⟩
      show CutF na1 nb1 (.slice pp1 _ cc1) (.slice pp2 _ cc2) (Nm.dg W M1) (Nm.dg W N1) wb.heap.size wb _ _
      have sA0 : wb.heap.size ≤ wb.heap.size := Nat.le_refl _
      have sA1 : wb.heap.size ≤ w1.heap.size := c1.size
      have sA2 : wb.heap.size ≤ w2.heap.size := c2.size
      first
        | with_reducible exact (CutF.k1 r1 r2 c2 sA2)
        | with_reducible exact (CutF.k2 A0.out sA0 r1 r2 c2)
        | with_reducible exact (CutF.k2 A1.out sA1 r1 r2 c2)
        | with_reducible exact (CutF.k1 r1 r2 c2 sA2).drew
        | with_reducible exact (CutF.k2 A0.out sA0 r1 r2 c2).drew
        | with_reducible exact (CutF.k2 A1.out sA1 r1 r2 c2).drew
        | fail
  case rest =>
    obtain ⟨g8, y1, y2, l1, c1, l2, c2, rfl, hcut⟩ := hcut
    obtain ⟨hg8, z8, r1, r2, bx, lg8⟩ := hcut.out
    have Z8 := Lib.hid z8
    have RR1 := Lib.hid r1
    have RR2 := Lib.hid r2
    have BX := Lib.hid (chain BB.out bx)
    have LG8 : Hid (w.heap.size + 3 ≤ g8) := Nat.le_trans HSB.out hg8
    have hsb2 : w.heap.size + 3 ≤ wc.heap.size := Nat.le_trans HSB.out bx.size
    clear HSB jba jbb jbc jbd jbe jbf jbg jbh jbi k0 k1 k2 k3 hcut hg8 z8 r1 r2 bx lg8
    have HSB := Lib.hid hsb2
    clear hsb2
    obtain ⟨⟨k0, k1, k2, k3⟩, _⟩ := I2.out.next BX.out
    go_upto_region 4 with (fail)
    obtain ⟨jba, jbb, jbc, jbd, jbe, jbf, jbg, jbh, jbi⟩ := far6 HSB.out
    go_cut [9] (fun s8 wx => ∃ (g8 : Nat) (y1 y2 : Option Addr) (l1 c1 l2 c2 : Nat), s8 = .pointer (some ⟨g8, 0, none⟩) ∧ Hid (CutF na2 nb2 (.slice y1 l1 c1) (.slice y2 l2 c2) (Nm.dg W M2) (Nm.dg W N2) wc.heap.size wc wx g8))
    case first =>
      rename_i J0 K0 hRJ hMK
      go_region_held3 (fun W' => W'.cell? ⟨w.heap.size + 1, 0, none⟩ = some (.bool na2) ∧ W'.cell? ⟨w.heap.size + 1, 1, none⟩ = some (.string s2) ∧ W'.cell? ⟨w.heap.size + 1, 2, none⟩ = some (.bool nb2) ∧ W'.cell? ⟨w.heap.size + 1, 3, none⟩ = some (.string t2)) (go_keep)
        (first
          | (go_at_call 63; (with_reducible refine (HR3.out _).mono ?_); rintro e w1 ⟨v1, rfl, r1, b1⟩; (try (have b1 := undrew b1)); have d1 : Below wc.heap.size wc w1 := chain (by first | exact Below.refl _ _ | exact (Below.refl _ _).drew | exact below_one _ _ | exact ((Below.refl _ _).drew).alloc (Nat.le_refl _) _) b1; have c1 : Below wc.heap.size wc w1 := d1; have p0 := keep1 c1 k0; have p1 := keep1 c1 k1; have p2 := keep1 c1 k2; have p3 := keep1 c1 k3; obtain ⟨j1a, j1b, j1c, j1d, j1e, j1f, j1g, j1h, j1i⟩ := far6 (show w.heap.size + 3 ≤ w1.heap.size from Nat.le_trans HSB.out c1.size); (try (have A0 := Lib.hid (ZC4.made (g := wc.heap.size) rfl b1); obtain ⟨⟨A0a, A0b, A0c, A0d⟩, A0e, A0f, A0g, A0h⟩ := A0.out)); (try (have L01 := Lib.hid (apart_b (g := wc.heap.size) rfl b1); obtain ⟨l01x, l01y, l01z⟩ := L01.out)); have G1 := Lib.hid r1; obtain ⟨pp1, bb1, oo1, cc1, rfl, rr1⟩ := r1; clear rr1)
          | (go_at_call 63; (with_reducible refine (HR4.out _).mono ?_); rintro e w2 ⟨v2, rfl, r2, b2⟩; (try (have b2 := undrew b2)); have d2 : Below w1.heap.size w1 w2 := chain (by first | exact Below.refl _ _ | exact (Below.refl _ _).drew | exact below_one _ _ | exact ((Below.refl _ _).drew).alloc (Nat.le_refl _) _) b2; have c2 : Below wc.heap.size wc w2 := chain c1 d2; have p0 := keep1 c2 k0; have p1 := keep1 c2 k1; have p2 := keep1 c2 k2; have p3 := keep1 c2 k3; obtain ⟨j2a, j2b, j2c, j2d, j2e, j2f, j2g, j2h, j2i⟩ := far6 (show w.heap.size + 3 ≤ w2.heap.size from Nat.le_trans HSB.out c2.size); (try (have A1 := Lib.hid (ZC4.made (g := w1.heap.size) rfl b2); obtain ⟨⟨A1a, A1b, A1c, A1d⟩, A1e, A1f, A1g, A1h⟩ := A1.out)); (try (have A0 := Lib.hid (A0.out.next d2); obtain ⟨⟨A0a, A0b, A0c, A0d⟩, A0e, A0f, A0g, A0h⟩ := A0.out)); (try (have L02 := Lib.hid (apart_t L01.out d2.size); obtain ⟨l02x, l02y, l02z⟩ := L02.out)); (try (have L12 := Lib.hid (apart_b (g := w1.heap.size) rfl b2); obtain ⟨l12x, l12y, l12z⟩ := L12.out)); have G2 := Lib.hid (And.intro (G1.out.below d2 (Nat.le_refl _)) r2); obtain ⟨pp2, bb2, oo2, cc2, rfl, rr2⟩ := r2; clear rr2)
          | fail)
      all_goals
        obtain ⟨r1, r2⟩ := G2.out
        refine hMK _ _ (Met.intro (hRJ _ _ ?_))
        (repeat apply Exists.intro)
        refine ⟨?_, rfl⟩
        refine ⟨_, pp1, pp2, (Nm.dg W M2).length, cc1, (Nm.dg W N2).length, cc2, rfl, ?_⟩
        show CutF na2 nb2 (.slice pp1 _ cc1) (.slice pp2 _ cc2) (Nm.dg W M2) (Nm.dg W N2) wc.heap.size wc _ _
        have sA0 : wc.heap.size ≤ wc.heap.size := Nat.le_refl _
        have sA1 : wc.heap.size ≤ w1.heap.size := c1.size
        have sA2 : wc.heap.size ≤ w2.heap.size := c2.size
        first
          | with_reducible exact (CutF.k1 r1 r2 c2 sA2)
          | with_reducible exact (CutF.k2 A0.out sA0 r1 r2 c2)
          | with_reducible exact (CutF.k2 A1.out sA1 r1 r2 c2)
          | with_reducible exact (CutF.k1 r1 r2 c2 sA2).drew
          | with_reducible exact (CutF.k2 A0.out sA0 r1 r2 c2).drew
          | with_reducible exact (CutF.k2 A1.out sA1 r1 r2 c2).drew
          | fail
    case rest =>
      obtain ⟨g9, y3, y4, l3, c3, l4, c4, rfl, hcut⟩ := hcut
      obtain ⟨hg9, z9, r3, r4, bx, lg9⟩ := hcut.out
      have RR3 : Hid (Rd wc.drew (.slice y3 l3 c3) (Nm.dg W M2)) := r3
      have RR4 : Hid (Rd wc.drew (.slice y4 l4 c4) (Nm.dg W N2)) := r4
      have SS1 : Hid (Rd wc.drew (.slice y1 l1 c1) (Nm.dg W M1)) := RR1.out.below bx.drew (Nat.le_refl _)
      have SS2 : Hid (Rd wc.drew (.slice y2 l2 c2) (Nm.dg W N1)) := RR2.out.below bx.drew (Nat.le_refl _)
      have BY := Lib.hid (chain BX.out bx)
      have LG9 : Hid (w.heap.size + 3 ≤ g9) := Nat.le_trans HSB.out hg9
      have z8b := Z8.out.next bx
      obtain ⟨⟨b0, b1, b2, b3⟩, _⟩ := z8b
      obtain ⟨⟨b4, b5, b6, b7⟩, _⟩ := z9
      clear HSB jba jbb jbc jbd jbe jbf jbg jbh jbi k0 k1 k2 k3 hcut hg9 r3 r4 bx lg9 RR1 RR2 Z8
      have k0 := b0
      have k1 := b1
      have k2 := b2
      have k3 := b3
      have k4 := b4
      have k5 := b5
      have k6 := b6
      have k7 := b7
      clear b0 b1 b2 b3 b4 b5 b6 b7
      have e1 : ¬ g8 = w.heap.size + 1 + 1 := by have := LG8.out; omega
      have e2 : ¬ w.heap.size + 1 + 1 = g8 := fun e => e1 e.symm
      have e3 : ¬ g9 = w.heap.size + 1 + 1 := by have := LG9.out; omega
      have e4 : ¬ w.heap.size + 1 + 1 = g9 := fun e => e3 e.symm
      go_wp2_with fail
      go_region_held3 (fun W' => W'.cell? ⟨g8, 0, none⟩ = some (.bool na1) ∧ W'.cell? ⟨g8, 1, none⟩ = some (.slice y1 l1 c1) ∧ W'.cell? ⟨g8, 2, none⟩ = some (.bool nb1) ∧ W'.cell? ⟨g8, 3, none⟩ = some (.slice y2 l2 c2) ∧ W'.cell? ⟨g9, 0, none⟩ = some (.bool na2) ∧ W'.cell? ⟨g9, 1, none⟩ = some (.slice y3 l3 c3) ∧ W'.cell? ⟨g9, 2, none⟩ = some (.bool nb2) ∧ W'.cell? ⟨g9, 3, none⟩ = some (.slice y4 l4 c4)) (go_keep)
        (first
          | (go_at_call 86; (with_reducible refine (HF.out _ _ _ _ _ SS1.out SS2.out RR3.out RR4.out).mono ?_); rintro e w1 ⟨v5, rfl, r5, b5⟩; have d1 := chain ((Below.refl _ _).drew) b5; have p0 := keep1 d1 k0; have p1 := keep1 d1 k1; have p2 := keep1 d1 k2; have p3 := keep1 d1 k3; have p4 := keep1 d1 k4; have p5 := keep1 d1 k5; have p6 := keep1 d1 k6; have p7 := keep1 d1 k7; have G1 := Lib.hid (And.intro r5 d1); have T2 := Lib.hid (SS2.out.below b5 (Nat.le_refl _)); have T4 := Lib.hid (RR4.out.below b5 (Nat.le_refl _)); obtain ⟨p5, q5, o5, c5, rfl, hr5⟩ := r5; clear hr5 b5)
          | (go_at_call 83; (with_reducible refine (HT.out _ _ _ T2.out T4.out).mono ?_); rintro e w2 ⟨v6, rfl, r6, b6⟩; have d2 := chain G1.out.2 b6; have p0 := keep1 d2 k0; have p1 := keep1 d2 k1; have p2 := keep1 d2 k2; have p3 := keep1 d2 k3; have p4 := keep1 d2 k4; have p5 := keep1 d2 k5; have p6 := keep1 d2 k6; have p7 := keep1 d2 k7; have G2 := Lib.hid (And.intro (G1.out.1.below b6 (Nat.le_refl _)) (And.intro r6 d2)); obtain ⟨p6, q6, o6, c6, rfl, hr6⟩ := r6; clear hr6 b6)
          | (go_at_call 62; (with_reducible refine (HL.out _ _ _ G2.out.1 G2.out.2.1).mono ?_); rintro e w3 ⟨rfl, b7⟩; have d3 := chain G2.out.2.2 b7; have p0 := keep1 d3 k0; have p1 := keep1 d3 k1; have p2 := keep1 d3 k2; have p3 := keep1 d3 k3; have p4 := keep1 d3 k4; have p5 := keep1 d3 k5; have p6 := keep1 d3 k6; have p7 := keep1 d3 k7; obtain ⟨⟨x0, x1, x2, x3⟩, x4, x5, x6, x7⟩ := I3.out.next (chain BY.out d3); have G3 := Lib.hid d3; unfold rat at *; clear b7)
          | fail)
      have HZ := Lib.hid (below_set4 (chain hb0.out (chain BY.out G3.out)) (g := w.heap.size + 1 + 1) (by omega) (.bool xb) (.string xs) (.bool false) (.string ys))
      go_wp2
      exact bodyPost_ret (v := .tuple #[.agg #[.bool xb, .string xs, .bool false, .string ys], .int .i64 0]) (by simp [results, Tryz.results80, go_sem, x0, x1, x2, x3]) rfl ⟨rfl, HZ.out⟩

set_option maxRecDepth 100000 in
set_option maxHeartbeats 2000000 in
theorem AddRatio_ok (na1 nb1 na2 nb2 : Bool) (s1 t1 s2 t2 : ByteArray) (sg : Bool) (k A B : Nat) (w : World) (hf : FracOK 81 na1 nb1 na2 nb2 (bv s1) (bv t1) (bv s2) (bv t2) sg k) (hl : LowOK k (bv t1 * bv t2) A B)
    (v1 : vld na1 s1 = true) (v2 : vld nb1 t1 = true) (v3 : vld na2 s2 = true) (v4 : vld nb2 t2 = true) (g1 : 0 < sgV nb1 t1) (g2 : 0 < sgV nb2 t2) :
    Calls Tryz.prog 23 #[rat na1 s1 nb1 t1, rat na2 s2 nb2 t2] w (RPost ((sg != (nb1 != nb2)) && decide (A ≠ 0)) (bs A) false (bs B) 0 w) := by
  have HC := Lib.hid (fun w => combine_add na1 nb1 na2 nb2 s1 t1 s2 t2 sg k A B w hf hl v1 v2 v3 v4 g1 g2)
  clear hf hl v1 v2 v3 v4 g1 g2
  generalize ((sg != (nb1 != nb2)) && decide (A ≠ 0)) = xb at *
  generalize bs A = xs at *
  generalize bs B = ys at *
  unfold rat at HC ⊢
  obtain ⟨w0, hw0⟩ : ∃ w0 : World, w0 = ((w.alloc (.cells #[.bool na1, .string s1, .bool nb1, .string t1] 27)).alloc (.cells #[.bool na2, .string s2, .bool nb2, .string t2] 27)).alloc (.cells #[.bool false, .string ⟨#[]⟩, .bool false, .string ⟨#[]⟩] 27) := ⟨_, rfl⟩
  have hb0 : Hid (Below w.heap.size w w0) := by rw [hw0]; exact (((Below.refl _ _).alloc (Nat.le_refl _) _).alloc (by simp) _).alloc (by simp; omega) _
  have i3 : ZC4 (.bool false) (.string ⟨#[]⟩) (.bool false) (.string ⟨#[]⟩) w0 (w.heap.size + 1 + 1) := by
    rw [hw0]; refine ⟨⟨?_, ?_, ?_, ?_⟩, ?_, ?_, ?_, ?_⟩ <;> simp [go_sem]
  have I3 := Lib.hid i3
  have Hw0 := Lib.hid hw0
  clear i3 hw0
  go_enter Tryz.func23, Tryz.ntmps23
  go_wp2_with fail
  rw [← Hw0.out]
  refine (HC.out _).mono ?_
  rintro e wc ⟨rfl, bc⟩
  obtain ⟨⟨x0, x1, x2, x3⟩, x4, x5, x6, x7⟩ := I3.out.next bc
  have HZ := Lib.hid (below_set4 (chain hb0.out bc) (g := w.heap.size + 1 + 1) (by omega) (.bool xb) (.string xs) (.bool false) (.string ys))
  unfold rat at *
  clear bc
  go_wp2
  exact bodyPost_ret (v := .tuple #[.agg #[.bool xb, .string xs, .bool false, .string ys], .int .i64 0]) (by simp [results, Tryz.results23, go_sem, x0, x1, x2, x3]) rfl ⟨rfl, HZ.out⟩

set_option maxRecDepth 100000 in
set_option maxHeartbeats 2000000 in
theorem MulRatio_ok (na1 nb1 na2 nb2 : Bool) (s1 t1 s2 t2 : ByteArray) (sg : Bool) (k A B : Nat) (w : World) (hf : FracOK 86 na1 nb1 na2 nb2 (bv s1) (bv t1) (bv s2) (bv t2) sg k) (hl : LowOK k (bv t1 * bv t2) A B)
    (v1 : vld na1 s1 = true) (v2 : vld nb1 t1 = true) (v3 : vld na2 s2 = true) (v4 : vld nb2 t2 = true) (g1 : 0 < sgV nb1 t1) (g2 : 0 < sgV nb2 t2) :
    Calls Tryz.prog 25 #[rat na1 s1 nb1 t1, rat na2 s2 nb2 t2] w (RPost ((sg != (nb1 != nb2)) && decide (A ≠ 0)) (bs A) false (bs B) 0 w) := by
  have HC := Lib.hid (fun w => combine_mul na1 nb1 na2 nb2 s1 t1 s2 t2 sg k A B w hf hl v1 v2 v3 v4 g1 g2)
  clear hf hl v1 v2 v3 v4 g1 g2
  generalize ((sg != (nb1 != nb2)) && decide (A ≠ 0)) = xb at *
  generalize bs A = xs at *
  generalize bs B = ys at *
  unfold rat at HC ⊢
  obtain ⟨w0, hw0⟩ : ∃ w0 : World, w0 = ((w.alloc (.cells #[.bool na1, .string s1, .bool nb1, .string t1] 27)).alloc (.cells #[.bool na2, .string s2, .bool nb2, .string t2] 27)).alloc (.cells #[.bool false, .string ⟨#[]⟩, .bool false, .string ⟨#[]⟩] 27) := ⟨_, rfl⟩
  have hb0 : Hid (Below w.heap.size w w0) := by rw [hw0]; exact (((Below.refl _ _).alloc (Nat.le_refl _) _).alloc (by simp) _).alloc (by simp; omega) _
  have i3 : ZC4 (.bool false) (.string ⟨#[]⟩) (.bool false) (.string ⟨#[]⟩) w0 (w.heap.size + 1 + 1) := by
    rw [hw0]; refine ⟨⟨?_, ?_, ?_, ?_⟩, ?_, ?_, ?_, ?_⟩ <;> simp [go_sem]
  have I3 := Lib.hid i3
  have Hw0 := Lib.hid hw0
  clear i3 hw0
  go_enter Tryz.func25, Tryz.ntmps25
  go_wp2_with fail
  rw [← Hw0.out]
  refine (HC.out _).mono ?_
  rintro e wc ⟨rfl, bc⟩
  obtain ⟨⟨x0, x1, x2, x3⟩, x4, x5, x6, x7⟩ := I3.out.next bc
  have HZ := Lib.hid (below_set4 (chain hb0.out bc) (g := w.heap.size + 1 + 1) (by omega) (.bool xb) (.string xs) (.bool false) (.string ys))
  unfold rat at *
  clear bc
  go_wp2
  exact bodyPost_ret (v := .tuple #[.agg #[.bool xb, .string xs, .bool false, .string ys], .int .i64 0]) (by simp [results, Tryz.results25, go_sem, x0, x1, x2, x3]) rfl ⟨rfl, HZ.out⟩

end Go.Proofs.YtlmklhffafcmmaaGreat

/- The reference's ratios: Lowest, FromRatio, ValidRatio. -/
namespace Go.Proofs.YtlmklhffafcmmaaGreat
open Go.RowKit

/-- A ratio of the reference. -/
def qV (x y : Int) (v1 v2 : Value) : Value := .agg #[.bool (decide (x < 0)), v1, .bool (decide (y < 0)), v2]
def RQPost (x y : Int) (w : World) (e : Ending) (w' : World) : Prop := ∃ v1 v2, e = .returned (qV x y v1 v2) ∧ Rz w' v1 x ∧ Rz w' v2 y ∧ Below w.heap.size w w'
theorem Ri.set4 {w : World} {g : Nat} {v : Value} {xs : List Nat} {b0 b1 : Bool} {p p' : Option Addr} {n c n' c' : Nat} (h : Ri w v xs) (q : ZC4 (.bool b0) (.slice p n c) (.bool b1) (.slice p' n' c') w g) (x y z u : Value) : Ri ((((w.setCell ⟨g, 0, none⟩ x).setCell ⟨g, 1, none⟩ y).setCell ⟨g, 2, none⟩ z).setCell ⟨g, 3, none⟩ u) v xs := by
  obtain ⟨⟨h1, h2, h3, h4⟩, _⟩ := q
  refine (((h.set h1 (fun _ => by simp)).set (old := .slice p n c) ?_ (fun _ => by simp)).set (old := .bool b1) ?_ (fun _ => by simp)).set (old := .slice p' n' c') ?_ (fun _ => by simp) <;> simp [go_sem, h1, h2, h3, h4]
/-- What both are divided by. -/
def lg (n d : Int) : Int := if d < 0 then -((Nat.gcd n.natAbs d.natAbs : Nat) : Int) else ((Nat.gcd n.natAbs d.natAbs : Nat) : Int)
theorem len9 {z : Int} {k : Nat} (h : z.natAbs < D9 ^ k) : (Nm.dg D9 z.natAbs).length ≤ k := Nm.len_le_of_val D92 (Nm.nrm_dg D92 _) (by rwa [Nm.val_dg D92])

set_option maxRecDepth 100000 in
set_option maxHeartbeats 4000000 in
theorem rlowest_neg (n d : Int) (v1 v2 : Value) (w : World) (k : Nat) (hk : k ≤ 90000) (hn : n.natAbs < D9 ^ k) (hd : d.natAbs < D9 ^ k) (h0 : d < 0) (h1 : Rz w v1 n) (h2 : Rz w v2 d) :
    Calls Tryz.prog 15 #[iV n v1, iV d v2] w (RQPost (n / lg n d) (d / lg n d) w) := by
  obtain ⟨G, hG⟩ : ∃ G : Int, ((Nat.gcd n.natAbs d.natAbs : Nat) : Int) = G := ⟨_, rfl⟩
  obtain ⟨G2, hG2⟩ : ∃ G2 : Int, lg n d = G2 := ⟨_, rfl⟩
  have hGG : G2 = -G := by rw [← hG2, ← hG]; unfold lg; rw [if_pos h0]
  have hgp : 0 < Nat.gcd n.natAbs d.natAbs := Nat.gcd_pos_of_pos_right _ (by omega)
  have hgl : Nat.gcd n.natAbs d.natAbs ≤ d.natAbs := Nat.gcd_le_right _ (by omega)
  have hG0 : G2 ≠ 0 := by omega
  have hGk : G2.natAbs < D9 ^ k := by omega
  have H_gcd : Hid (∀ v1 v2 w, Rz w v1 n → Rz w v2 d → Calls Tryz.prog 66 #[iV n v1, iV d v2] w (IntPost G w)) := fun v1 v2 w h1 h2 => by
    have h := rgcd_int n d v1 v2 w h1 h2 (Nat.le_trans (len9 hn) (by omega)) (Nat.le_trans (len9 hd) (by omega))
    rwa [hG] at h
  have H_sign : Hid (∀ v w, Rz w v d → Calls Tryz.prog 19 #[iV d v] w (SignPost (-1) w)) := fun v w h => by
    have h5 := rsign_int d v w h
    rwa [show d.sign = -1 from Int.sign_eq_neg_one_of_neg h0] at h5
  have H_neg : Hid (∀ v w, Rz w v G → Calls Tryz.prog 67 #[iV G v] w (IntPost G2 w)) := fun v w h => by
    have h5 := rneg_int G v w h
    rwa [← hGG] at h5
  have H_q1 := Lib.hid (fun v1 v2 w g1 g2 => rquo_int n G2 v1 v2 w k hk hn hGk g1 g2 hG0)
  have H_q2 := Lib.hid (fun v1 v2 w g1 g2 => rquo_int d G2 v1 v2 w k hk hd hGk g1 g2 hG0)
  have R1 : Hid (Rz w v1 n) := h1
  have R2 : Hid (Rz w v2 d) := h2
  rw [hG2]
  clear hG hG2 hGG hgp hgl hG0 hGk hn hd h0 hk
  obtain ⟨p1, b1, o1, c1, rfl, hr1⟩ := h1
  obtain ⟨p2, b2, o2, c2, rfl, hr2⟩ := h2
  clear hr1 hr2
  obtain ⟨z1, hz1⟩ : ∃ z, n / G2 = z := ⟨_, rfl⟩
  obtain ⟨z2, hz2⟩ : ∃ z, d / G2 = z := ⟨_, rfl⟩
  rw [hz1] at H_q1 ⊢
  rw [hz2] at H_q2 ⊢
  unfold QIPost at H_q1 H_q2
  unfold IntPost at H_gcd  H_neg
  unfold SignPost at H_sign
  unfold RQPost
  unfold iV at *
  generalize n % G2 = m1 at *
  generalize d % G2 = m2 at *
  clear hz1 hz2
  obtain ⟨bn, hbn⟩ : ∃ b, decide (n < 0) = b := ⟨_, rfl⟩
  obtain ⟨bd, hbd⟩ : ∃ b, decide (d < 0) = b := ⟨_, rfl⟩
  obtain ⟨bz1, hbz1⟩ : ∃ b, decide (z1 < 0) = b := ⟨_, rfl⟩
  obtain ⟨bz2, hbz2⟩ : ∃ b, decide (z2 < 0) = b := ⟨_, rfl⟩
  unfold qV
  rw [hbz1, hbz2]
  rw [hbn] at H_gcd H_q1 ⊢
  rw [hbd] at H_gcd H_sign H_q2 ⊢
  rw [hbz1] at H_q1
  rw [hbz2] at H_q2
  clear hbn hbd hbz1 hbz2
  generalize (Nm.dg D9 n.natAbs).length = l1 at *
  generalize (Nm.dg D9 d.natAbs).length = l2 at *
  generalize decide (G < 0) = bg at *
  generalize decide (G2 < 0) = bg2 at *
  generalize decide (m1 < 0) = bm1 at *
  generalize decide (m2 < 0) = bm2 at *
  obtain ⟨w0, hw0⟩ : ∃ w0 : World, w0 = ((w.alloc (.cells #[.bool bn, .slice p1 l1 c1] 38)).alloc (.cells #[.bool bd, .slice p2 l2 c2] 38)).alloc (.cells #[.bool false, .slice none 0 0, .bool false, .slice none 0 0] 40) := ⟨_, rfl⟩
  have hb0 : Hid (Below w.heap.size w w0) := by rw [hw0]; exact (((Below.refl _ _).alloc (Nat.le_refl _) _).alloc (by simp) _).alloc (by simp; omega) _
  have I1 : Hid (ZC (.bool bn) (.slice p1 l1 c1) w0 w.heap.size) := by rw [hw0]; exact ((ZC.new rfl).alloc _).alloc _
  have I2 : Hid (ZC (.bool bd) (.slice p2 l2 c2) w0 (w.heap.size + 1)) := by rw [hw0]; exact (ZC.new (by simp)).alloc _
  have I3 : Hid (ZC4 (.bool false) (.slice none 0 0) (.bool false) (.slice none 0 0) w0 (w.heap.size + 1 + 1)) := by
    rw [hw0]; have := ZC4.made0 (x := .bool false) (y := .slice none 0 0) (z := .bool false) (u := .slice none 0 0) (t := 40) ((w.alloc (.cells #[.bool bn, .slice p1 l1 c1] 38)).alloc (.cells #[.bool bd, .slice p2 l2 c2] 38)); show ZC4 _ _ _ _ _ _; simpa using this
  have R1 : Hid (Rz w0 (.slice p1 l1 c1) n) := Ri.below R1.out hb0.out (Nat.le_refl _)
  have R2 : Hid (Rz w0 (.slice p2 l2 c2) d) := Ri.below R2.out hb0.out (Nat.le_refl _)
  have Hw0 := Lib.hid hw0
  clear hw0
  go_enter Tryz.func15, Tryz.ntmps15
  go_wp2_with fail
  rw [← Hw0.out]
  refine (H_gcd.out _ _ _ R1.out R2.out).mono ?_
  rintro e y5 ⟨v5, rfl, r5, b9⟩
  obtain ⟨p5, q5, o5, c5, rfl, hr5⟩ := r5
  have R5 : Hid (Rz y5 (.slice p5 (Nm.dg D9 G.natAbs).length c5) G) := ⟨p5, q5, o5, c5, rfl, hr5⟩
  clear hr5
  generalize (Nm.dg D9 G.natAbs).length = l5 at *
  obtain ⟨u5, hu5⟩ : ∃ u : World, u = y5.alloc (.cells #[.bool bg, .slice p5 l5 c5] 38) := ⟨_, rfl⟩
  have D : Hid (Below w0.heap.size w0 u5) := by rw [hu5]; exact b9.alloc b9.size _
  have T5 : Hid (ZC (.bool bg) (.slice p5 l5 c5) u5 y5.heap.size) := by rw [hu5]; exact ZC.new rfl
  have R5 : Hid (Rz u5 (.slice p5 l5 c5) G) := by rw [hu5]; exact R5.out.allocd _
  have hy5 : Hid (w0.heap.size ≤ y5.heap.size) := b9.size
  have Hu5 := Lib.hid hu5
  clear hu5 b9
  go_upto_region 2 with (fail)
  rw [← Hu5.out]
  clear Hu5
  obtain ⟨k2, k3, _⟩ := I2.out.next D.out
  go_wp2_with fail
  refine (H_sign.out _ _ (Ri.below R2.out D.out (Nat.le_refl _))).mono ?_
  rintro e ys ⟨rfl, b9⟩
  have T5 := Lib.hid (T5.out.next b9)
  have R5 : Hid (Rz ys (.slice p5 l5 c5) G) := Ri.below R5.out b9 (Nat.le_refl _)
  have D := Lib.hid (chain D.out b9)
  clear b9 k2 k3
  obtain ⟨k4, k5, k4f, k5f⟩ := T5.out
  go_wp2_with fail
  refine (H_neg.out _ _ R5.out).mono ?_
  rintro e y7 ⟨v7, rfl, r7, b9⟩
  obtain ⟨p7, q7, o7, c7, rfl, hr7⟩ := r7
  have R7 : Hid (Rz y7 (.slice p7 (Nm.dg D9 G2.natAbs).length c7) G2) := ⟨p7, q7, o7, c7, rfl, hr7⟩
  clear hr7
  generalize (Nm.dg D9 G2.natAbs).length = l7 at *
  have T5 := Lib.hid (T5.out.next b9)
  have D7 := chain D.out b9
  obtain ⟨m4, m5, m4f, m5f⟩ := T5.out
  obtain ⟨u7, hu7⟩ : ∃ u : World, u = (y7.setCell ⟨y5.heap.size, 0, none⟩ (.bool bg2)).setCell ⟨y5.heap.size, 1, none⟩ (.slice p7 l7 c7) := ⟨_, rfl⟩
  have D : Hid (Below w0.heap.size w0 u7) := by rw [hu7]; exact below_set2 D7 hy5.out _ _
  have T5 : Hid (ZC (.bool bg2) (.slice p7 l7 c7) u7 y5.heap.size) := by rw [hu7]; exact T5.out.set
  have R5 : Hid (Rz u7 (.slice p7 l7 c7) G2) := by rw [hu7]; exact R7.out.set2 m4 m5 (fun _ => by simp)
  have Hu7 := Lib.hid hu7
  clear hu7 b9 D7 R7 k4 k5 k4f k5f
  go_upto_region 4 with (fail)
  rw [← Hu7.out]
  clear Hu7 m4 m5 m4f m5f
  obtain ⟨k0, k1, _⟩ := I1.out.next D.out
  obtain ⟨k4, k5, _⟩ := T5.out
  go_wp2_with fail
  refine (H_q1.out _ _ _ (Ri.below R1.out D.out (Nat.le_refl _)) R5.out).mono ?_
  rintro e y6 ⟨v6, x6, rfl, r6, s6, b9⟩
  obtain ⟨p6, q6, o6, c6, rfl, hr6⟩ := r6
  obtain ⟨p6x, q6x, o6x, c6x, rfl, hs6⟩ := s6
  have RR6 : Hid (Rz y6 (.slice p6 (Nm.dg D9 z1.natAbs).length c6) z1) := ⟨p6, q6, o6, c6, rfl, hr6⟩
  clear hr6 hs6
  generalize (Nm.dg D9 z1.natAbs).length = l6 at *
  generalize (Nm.dg D9 m1.natAbs).length = l6x at *
  obtain ⟨u6, hu6⟩ : ∃ u : World, u = (y6.alloc (.cells #[.bool bz1, .slice p6 l6 c6] 38)).alloc (.cells #[.bool bm1, .slice p6x l6x c6x] 38) := ⟨_, rfl⟩
  have E : Hid (Below u7.heap.size u7 u6) := by rw [hu6]; exact (b9.alloc b9.size _).alloc (by simp; exact Nat.le_succ_of_le b9.size) _
  have D := Lib.hid (chain D.out E.out)
  have T5 := Lib.hid (T5.out.next E.out)
  have R5 := Lib.hid (Ri.below R5.out E.out (Nat.le_refl _))
  have T6 : Hid (ZC (.bool bz1) (.slice p6 l6 c6) u6 y6.heap.size) := by rw [hu6]; exact (ZC.new rfl).alloc _
  have RR6 : Hid (Rz u6 (.slice p6 l6 c6) z1) := by rw [hu6]; exact (RR6.out.allocd _).allocd _
  have Hu6 := Lib.hid hu6
  clear hu6 b9 E k0 k1 k4 k5
  go_upto_region 5 with (fail)
  rw [← Hu6.out]
  clear Hu6
  obtain ⟨k0, k1, _⟩ := I2.out.next D.out
  obtain ⟨k4, k5, _⟩ := T5.out
  go_wp2_with fail
  refine (H_q2.out _ _ _ (Ri.below R2.out D.out (Nat.le_refl _)) R5.out).mono ?_
  rintro e y8 ⟨v8, x8, rfl, r8, s8, b9⟩
  obtain ⟨p8, q8, o8, c8, rfl, hr8⟩ := r8
  obtain ⟨p8x, q8x, o8x, c8x, rfl, hs8⟩ := s8
  have RR8 : Hid (Rz y8 (.slice p8 (Nm.dg D9 z2.natAbs).length c8) z2) := ⟨p8, q8, o8, c8, rfl, hr8⟩
  clear hr8 hs8
  generalize (Nm.dg D9 z2.natAbs).length = l8 at *
  generalize (Nm.dg D9 m2.natAbs).length = l8x at *
  obtain ⟨u8, hu8⟩ : ∃ u : World, u = (y8.alloc (.cells #[.bool bz2, .slice p8 l8 c8] 38)).alloc (.cells #[.bool bm2, .slice p8x l8x c8x] 38) := ⟨_, rfl⟩
  have E : Hid (Below u6.heap.size u6 u8) := by rw [hu8]; exact (b9.alloc b9.size _).alloc (by simp; exact Nat.le_succ_of_le b9.size) _
  have D := Lib.hid (chain D.out E.out)
  have T5 := Lib.hid (T5.out.next E.out)
  have R5 := Lib.hid (Ri.below R5.out E.out (Nat.le_refl _))
  have T6 := Lib.hid (T6.out.next E.out)
  have RR6 := Lib.hid (Ri.below RR6.out E.out (Nat.le_refl _))
  have T8 : Hid (ZC (.bool bz2) (.slice p8 l8 c8) u8 y8.heap.size) := by rw [hu8]; exact (ZC.new rfl).alloc _
  have RR8 : Hid (Rz u8 (.slice p8 l8 c8) z2) := by rw [hu8]; exact (RR8.out.allocd _).allocd _
  have Hu8 := Lib.hid hu8
  clear hu8 b9 E k0 k1 k4 k5
  go_upto_region 6 with (fail)
  rw [← Hu8.out]
  clear Hu8
  obtain ⟨k0, k1, _⟩ := T6.out
  obtain ⟨k2, k3, _⟩ := T8.out
  have Q3 := I3.out.next D.out
  have Q3h := Lib.hid Q3
  obtain ⟨⟨n0, n1, n2, n3⟩, n4, n5, n6, n7⟩ := Q3
  have HZ := Lib.hid (below_set4 (chain hb0.out D.out) (g := w.heap.size + 1 + 1) (by omega) (.bool bz1) (.slice p6 l6 c6) (.bool bz2) (.slice p8 l8 c8))
  have HR1 := Lib.hid (Ri.set4 RR6.out Q3h.out (.bool bz1) (.slice p6 l6 c6) (.bool bz2) (.slice p8 l8 c8))
  have HR2 := Lib.hid (Ri.set4 RR8.out Q3h.out (.bool bz1) (.slice p6 l6 c6) (.bool bz2) (.slice p8 l8 c8))
  go_wp2
  exact bodyPost_ret (v := .agg #[.bool bz1, .slice p6 l6 c6, .bool bz2, .slice p8 l8 c8]) (by simp [results, Tryz.results15, go_sem, n0, n1, n2, n3]) rfl ⟨_, _, rfl, HR1.out, HR2.out, HZ.out⟩

set_option maxRecDepth 100000 in
set_option maxHeartbeats 4000000 in
theorem rlowest_pos (n d : Int) (v1 v2 : Value) (w : World) (k : Nat) (hk : k ≤ 90000) (hn : n.natAbs < D9 ^ k) (hd : d.natAbs < D9 ^ k) (h0 : 0 < d) (h1 : Rz w v1 n) (h2 : Rz w v2 d) :
    Calls Tryz.prog 15 #[iV n v1, iV d v2] w (RQPost (n / lg n d) (d / lg n d) w) := by
  obtain ⟨G, hG⟩ : ∃ G : Int, ((Nat.gcd n.natAbs d.natAbs : Nat) : Int) = G := ⟨_, rfl⟩
  obtain ⟨G2, hG2⟩ : ∃ G2 : Int, lg n d = G2 := ⟨_, rfl⟩
  have hGG : G2 = G := by rw [← hG2, ← hG]; unfold lg; rw [if_neg (by omega)]
  have hgp : 0 < Nat.gcd n.natAbs d.natAbs := Nat.gcd_pos_of_pos_right _ (by omega)
  have hgl : Nat.gcd n.natAbs d.natAbs ≤ d.natAbs := Nat.gcd_le_right _ (by omega)
  have hG0 : G2 ≠ 0 := by omega
  have hGk : G2.natAbs < D9 ^ k := by omega
  have H_gcd : Hid (∀ v1 v2 w, Rz w v1 n → Rz w v2 d → Calls Tryz.prog 66 #[iV n v1, iV d v2] w (IntPost G w)) := fun v1 v2 w h1 h2 => by
    have h := rgcd_int n d v1 v2 w h1 h2 (Nat.le_trans (len9 hn) (by omega)) (Nat.le_trans (len9 hd) (by omega))
    rwa [hG] at h
  have H_sign : Hid (∀ v w, Rz w v d → Calls Tryz.prog 19 #[iV d v] w (SignPost 1 w)) := fun v w h => by
    have h5 := rsign_int d v w h
    rwa [show d.sign = 1 from Int.sign_eq_one_of_pos h0] at h5
  have H_q1 := Lib.hid (fun v1 v2 w g1 g2 => rquo_int n G2 v1 v2 w k hk hn hGk g1 g2 hG0)
  have H_q2 := Lib.hid (fun v1 v2 w g1 g2 => rquo_int d G2 v1 v2 w k hk hd hGk g1 g2 hG0)
  have R1 : Hid (Rz w v1 n) := h1
  have R2 : Hid (Rz w v2 d) := h2
  rw [hG2]
  rw [hGG] at H_q1 H_q2 ⊢
  clear hG hG2 hGG hgp hgl hG0 hGk hn hd h0 hk
  obtain ⟨p1, b1, o1, c1, rfl, hr1⟩ := h1
  obtain ⟨p2, b2, o2, c2, rfl, hr2⟩ := h2
  clear hr1 hr2
  obtain ⟨z1, hz1⟩ : ∃ z, n / G = z := ⟨_, rfl⟩
  obtain ⟨z2, hz2⟩ : ∃ z, d / G = z := ⟨_, rfl⟩
  rw [hz1] at H_q1 ⊢
  rw [hz2] at H_q2 ⊢
  unfold QIPost at H_q1 H_q2
  unfold IntPost at H_gcd 
  unfold SignPost at H_sign
  unfold RQPost
  unfold iV at *
  generalize n % G = m1 at *
  generalize d % G = m2 at *
  clear hz1 hz2
  obtain ⟨bn, hbn⟩ : ∃ b, decide (n < 0) = b := ⟨_, rfl⟩
  obtain ⟨bd, hbd⟩ : ∃ b, decide (d < 0) = b := ⟨_, rfl⟩
  obtain ⟨bz1, hbz1⟩ : ∃ b, decide (z1 < 0) = b := ⟨_, rfl⟩
  obtain ⟨bz2, hbz2⟩ : ∃ b, decide (z2 < 0) = b := ⟨_, rfl⟩
  unfold qV
  rw [hbz1, hbz2]
  rw [hbn] at H_gcd H_q1 ⊢
  rw [hbd] at H_gcd H_sign H_q2 ⊢
  rw [hbz1] at H_q1
  rw [hbz2] at H_q2
  clear hbn hbd hbz1 hbz2
  generalize (Nm.dg D9 n.natAbs).length = l1 at *
  generalize (Nm.dg D9 d.natAbs).length = l2 at *
  generalize decide (G < 0) = bg at *
  generalize decide (m1 < 0) = bm1 at *
  generalize decide (m2 < 0) = bm2 at *
  obtain ⟨w0, hw0⟩ : ∃ w0 : World, w0 = ((w.alloc (.cells #[.bool bn, .slice p1 l1 c1] 38)).alloc (.cells #[.bool bd, .slice p2 l2 c2] 38)).alloc (.cells #[.bool false, .slice none 0 0, .bool false, .slice none 0 0] 40) := ⟨_, rfl⟩
  have hb0 : Hid (Below w.heap.size w w0) := by rw [hw0]; exact (((Below.refl _ _).alloc (Nat.le_refl _) _).alloc (by simp) _).alloc (by simp; omega) _
  have I1 : Hid (ZC (.bool bn) (.slice p1 l1 c1) w0 w.heap.size) := by rw [hw0]; exact ((ZC.new rfl).alloc _).alloc _
  have I2 : Hid (ZC (.bool bd) (.slice p2 l2 c2) w0 (w.heap.size + 1)) := by rw [hw0]; exact (ZC.new (by simp)).alloc _
  have I3 : Hid (ZC4 (.bool false) (.slice none 0 0) (.bool false) (.slice none 0 0) w0 (w.heap.size + 1 + 1)) := by
    rw [hw0]; have := ZC4.made0 (x := .bool false) (y := .slice none 0 0) (z := .bool false) (u := .slice none 0 0) (t := 40) ((w.alloc (.cells #[.bool bn, .slice p1 l1 c1] 38)).alloc (.cells #[.bool bd, .slice p2 l2 c2] 38)); show ZC4 _ _ _ _ _ _; simpa using this
  have R1 : Hid (Rz w0 (.slice p1 l1 c1) n) := Ri.below R1.out hb0.out (Nat.le_refl _)
  have R2 : Hid (Rz w0 (.slice p2 l2 c2) d) := Ri.below R2.out hb0.out (Nat.le_refl _)
  have Hw0 := Lib.hid hw0
  clear hw0
  go_enter Tryz.func15, Tryz.ntmps15
  go_wp2_with fail
  rw [← Hw0.out]
  refine (H_gcd.out _ _ _ R1.out R2.out).mono ?_
  rintro e y5 ⟨v5, rfl, r5, b9⟩
  obtain ⟨p5, q5, o5, c5, rfl, hr5⟩ := r5
  have R5 : Hid (Rz y5 (.slice p5 (Nm.dg D9 G.natAbs).length c5) G) := ⟨p5, q5, o5, c5, rfl, hr5⟩
  clear hr5
  generalize (Nm.dg D9 G.natAbs).length = l5 at *
  obtain ⟨u5, hu5⟩ : ∃ u : World, u = y5.alloc (.cells #[.bool bg, .slice p5 l5 c5] 38) := ⟨_, rfl⟩
  have D : Hid (Below w0.heap.size w0 u5) := by rw [hu5]; exact b9.alloc b9.size _
  have T5 : Hid (ZC (.bool bg) (.slice p5 l5 c5) u5 y5.heap.size) := by rw [hu5]; exact ZC.new rfl
  have R5 : Hid (Rz u5 (.slice p5 l5 c5) G) := by rw [hu5]; exact R5.out.allocd _
  have hy5 : Hid (w0.heap.size ≤ y5.heap.size) := b9.size
  have Hu5 := Lib.hid hu5
  clear hu5 b9
  go_upto_region 2 with (fail)
  rw [← Hu5.out]
  clear Hu5
  obtain ⟨k2, k3, _⟩ := I2.out.next D.out
  go_wp2_with fail
  refine (H_sign.out _ _ (Ri.below R2.out D.out (Nat.le_refl _))).mono ?_
  rintro e ys ⟨rfl, b9⟩
  have T5 := Lib.hid (T5.out.next b9)
  have R5 : Hid (Rz ys (.slice p5 l5 c5) G) := Ri.below R5.out b9 (Nat.le_refl _)
  have D := Lib.hid (chain D.out b9)
  clear b9 k2 k3
  obtain ⟨k0, k1, _⟩ := I1.out.next D.out
  obtain ⟨k4, k5, _⟩ := T5.out
  go_wp2_with fail
  refine (H_q1.out _ _ _ (Ri.below R1.out D.out (Nat.le_refl _)) R5.out).mono ?_
  rintro e y6 ⟨v6, x6, rfl, r6, s6, b9⟩
  obtain ⟨p6, q6, o6, c6, rfl, hr6⟩ := r6
  obtain ⟨p6x, q6x, o6x, c6x, rfl, hs6⟩ := s6
  have RR6 : Hid (Rz y6 (.slice p6 (Nm.dg D9 z1.natAbs).length c6) z1) := ⟨p6, q6, o6, c6, rfl, hr6⟩
  clear hr6 hs6
  generalize (Nm.dg D9 z1.natAbs).length = l6 at *
  generalize (Nm.dg D9 m1.natAbs).length = l6x at *
  obtain ⟨u6, hu6⟩ : ∃ u : World, u = (y6.alloc (.cells #[.bool bz1, .slice p6 l6 c6] 38)).alloc (.cells #[.bool bm1, .slice p6x l6x c6x] 38) := ⟨_, rfl⟩
  have E : Hid (Below ys.heap.size ys u6) := by rw [hu6]; exact (b9.alloc b9.size _).alloc (by simp; exact Nat.le_succ_of_le b9.size) _
  have D := Lib.hid (chain D.out E.out)
  have T5 := Lib.hid (T5.out.next E.out)
  have R5 := Lib.hid (Ri.below R5.out E.out (Nat.le_refl _))
  have T6 : Hid (ZC (.bool bz1) (.slice p6 l6 c6) u6 y6.heap.size) := by rw [hu6]; exact (ZC.new rfl).alloc _
  have RR6 : Hid (Rz u6 (.slice p6 l6 c6) z1) := by rw [hu6]; exact (RR6.out.allocd _).allocd _
  have Hu6 := Lib.hid hu6
  clear hu6 b9 E k0 k1 k4 k5
  go_upto_region 5 with (fail)
  rw [← Hu6.out]
  clear Hu6
  obtain ⟨k0, k1, _⟩ := I2.out.next D.out
  obtain ⟨k4, k5, _⟩ := T5.out
  go_wp2_with fail
  refine (H_q2.out _ _ _ (Ri.below R2.out D.out (Nat.le_refl _)) R5.out).mono ?_
  rintro e y8 ⟨v8, x8, rfl, r8, s8, b9⟩
  obtain ⟨p8, q8, o8, c8, rfl, hr8⟩ := r8
  obtain ⟨p8x, q8x, o8x, c8x, rfl, hs8⟩ := s8
  have RR8 : Hid (Rz y8 (.slice p8 (Nm.dg D9 z2.natAbs).length c8) z2) := ⟨p8, q8, o8, c8, rfl, hr8⟩
  clear hr8 hs8
  generalize (Nm.dg D9 z2.natAbs).length = l8 at *
  generalize (Nm.dg D9 m2.natAbs).length = l8x at *
  obtain ⟨u8, hu8⟩ : ∃ u : World, u = (y8.alloc (.cells #[.bool bz2, .slice p8 l8 c8] 38)).alloc (.cells #[.bool bm2, .slice p8x l8x c8x] 38) := ⟨_, rfl⟩
  have E : Hid (Below u6.heap.size u6 u8) := by rw [hu8]; exact (b9.alloc b9.size _).alloc (by simp; exact Nat.le_succ_of_le b9.size) _
  have D := Lib.hid (chain D.out E.out)
  have T5 := Lib.hid (T5.out.next E.out)
  have R5 := Lib.hid (Ri.below R5.out E.out (Nat.le_refl _))
  have T6 := Lib.hid (T6.out.next E.out)
  have RR6 := Lib.hid (Ri.below RR6.out E.out (Nat.le_refl _))
  have T8 : Hid (ZC (.bool bz2) (.slice p8 l8 c8) u8 y8.heap.size) := by rw [hu8]; exact (ZC.new rfl).alloc _
  have RR8 : Hid (Rz u8 (.slice p8 l8 c8) z2) := by rw [hu8]; exact (RR8.out.allocd _).allocd _
  have Hu8 := Lib.hid hu8
  clear hu8 b9 E k0 k1 k4 k5
  go_upto_region 6 with (fail)
  rw [← Hu8.out]
  clear Hu8
  obtain ⟨k0, k1, _⟩ := T6.out
  obtain ⟨k2, k3, _⟩ := T8.out
  have Q3 := I3.out.next D.out
  have Q3h := Lib.hid Q3
  obtain ⟨⟨n0, n1, n2, n3⟩, n4, n5, n6, n7⟩ := Q3
  have HZ := Lib.hid (below_set4 (chain hb0.out D.out) (g := w.heap.size + 1 + 1) (by omega) (.bool bz1) (.slice p6 l6 c6) (.bool bz2) (.slice p8 l8 c8))
  have HR1 := Lib.hid (Ri.set4 RR6.out Q3h.out (.bool bz1) (.slice p6 l6 c6) (.bool bz2) (.slice p8 l8 c8))
  have HR2 := Lib.hid (Ri.set4 RR8.out Q3h.out (.bool bz1) (.slice p6 l6 c6) (.bool bz2) (.slice p8 l8 c8))
  go_wp2
  exact bodyPost_ret (v := .agg #[.bool bz1, .slice p6 l6 c6, .bool bz2, .slice p8 l8 c8]) (by simp [results, Tryz.results15, go_sem, n0, n1, n2, n3]) rfl ⟨_, _, rfl, HR1.out, HR2.out, HZ.out⟩

theorem rlowest_int (n d : Int) (v1 v2 : Value) (w : World) (k : Nat) (hk : k ≤ 90000) (hn : n.natAbs < D9 ^ k) (hd : d.natAbs < D9 ^ k) (h0 : d ≠ 0) (h1 : Rz w v1 n) (h2 : Rz w v2 d) :
    Calls Tryz.prog 15 #[iV n v1, iV d v2] w (RQPost (n / lg n d) (d / lg n d) w) := by
  rcases Int.lt_or_gt_of_ne h0 with h | h
  · exact rlowest_neg n d v1 v2 w k hk hn hd h h1 h2
  · exact rlowest_pos n d v1 v2 w k hk hn hd h h1 h2
end Go.Proofs.YtlmklhffafcmmaaGreat
