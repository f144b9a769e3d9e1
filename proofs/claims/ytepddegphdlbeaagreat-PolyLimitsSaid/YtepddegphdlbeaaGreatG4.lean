/- What the theorem leans on, part G4. -/
import Derived.Test.YtepddegphdlbeaaGreatG3
import Derived.Test.YtepddegphdlbeaaGreatG2
import Derived.Test.YtepddegphdlbeaaGreatG1
import Derived.Test.YtepddegphdlbeaaGreatG0
import Derived.Test.YtepddegphdlbeaaGreatProg
import Derived.WalkKit
import Derived.WalkSpells
import Derived.WalkLawsBesides
import Derived.Lib.Hide
import Derived.Deep.QuietTactic
import Derived.BigQuiet
import Derived.Shelf.Small.Bits
import Derived.Shelf.Small.Wraps
import Derived.Shelf.Strconv.Itoa0
import Derived.Shelf.Bits.Mul64
import Derived.Ground.Names2Prog
import Derived.Shelf.Slices.SearchI
import Derived.Shelf.Spec.BitsCarry
import Derived.Deep.LoopGhost
import Derived.Deep.RegionHeld3
import Derived.Deep.DeepCutAuto
set_option maxRecDepth 100000
set_option maxHeartbeats 16000000
set_option linter.all false
namespace Go.Proofs.YtepddegphdlbeaaGreat
open Go.RowKit
def RPost (a : Bool) (s : ByteArray) (b : Bool) (t : ByteArray) (c : Int) (w : World) (e : Ending) (w' : World) : Prop := e = .returned (.tuple #[rat a s b t, .int .i64 c]) ∧ Below w.heap.size w w'
theorem k'5g {B : Nat} {a w : World} {g : Nat} (h : Below B a w) (hg : B ≤ g) (u0 u1 u2 u3 : Value) : Below B a ((((w.setCell ⟨g, 0, none⟩ u0).setCell ⟨g, 1, none⟩ u1).setCell ⟨g, 2, none⟩ u2).setCell ⟨g, 3, none⟩ u3) :=
 (((h.setCell (p := ⟨g, 0, none⟩) hg _).setCell (p := ⟨g, 1, none⟩) hg _).setCell (p := ⟨g, 2, none⟩) hg _).setCell (p := ⟨g, 3, none⟩) hg _
theorem k'5h (a b : Bool) (v1 v2 : Value) (m n g A B : Nat) (w : World) (hg : GcdOK m n) (e0 : Nat.gcd m n = g) (d1 : DivOK m g) (d2 : DivOK n g) (e1 : m / g = A) (e2 : n / g = B)
 (h1 : Rd w v1 (Nm.dg W m)) (h2 : Rd w v2 (Nm.dg W n)) (l1 : (Nm.dg W A).length ≤ 1000000) (l2 : (Nm.dg W B).length ≤ 1000000) (t1 : A < Top) (t2 : B < Top) :
 Calls Tryz.prog 134 #[.agg #[.bool a, v1], .agg #[.bool b, v2]] w (RPost ((a != b) && decide (A ≠ 0)) (bs A) false (bs B) 0 w) := by
 obtain ⟨ab, hab⟩ : ∃ ab, (a != b) = ab := ⟨_, rfl⟩
 have HW1 := i' (fun v w h => k'3y ab v A w h l1)
 have HW2 := i' (fun v w h => k'3y false v B w h l2)
 rw [k'3n _ t1, k'3o t1] at HW1
 rw [k'3n _ t2, k'3o t2] at HW2
 have HG : Hid (∀ v1 v2 w, Rd w v1 (Nm.dg W m) → Rd w v2 (Nm.dg W n) → Calls Tryz.prog 143 #[v1, v2] w (Gives g w)) := by rw [← e0]; exact hg
 have HD1 : Hid (∀ v1 v2 w, Rd w v1 (Nm.dg W m) → Rd w v2 (Nm.dg W g) → Calls Tryz.prog 146 #[v1, v2] w (DivPost m g w)) := d1
 have HD2 : Hid (∀ v1 v2 w, Rd w v1 (Nm.dg W n) → Rd w v2 (Nm.dg W g) → Calls Tryz.prog 146 #[v1, v2] w (DivPost n g w)) := d2
 unfold DivPost at HD1 HD2
 rw [e1] at HD1
 rw [e2] at HD2
 rw [hab]
 have hab2 : (!(a == b)) = ab := hab
 clear hab
 have hx : wd ab A = .agg #[.bool (ab && decide (A ≠ 0)), .string (bs A)] := rfl
 have hy : wd false B = .agg #[.bool false, .string (bs B)] := by rw [wd]; simp
 rw [hx] at HW1
 rw [hy] at HW2
 generalize (ab && decide (A ≠ 0)) = xb at *
 generalize bs A = xs at *
 generalize bs B = ys at *
 have H1 := i' h1
 have H2 := i' h2
 clear hx hy t1 t2 l1 l2 e0 e1 e2 hg d1 d2
 generalize m % g = mr at *
 generalize n % g = nr at *
 obtain ⟨p1, b1, o1, c1, rfl, hr1⟩ := h1
 obtain ⟨p2, b2, o2, c2, rfl, hr2⟩ := h2
 clear hr1 hr2
 generalize (Nm.dg W m).length = s1 at *
 generalize (Nm.dg W n).length = s2 at *
 obtain ⟨w0, hw0⟩ : ∃ w0 : World, w0 = ((w.alloc (.cells #[.bool a, .slice p1 s1 c1] 143)).alloc (.cells #[.bool b, .slice p2 s2 c2] 143)).alloc (.cells #[.bool false, .string ⟨#[]⟩, .bool false, .string ⟨#[]⟩] 59) := ⟨_, rfl⟩
 have hb0 : Hid (Below w.heap.size w w0) := by rw [hw0]; exact (((Below.refl _ _).alloc (Nat.le_refl _) _).alloc (by simp) _).alloc (by simp; omega) _
 have k0 : w0.cell? ⟨w.heap.size, 0, none⟩ = some (.bool a) := by rw [hw0]; simp [go_sem]
 have k1 : w0.cell? ⟨w.heap.size, 1, none⟩ = some (.slice p1 s1 c1) := by rw [hw0]; simp [go_sem]
 have k2 : w0.cell? ⟨w.heap.size + 1, 0, none⟩ = some (.bool b) := by rw [hw0]; simp [go_sem]
 have k3 : w0.cell? ⟨w.heap.size + 1, 1, none⟩ = some (.slice p2 s2 c2) := by rw [hw0]; simp [go_sem]
 have k4 : w0.cell? ⟨w.heap.size + 1 + 1, 0, none⟩ = some (.bool false) ∧ w0.cell? ⟨w.heap.size + 1 + 1, 1, none⟩ = some (.string ⟨#[]⟩) ∧ w0.cell? ⟨w.heap.size + 1 + 1, 2, none⟩ = some (.bool false) ∧ w0.cell? ⟨w.heap.size + 1 + 1, 3, none⟩ = some (.string ⟨#[]⟩) := by
  rw [hw0]; refine ⟨?_, ?_, ?_, ?_⟩ <;> simp [go_sem]
 have k5 : w0.frozen? ⟨w.heap.size + 1 + 1, 0, none⟩ = false ∧ w0.frozen? ⟨w.heap.size + 1 + 1, 1, none⟩ = false ∧ w0.frozen? ⟨w.heap.size + 1 + 1, 2, none⟩ = false ∧ w0.frozen? ⟨w.heap.size + 1 + 1, 3, none⟩ = false := by
  rw [hw0]; refine ⟨?_, ?_, ?_, ?_⟩ <;> simp [go_sem]
 have hsz : w0.heap.size = w.heap.size + 3 := by rw [hw0]; simp
 have KK := i' (And.intro k0 (And.intro k1 (And.intro k2 k3)))
 have KR := i' (And.intro k4 k5)
 have Hsz := i' hsz
 have Hw0 := i' hw0
 clear k0 k1 k2 k3 k4 k5 hw0 hsz
 have R1 := i' (H1.out.below hb0.out (Nat.le_refl _))
 have R2 := i' (H2.out.below hb0.out (Nat.le_refl _))
 clear H1 H2
 go_enter Tryz.func134, Tryz.ntmps134
 go_wp2_with fail
 rw [← Hw0.out]
 refine (HG.out _ _ _ R1.out R2.out).mono ?_
 rintro e wa ⟨v3, rfl, r3, ba⟩
 have q0 := keep1 ba KK.out.1
 have q1 := keep1 ba KK.out.2.1
 have q2 := keep1 ba KK.out.2.2.1
 have q3 := keep1 ba KK.out.2.2.2
 have BA := i' ba
 have RG := i' r3
 have R1a := i' (R1.out.below ba (Nat.le_refl _))
 have R2a := i' (R2.out.below ba (Nat.le_refl _))
 clear ba r3 R1 R2
 go_wp2_with fail
 refine (HD1.out _ _ _ R1a.out RG.out).mono ?_
 rintro e wb ⟨v4, v5, rfl, r4, r5, bb⟩
 have q0 := keep1 bb q0
 have q1 := keep1 bb q1
 have q2 := keep1 bb q2
 have q3 := keep1 bb q3
 have BB := i' (chain BA.out bb)
 have RGb := i' (RG.out.below bb (Nat.le_refl _))
 have R2b := i' (R2a.out.below bb (Nat.le_refl _))
 have RA := i' r4
 obtain ⟨p4, b4, o4, c4, rfl, hr4⟩ := r4
 clear bb r5 hr4 R1a R2a RG
 go_wp2_with fail
 refine (HD2.out _ _ _ R2b.out RGb.out).mono ?_
 rintro e wc ⟨v6, v7, rfl, r6, r7, bc⟩
 have q0 := keep1 bc q0
 have q1 := keep1 bc q1
 have q2 := keep1 bc q2
 have q3 := keep1 bc q3
 have BC := i' (chain BB.out bc)
 have RAc := i' (RA.out.below bc (Nat.le_refl _))
 have RB := i' r6
 obtain ⟨p6, b6, o6, c6, rfl, hr6⟩ := r6
 clear bc r7 hr6 R2b RGb RA
 go_wp2_with fail
 refine (HW1.out _ _ RAc.out).mono ?_
 rintro e wd1 ⟨rfl, bd⟩
 have BD := i' (chain BC.out bd)
 have RBd := i' (RB.out.below bd (Nat.le_refl _))
 clear bd q0 q1 q2 q3 RAc RB hab2
 go_wp2_with fail
 refine (HW2.out _ _ (RBd.out.alloc _)).mono ?_
 rintro e we ⟨rfl, be⟩
 have BE := chain (BD.out.alloc BD.out.size _) be
 obtain ⟨z1, z2, z3, z4⟩ := (ZC.new (x := .bool xb) (y := .string xs) (t := 44) (w := wd1) rfl).next be
 have s0 := be.size
 have s1 := BD.out.size
 have s2 := Hsz.out
 have f1 : ¬ we.heap.size = wd1.heap.size := by simp at s0; omega
 have f2 : ¬ wd1.heap.size = we.heap.size := by simp at s0; omega
 have f3 : ¬ wd1.heap.size = w.heap.size + 1 + 1 := by omega
 have f4 : ¬ we.heap.size = w.heap.size + 1 + 1 := by simp at s0; omega
 have f5 : ¬ w.heap.size + 1 + 1 = we.heap.size := by simp at s0; omega
 have f6 : wd1.heap.size < we.heap.size := by simp at s0; omega
 have f7 : w.heap.size + 1 + 1 < we.heap.size := by simp at s0; omega
 have q0 := keep1 BE KR.out.1.1
 have q1 := keep1 BE KR.out.1.2.1
 have q2 := keep1 BE KR.out.1.2.2.1
 have q3 := keep1 BE KR.out.1.2.2.2
 have q4 := keepf BE KR.out.1.1 KR.out.2.1
 have q5 := keepf BE KR.out.1.2.1 KR.out.2.2.1
 have q6 := keepf BE KR.out.1.2.2.1 KR.out.2.2.2.1
 have q7 := keepf BE KR.out.1.2.2.2 KR.out.2.2.2.2
 have HZ := i' ((k'5g (chain hb0.out BE) (g := w.heap.size + 1 + 1) (by omega) (.bool xb) (.string xs) (.bool false) (.string ys)).alloc (by simpa using (chain hb0.out BE).size) (.cells #[.bool false, .string ys] 44))
 clear be BE s0 s1 s2 BD RBd
 go_wp2
 exact bodyPost_ret (v := .tuple #[.agg #[.bool xb, .string xs, .bool false, .string ys], .int .i64 0]) (by simp [results, Tryz.results134, go_sem, q0, q1, q2, q3, f4, f5, f7]) rfl ⟨rfl, HZ.out⟩
def FracOK (f : Nat) (a1 b1 a2 b2 : Bool) (m1 n1 m2 n2 : Nat) (s : Bool) (k : Nat) : Prop := ∀ x1 y1 x2 y2 w, Rd w x1 (Nm.dg W m1) → Rd w y1 (Nm.dg W n1) → Rd w x2 (Nm.dg W m2) → Rd w y2 (Nm.dg W n2) →
 Calls Tryz.prog f #[.agg #[.bool a1, x1, .bool b1, y1], .agg #[.bool a2, x2, .bool b2, y2]] w (NumPost s k w)
def LowOK (m n A B : Nat) : Prop := GcdOK m n ∧ DivOK m (Nat.gcd m n) ∧ DivOK n (Nat.gcd m n) ∧ m / Nat.gcd m n = A ∧ n / Nat.gcd m n = B ∧ (Nm.dg W A).length ≤ 1000000 ∧ (Nm.dg W B).length ≤ 1000000 ∧ A < Top ∧ B < Top
theorem k'5i {m n A B : Nat} (h : LowOK m n A B) (a b : Bool) (v1 v2 : Value) (w : World) (h1 : Rd w v1 (Nm.dg W m)) (h2 : Rd w v2 (Nm.dg W n)) :
 Calls Tryz.prog 134 #[.agg #[.bool a, v1], .agg #[.bool b, v2]] w (RPost ((a != b) && decide (A ≠ 0)) (bs A) false (bs B) 0 w) := by
 obtain ⟨g1, g2, g3, g4, g5, g6, g7, g8, g9⟩ := h
 exact k'5h a b v1 v2 m n _ A B w g1 rfl g2 g3 g4 g5 h1 h2 g6 g7 g8 g9
theorem k'5j (a b : Bool) (s t : ByteArray) (A B : Nat) (w : World) (hl : LowOK (bv s) (bv t) A B) (hv1 : vld a s = true) (hv2 : vld b t = true) (h0 : 0 < bv t) :
 Calls Tryz.prog 102 #[.agg #[.bool a, .string s], .agg #[.bool b, .string t]] w (RPost ((a != b) && decide (A ≠ 0)) (bs A) false (bs B) 0 w) := by
 have z1 := k'41 hv1
 have z2 := k'41 hv2
 have HV1 := k'3z a s
 have HV2 := k'3z b t
 rw [hv1] at HV1
 rw [hv2] at HV2
 have HA := i' (fun w => HV1 w (by omega))
 have HB := i' (fun w => HV2 w (by omega))
 have HR1 := i' (fun w => k'3d a s w (by omega) (k'40 hv1))
 have HR2 := i' (fun w => k'3d b t w (by omega) (k'40 hv2))
 have HP := i' (k'5i hl a b)
 have ht0 : 0 < t.size := by
  rcases Nat.eq_zero_or_pos t.size with h | h
  ·rw [k'42 h] at h0; exact absurd h0 (by decide)
  ·exact h
 have he := k'2k t ht0
 have he2 : (t.toList == []) = false := by
  cases hd : t.toList with
  | nil => rw [hd] at he; simp at he
  | cons x l => rfl
 clear HV1 HV2 hv1 hv2 hl h0 ht0
 generalize ((a != b) && decide (A ≠ 0)) = xb at *
 generalize bs A = xs at *
 generalize bs B = ys at *
 generalize bv s = m at *
 generalize bv t = n at *
 obtain ⟨w0, hw0⟩ : ∃ w0 : World, w0 = ((w.alloc (.cells #[.bool a, .string s] 44)).alloc (.cells #[.bool b, .string t] 44)).alloc (.cells #[.bool false, .string ⟨#[]⟩, .bool false, .string ⟨#[]⟩] 59) := ⟨_, rfl⟩
 have hb0 : Hid (Below w.heap.size w w0) := by rw [hw0]; exact (((Below.refl _ _).alloc (Nat.le_refl _) _).alloc (by simp) _).alloc (by simp; omega) _
 have k0 : w0.cell? ⟨w.heap.size, 0, none⟩ = some (.bool a) := by rw [hw0]; simp [go_sem]
 have k1 : w0.cell? ⟨w.heap.size, 1, none⟩ = some (.string s) := by rw [hw0]; simp [go_sem]
 have k2 : w0.cell? ⟨w.heap.size + 1, 0, none⟩ = some (.bool b) := by rw [hw0]; simp [go_sem]
 have k3 : w0.cell? ⟨w.heap.size + 1, 1, none⟩ = some (.string t) := by rw [hw0]; simp [go_sem]
 have k4 : w0.cell? ⟨w.heap.size + 1 + 1, 0, none⟩ = some (.bool false) ∧ w0.cell? ⟨w.heap.size + 1 + 1, 1, none⟩ = some (.string ⟨#[]⟩) ∧ w0.cell? ⟨w.heap.size + 1 + 1, 2, none⟩ = some (.bool false) ∧ w0.cell? ⟨w.heap.size + 1 + 1, 3, none⟩ = some (.string ⟨#[]⟩) := by
  rw [hw0]; refine ⟨?_, ?_, ?_, ?_⟩ <;> simp [go_sem]
 have k5 : w0.frozen? ⟨w.heap.size + 1 + 1, 0, none⟩ = false ∧ w0.frozen? ⟨w.heap.size + 1 + 1, 1, none⟩ = false ∧ w0.frozen? ⟨w.heap.size + 1 + 1, 2, none⟩ = false ∧ w0.frozen? ⟨w.heap.size + 1 + 1, 3, none⟩ = false := by
  rw [hw0]; refine ⟨?_, ?_, ?_, ?_⟩ <;> simp [go_sem]
 have KK := i' (And.intro k0 (And.intro k1 (And.intro k2 k3)))
 have KR := i' (And.intro k4 k5)
 have Hw0 := i' hw0
 clear k0 k1 k2 k3 k4 k5 hw0
 go_enter Tryz.func102, Tryz.ntmps102
 go_wp2_with fail
 rw [← Hw0.out]
 refine (HA.out _).mono ?_
 rintro e wa ⟨rfl, hba⟩
 have q2 := keep1 hba KK.out.2.2.1
 have q3 := keep1 hba KK.out.2.2.2
 have HBa := i' hba
 clear hba
 go_wp2_with fail
 refine (HB.out _).mono ?_
 rintro e wb ⟨rfl, hbb⟩
 have hbc := chain HBa.out hbb
 have k0 := keep1 hbc KK.out.1
 have k1 := keep1 hbc KK.out.2.1
 have k2 := keep1 hbc KK.out.2.2.1
 have k3 := keep1 hbc KK.out.2.2.2
 have KS := i' (And.intro (And.intro (keep1 hbc KR.out.1.1) (And.intro (keep1 hbc KR.out.1.2.1) (And.intro (keep1 hbc KR.out.1.2.2.1) (keep1 hbc KR.out.1.2.2.2)))) (And.intro (keepf hbc KR.out.1.1 KR.out.2.1) (And.intro (keepf hbc KR.out.1.2.1 KR.out.2.2.1) (And.intro (keepf hbc KR.out.1.2.2.1 KR.out.2.2.2.1) (keepf hbc KR.out.1.2.2.2 KR.out.2.2.2.2)))))
 have HBc := i' (chain hb0.out hbc)
 have n1 : ¬ (w.heap.size = w.heap.size + 1 + 1) := by omega
 have n2 : ¬ (w.heap.size + 1 + 1 = w.heap.size) := by omega
 clear q2 q3 hbb hbc
 go_wp2_with fail
 go_region_held3 (fun W' => W'.cell? ⟨w.heap.size, 0, none⟩ = some (.bool a) ∧ W'.cell? ⟨w.heap.size, 1, none⟩ = some (.string s) ∧ W'.cell? ⟨w.heap.size + 1, 0, none⟩ = some (.bool b) ∧ W'.cell? ⟨w.heap.size + 1, 1, none⟩ = some (.string t)) (go_keep)
  (first
   | (go_at_call 135; (with_reducible refine (HR1.out _).mono ?_); rintro e w1 ⟨v1, rfl, r1, b1⟩; have c1 := chain ((Below.refl _ _).drew) b1; have p0 := keep1 c1 k0; have p1 := keep1 c1 k1; have p2 := keep1 c1 k2; have p3 := keep1 c1 k3; have G1 := i' (And.intro r1 c1); obtain ⟨x1, x2, x3, x4, rfl, x5⟩ := r1; clear x5 b1 c1)
   | (go_at_call 135; (with_reducible refine (HR2.out _).mono ?_); rintro e w2 ⟨v2, rfl, r2, b2⟩; have c2 := chain G1.out.2 b2; have p0 := keep1 c2 k0; have p1 := keep1 c2 k1; have p2 := keep1 c2 k2; have p3 := keep1 c2 k3; have G2 := i' (And.intro (G1.out.1.below b2 (Nat.le_refl _)) (And.intro r2 c2)); obtain ⟨x6, x7, x8, x9, rfl, x10⟩ := r2; clear x10 b2 c2)
   | (go_at_call 134; (with_reducible refine (HP.out _ _ _ G2.out.1 G2.out.2.1).mono ?_); rintro e w3 ⟨rfl, b3⟩; have c3 := chain G2.out.2.2 b3; have p0 := keep1 c3 k0; have p1 := keep1 c3 k1; have p2 := keep1 c3 k2; have p3 := keep1 c3 k3; have y0 := keep1 c3 KS.out.1.1; have y1 := keep1 c3 KS.out.1.2.1; have y2 := keep1 c3 KS.out.1.2.2.1; have y3 := keep1 c3 KS.out.1.2.2.2; have y4 := keepf c3 KS.out.1.1 KS.out.2.1; have y5 := keepf c3 KS.out.1.2.1 KS.out.2.2.1; have y6 := keepf c3 KS.out.1.2.2.1 KS.out.2.2.2.1; have y7 := keepf c3 KS.out.1.2.2.2 KS.out.2.2.2.2; have G4 := i' c3; unfold rat at *; clear b3 c3)
   | fail)
 have HZ := i' (k'5g (chain HBc.out G4.out) (g := w.heap.size + 1 + 1) (by omega) (.bool xb) (.string xs) (.bool false) (.string ys))
 go_wp2
 exact bodyPost_ret (v := .tuple #[.agg #[.bool xb, .string xs, .bool false, .string ys], .int .i64 0]) (by simp [results, Tryz.results102, go_sem, y0, y1, y2, y3]) rfl ⟨rfl, HZ.out⟩
def ZC4 (x y z u : Value) (w : World) (g : Nat) : Prop := (w.cell? ⟨g, 0, none⟩ = some x ∧ w.cell? ⟨g, 1, none⟩ = some y ∧ w.cell? ⟨g, 2, none⟩ = some z ∧ w.cell? ⟨g, 3, none⟩ = some u) ∧ w.frozen? ⟨g, 0, none⟩ = false ∧ w.frozen? ⟨g, 1, none⟩ = false ∧ w.frozen? ⟨g, 2, none⟩ = false ∧ w.frozen? ⟨g, 3, none⟩ = false
section
variable {x y z u x' y' z' u' : Value} {w w2 w3 : World} {t : TypeId} {g : Nat}
theorem ZC4.next (h : ZC4 x y z u w2 g) (b : Below w2.heap.size w2 w3) : ZC4 x y z u w3 g :=
 ⟨⟨keep1 b h.1.1, keep1 b h.1.2.1, keep1 b h.1.2.2.1, keep1 b h.1.2.2.2⟩, keepf b h.1.1 h.2.1, keepf b h.1.2.1 h.2.2.1, keepf b h.1.2.2.1 h.2.2.2.1, keepf b h.1.2.2.2 h.2.2.2.2⟩
theorem ZC4.made0 (w2 : World) : ZC4 x y z u (w2.alloc (.cells #[x, y, z, u] t)) w2.heap.size := by
 refine ⟨⟨?_, ?_, ?_, ?_⟩, ?_, ?_, ?_, ?_⟩ <;> simp [go_sem]
theorem ZC4.made (hg : w2.heap.size = g) (b3 : Below (w2.alloc (.cells #[x, y, z, u] t)).heap.size (w2.alloc (.cells #[x, y, z, u] t)) w3) : ZC4 x y z u w3 g := by
 subst hg
 exact (ZC4.made0 w2).next b3
theorem ZC4.set (h : ZC4 x' y' z' u' w g) : ZC4 x y z u ((((w.setCell ⟨g, 0, none⟩ x).setCell ⟨g, 1, none⟩ y).setCell ⟨g, 2, none⟩ z).setCell ⟨g, 3, none⟩ u) g := by
 obtain ⟨⟨h1, h2, h3, h4⟩, h5, h6, h7, h8⟩ := h
 refine ⟨⟨?_, ?_, ?_, ?_⟩, ?_, ?_, ?_, ?_⟩ <;> simp [go_sem, h1, h2, h3, h4, h5, h6, h7, h8]
theorem Rd.set4 {v : Value} {xs : List Nat} {b0 b1 : Bool} {p p' : Option Addr} {n c n' c' : Nat} (h : Rd w v xs) (q : ZC4 (.bool b0) (.slice p n c) (.bool b1) (.slice p' n' c') w g) (x y z u : Value) : Rd ((((w.setCell ⟨g, 0, none⟩ x).setCell ⟨g, 1, none⟩ y).setCell ⟨g, 2, none⟩ z).setCell ⟨g, 3, none⟩ u) v xs := by
 obtain ⟨⟨h1, h2, h3, h4⟩, _⟩ := q
 refine (((h.set h1 (fun _ => by simp)).set (old := .slice p n c) ?_ (fun _ => by simp)).set (old := .bool b1) ?_ (fun _ => by simp)).set (old := .slice p' n' c') ?_ (fun _ => by simp) <;> simp [go_sem, h1, h2, h3, h4]
end
def CutF (a b : Bool) (s1 s2 : Value) (X1 X2 : List Nat) (B : Nat) (wb wx : World) (g : Nat) : Prop := B ≤ g ∧ ZC4 (.bool a) s1 (.bool b) s2 wx g ∧ Rd wx s1 X1 ∧ Rd wx s2 X2 ∧ Below B wb wx ∧ g < wx.heap.size
section
variable {a b : Bool} {s1 s2 : Value} {X1 X2 : List Nat} {B : Nat} {wb w3 : World} {t : TypeId} {b0 b1 : Bool} {p p' : Option Addr} {n c n' c' g : Nat}
theorem CutF.k1 (r1 : Rd w3 s1 X1) (r2 : Rd w3 s2 X2) (h : Below B wb w3) (hB : B ≤ w3.heap.size) : CutF a b s1 s2 X1 X2 B wb (w3.alloc (.cells #[.bool a, s1, .bool b, s2] t)) w3.heap.size :=
 ⟨hB, ZC4.made0 w3, r1.alloc _, r2.alloc _, h.alloc hB _, by simp⟩
theorem CutF.k2 (q : ZC4 (.bool b0) (.slice p n c) (.bool b1) (.slice p' n' c') w3 g) (hg : B ≤ g) (r1 : Rd w3 s1 X1) (r2 : Rd w3 s2 X2) (h : Below B wb w3) :
 CutF a b s1 s2 X1 X2 B wb ((((w3.setCell ⟨g, 0, none⟩ (.bool a)).setCell ⟨g, 1, none⟩ s1).setCell ⟨g, 2, none⟩ (.bool b)).setCell ⟨g, 3, none⟩ s2) g :=
 ⟨hg, q.set, r1.set4 q _ _ _ _, r2.set4 q _ _ _ _, k'5g h hg _ _ _ _, by
  have := World.block_lt_of_cell? w3 _ q.1.1
  simpa using this⟩
theorem CutF.drew {wx : World} (h : CutF a b s1 s2 X1 X2 B wb wx g) : CutF a b s1 s2 X1 X2 B wb wx.drew g := ⟨h.1, h.2.1, h.2.2.1, h.2.2.2.1, h.2.2.2.2.1.drew, h.2.2.2.2.2⟩
end
def CRPost (c : Int) (w : World) (e : Ending) (w' : World) : Prop := e = .returned (.tuple #[.int .i64 c, .int .i64 0]) ∧ Below w.heap.size w w'
theorem k'5k (n : Nat) : (bs n).data.toList = (Nm.dg 256 n).reverse.map UInt8.ofNat := rfl
theorem k'5l (n : Nat) : rev (bs n) = Nm.dg 256 n := by
 unfold rev
 rw [k'5k, List.map_map, ← List.map_reverse, List.reverse_reverse]
 have h := Nm.dig_dg (by decide : 2 ≤ 256) n
 conv => rhs; rw [← List.map_id (Nm.dg 256 n)]
 apply List.map_congr_left
 intro x hx
 have := h x hx
 simp [UInt8.toNat_ofNat', Nat.mod_eq_of_lt this]
theorem bv_bs (n : Nat) : bv (bs n) = n := by
 unfold bv
 rw [k'5l]
 exact Nm.val_dg (by decide) n
theorem k'5m (n : Nat) : (bs n).size = (Nm.dg 256 n).length := by
 have h := k'31 (bs n)
 rw [k'5l] at h
 exact h.symm
theorem k'5n (n : Nat) : Can (bs n) := by
 intro h e
 have h2 : 0 < (Nm.dg 256 n).length := by rw [← k'5m]; exact h
 have h3 := Nm.nrm_last (Nm.nrm_dg (by decide : 2 ≤ 256) n) h2
 have h4 := Nm.dig_get (Nm.dig_dg (by decide : 2 ≤ 256) n) ((Nm.dg 256 n).length - 1) (by omega)
 have h5 : (bs n).data.toList[0]? = some 0 := by
  have : (bs n).data.toList[0]'h = 0 := e
  exact (List.getElem?_eq_getElem (l := (bs n).data.toList) h).trans (congrArg some this)
 rw [k'5k, List.getElem?_map, List.getElem?_reverse (by omega), List.getElem?_eq_getElem (by omega)] at h5
 have h6 := Option.some.inj h5
 have h7 := congrArg UInt8.toNat h6
 simp only [UInt8.toNat_ofNat', Nat.sub_zero] at h7
 rw [Nat.mod_eq_of_lt h4] at h7
 exact h3 h7
theorem k'5o (k : Nat) : (256 : Nat) ^ k = 2 ^ (8 * k) := by rw [Nat.pow_mul]
theorem lt_256' {n k : Nat} (h : n < Top) (hk : TopBits ≤ 8 * k) : n < 256 ^ k := by
 rw [k'5o]
 exact Nat.lt_of_lt_of_le h (Nat.pow_le_pow_right (by decide) hk)
theorem k'5p {n k : Nat} (h : n < Top) (hk : TopBits ≤ 8 * k) : (bs n).size ≤ k := by
 rw [k'5m]
 refine Nm.len_le_of_val (by decide : 2 ≤ 256) (Nm.nrm_dg (by decide) n) ?_
 rw [Nm.val_dg (by decide)]
 exact lt_256' h hk
theorem k'5q {a : Bool} {n : Nat} (h : n < Top) (ha : a = true → n ≠ 0) : vld a (bs n) = true := by
 unfold vld
 split
 ·next h0 =>
  have h1 : (bs n).size ≤ 8192 := k'5p h (by rw [k'3m]; decide)
  have h2 : ((bs n)[0] != 0) = true := by simpa using k'5n n h0
  rw [decide_eq_true h1, h2]; rfl
 ·next h0 =>
  have hn : n = 0 := by
   have := bv_bs n
   rw [(k'4l (k'5n n)).2 (by omega)] at this
   exact this.symm
  cases a with
  | false => rfl
  | true => exact absurd hn (ha rfl)
def zb (z : Int) : Bool := decide (z < 0)
def zs (z : Int) : ByteArray := bs z.natAbs
theorem k'5s {z : Int} (h : z.natAbs < Top) : vld (zb z) (zs z) = true := k'5q h fun hz => by
 have : z < 0 := of_decide_eq_true hz
 omega
theorem bv_zs (z : Int) : bv (zs z) = z.natAbs := bv_bs _
theorem sgV_z {z : Int} (h : z.natAbs < Top) : sgV (zb z) (zs z) = Int.sign z := by
 have hv := k'5s h
 have hc := k'40 hv
 have h1 := k'4l hc
 rw [bv_zs] at h1
 unfold sgV
 rcases Int.lt_trichotomy z 0 with g | g | g
 ·have hb : zb z = true := decide_eq_true g
  have h2 : 0 < (zs z).size := by
   rcases Nat.eq_zero_or_pos (zs z).size with h3 | h3
   ·have := h1.2 h3; omega
   ·exact h3
  rw [if_pos ⟨hv, h2⟩, if_pos hb, Int.sign_eq_neg_one_of_neg g]
 ·subst g
  rw [if_neg (by intro h3; have := h1.1 rfl; omega)]
  rfl
 ·have hb : zb z = false := decide_eq_false (by omega)
  have h2 : 0 < (zs z).size := by
   rcases Nat.eq_zero_or_pos (zs z).size with h3 | h3
   ·have := h1.2 h3; omega
   ·exact h3
  rw [if_pos ⟨hv, h2⟩, if_neg (by rw [hb]; simp), Int.sign_eq_one_of_pos g]
theorem k'5t {z : Int} (h : z.natAbs < Top) : (zs z).size ≤ 8192 := k'41 (k'5s h)
def ds (s : ByteArray) : ByteArray := ⟨(Lib.trimPrefix s.data.toList [45]).toArray⟩
def dneg (s : ByteArray) : Bool := Lib.hasPrefix s.data.toList [45]
def AllD (d : ByteArray) : Prop := ∀ k (h : k < d.size), 48 ≤ d[k].toNat ∧ d[k].toNat ≤ 57
instance (d : ByteArray) : Decidable (AllD d) := Nat.decidableBallLT _ _
def DecT (s : ByteArray) : Prop := s.toList = [48] ∨ ((∃ h : 0 < (ds s).size, (ds s)[0].toNat ≠ 48) ∧ AllD (ds s))
theorem k'5v (a : Bool) (s : ByteArray) (w : World) (hs : s.size ≤ 140737488351232) : Calls Tryz.prog 35 #[.agg #[.bool a, .string s]] w (BPost (vld a s) w) := by
 rcases Nat.eq_zero_or_pos s.size with h0 | h0
 ·have E : Hid (vld a s = !a) := by show _ = _; unfold vld; rw [dif_neg (by omega)]
  have h1 : ((s.size : Int) == 0) = true := beq_iff_eq.2 (by omega)
  have hb : Hid (Below w.heap.size w (w.alloc (.cells #[.bool a, .string s] 44))) := (Below.refl _ _).alloc (Nat.le_refl _) _
  clear h0
  go_enter Tryz.func35, Tryz.ntmps35
  go_wp2
  go_ret
  exact ⟨by rw [E.out]; rfl, hb.out⟩
 ·have E : Hid (vld a s = (decide (s.size ≤ 8192) && (s[0] != 0))) := by show _ = _; unfold vld; rw [dif_pos h0]
  have h1 : ((s.size : Int) == 0) = false := beq_eq_false_iff_ne.2 (by omega)
  have hb : Hid (Below w.heap.size w (w.alloc (.cells #[.bool a, .string s] 44))) := (Below.refl _ _).alloc (Nat.le_refl _) _
  by_cases h2 : s.size ≤ 8192
  ·have e2 : Hid (((s[0].toNat : Int) != 0) = (s[0] != 0)) := by
    show _ = _
    by_cases hz : s[0] = 0
    ·simp [hz]
    ·have : s[0].toNat ≠ 0 := fun h => hz (UInt8.toNat_inj.1 h)
     have h3 : ((s[0].toNat : Int) != 0) = true := by simp; omega
     rw [h3]; symm; simpa using hz
   have hd : Hid (decide (s.size ≤ 8192) = true) := decide_eq_true h2
   go_enter Tryz.func35, Tryz.ntmps35
   go_wp2
   go_ret
   exact ⟨by rw [E.out, hd.out, Bool.true_and, ← e2.out]; rfl, hb.out⟩
  ·have hd : Hid (decide (s.size ≤ 8192) = false) := decide_eq_false h2
   go_enter Tryz.func35, Tryz.ntmps35
   go_wp2
   go_ret
   exact ⟨by rw [E.out, hd.out, Bool.false_and]; rfl, hb.out⟩
def D9 : Nat := 1000000000
theorem D92 : 2 ≤ D9 := by decide
theorem D90 : 0 < D9 := by decide
def iv (l : List Nat) : List Value := l.map fun (n : Nat) => Value.int .i64 (n : Int)
theorem k'5w (l : List Nat) : (iv l).length = l.length := by simp [iv]
theorem k'5x (l : List Nat) (k : Nat) (h : k < l.length) : (iv l)[k]? = some (.int .i64 (l[k] : Int)) := by simp [iv, List.getElem?_eq_getElem h]
theorem k'5y (l : List Nat) (x : Nat) : iv (l ++ [x]) = iv l ++ [Value.int .i64 (x : Int)] := by simp [iv]
def IntB (w : World) (b : Nat) : Prop := b < w.heap.size ∧ ∃ (cur : Array Value) (fz : Nat × Nat), w.heap[b]? = some (.cells cur 3 fz)
theorem IntB.keep {w w' : World} {b : Nat} (h : IntB w b) (hs : w.heap.size ≤ w'.heap.size) (hb : w'.heap[b]? = w.heap[b]?) : IntB w' b := ⟨Nat.lt_of_lt_of_le h.1 hs, by rw [hb]; exact h.2⟩
theorem IntB.set {w : World} {b : Nat} (h : IntB w b) (a : Addr) (v : Value) : IntB (w.setCell a v) b := by
 obtain ⟨h1, cur, fz, h2⟩ := h
 refine ⟨by simpa [World.setCell] using h1, ?_⟩
 by_cases e : a.block = b
 ·subst e
  exact ⟨_, fz, by simp [World.setCell, Array.getElem?_modify, h2]; rfl⟩
 ·exact ⟨cur, fz, by simp [World.setCell, Array.getElem?_modify, h2, e]⟩
theorem IntB.below {w w' : World} {B b : Nat} (h : IntB w b) (hb : Below B w w') (hB : w.heap.size ≤ B) : IntB w' b := h.keep hb.size (hb.block b (Nat.lt_of_lt_of_le h.1 hB))
def Ri (w : World) (v : Value) (xs : List Nat) : Prop :=
 ∃ (p : Option Addr) (b off cap : Nat), v = .slice p xs.length cap ∧ xs.length ≤ cap ∧ cap ≤ maxLen ∧ (xs ≠ [] → p = some ⟨b, off, none⟩) ∧ ((p = none ∧ cap = 0) ∨ (p = some ⟨b, off, none⟩ ∧ IntB w b)) ∧
  ∀ k (h : k < xs.length), w.cell? ⟨b, off + k, none⟩ = some (.int .i64 (xs[k] : Int))
theorem Ri.below {w w' : World} {B : Nat} {v : Value} {xs : List Nat} (h : Ri w v xs) (hb : Below B w w') (hB : w.heap.size ≤ B) : Ri w' v xs := by
 obtain ⟨p, b, off, cap, h1, h2, h3, h4, h5, h6⟩ := h
 refine ⟨p, b, off, cap, h1, h2, h3, h4, ?_, fun k hk => ?_⟩
 ·rcases h5 with h5 | ⟨h5, h7⟩
  ·exact Or.inl h5
  ·exact Or.inr ⟨h5, h7.below hb hB⟩
 ·have hl : b < w.heap.size := World.block_lt_of_cell? w _ (h6 k hk)
  rw [hb.cell (p := ⟨b, off + k, none⟩) (Nat.lt_of_lt_of_le hl hB)]
  exact h6 k hk
theorem Ri.drewN {w : World} {v : Value} {xs : List Nat} (h : Ri w v xs) (n : Nat) : Ri (w.drewN n) v xs := h
theorem Ri.nil (w : World) : Ri w (.slice none 0 0) [] := ⟨none, 0, 0, 0, rfl, by simp, by simp, fun h => absurd rfl h, Or.inl ⟨rfl, rfl⟩, fun k h => absurd h (by simp)⟩
theorem Ri.of_own {w : World} {B : Nat} {v : Value} {l : List Nat} (h : w.ownsRow B 3 1 v l.length (iv l)) : Ri w v l := by
 rcases h.2 with ⟨rfl, h0⟩ | ⟨g, cap, cur, rfl, hB, hg, hn, hm, hs, ht⟩
 ·rw [List.eq_nil_of_length_eq_zero h0]; exact Ri.nil w
 ·refine ⟨some ⟨g, 0, none⟩, g, 0, cap, rfl, hn, hm, fun _ => rfl, Or.inr ⟨rfl, lt_of_block hg, cur, _, hg⟩, fun k hk => ?_⟩
  have := h.cells (g := g) rfl k (.int .i64 (l[k] : Int)) (k'5x l k hk)
  have hadd : ((⟨g, 0, none⟩ : Addr).add k) = ⟨g, 0 + k, none⟩ := by unfold Addr.add; split <;> simp_all
  rwa [hadd] at this
def lenOf : Value → Nat
 | .slice _ n _ => n
 | _ => 0
def GivesI (n : Nat) (w : World) (e : Ending) (w' : World) : Prop := ∃ v, e = .returned v ∧ Ri w' v (Nm.dg D9 n) ∧ Below w.heap.size w w'
def TrimI (xs : List Nat) (w : World) (e : Ending) (w' : World) : Prop := ∃ v, e = .returned v ∧ Ri w v (Nm.trimL xs) ∧ w = w'
theorem k'5z (v : Value) (xs : List Nat) (w : World) (h : Ri w v xs) : Calls Tryz.prog 95 #[v] w (TrimI xs w) := by
 obtain ⟨p, b, off, cap, rfl, h2, h3, h4, h5, h6⟩ := h
 have hc := h3
 unfold maxLen at hc
 have hl : xs.length ≤ 9223372036854775807 := by omega
 have H4 := i' h4
 have H5 := i' h5
 have H6 := i' h6
 have H23 := i' (And.intro h2 h3)
 clear h2 h3 h4 h5 h6 hc
 go_enter Tryz.func95, Tryz.ntmps95
 go_wp2
 go_loop [0] (fun v => ∃ k : Nat, k ≤ xs.length ∧ v = .slice p k cap ∧ Hid (∀ i (h : i < xs.length), k ≤ i → xs[i] = 0)) (fun v => lenOf v)
 case atStart => exact ⟨xs.length, Nat.le_refl _, rfl, fun i h hi => absurd h (by omega)⟩
 case round =>
  obtain ⟨k, hk, rfl, hz⟩ := hrel
  have htake : ∀ n, n ≤ xs.length → Ri w (.slice p n cap) (xs.take n) := by
   intro n hn
   have e : (xs.take n).length = n := by simp; omega
   refine ⟨p, b, off, cap, by rw [e], by have := H23.out.1; omega, H23.out.2, fun hne => H4.out (fun e0 => hne (by rw [e0]; simp)), H5.out, fun j hj => ?_⟩
   rw [e] at hj
   rw [H6.out j (by omega)]; simp
  have HT := i' htake
  clear htake
  rcases Nat.eq_zero_or_pos k with h0 | h0
  ·subst h0
   have e0 : Hid (Nm.trimL xs = xs.take 0) := Nm.trimL_take (Nat.zero_le _) (fun i h _ => hz.out i h (Nat.zero_le _)) trivial
   go_wp2
   go_ret
   exact ⟨_, rfl, by rw [e0.out]; exact HT.out 0 (Nat.zero_le _), rfl⟩
  ·obtain ⟨j, rfl⟩ : ∃ j, k = j + 1 := ⟨k - 1, by omega⟩
   have hj : j < xs.length := by omega
   obtain rfl := H4.out (by intro e; rw [e] at hj; exact absurd hj (Nat.not_lt_zero _))
   have hcell := H6.out j hj
   have hjc : j ≤ cap := by have := H23.out.1; omega
   by_cases hv : xs[j] = 0
   ·have HV := i' hv
    have hvi : ((xs[j] : Int) == 0) = true := by simp [hv]
    clear hv
    go_wp2
    go_round
    case rel =>
     refine ⟨j, by omega, rfl, fun i h hi => ?_⟩
     rcases Nat.lt_or_ge j i with g | g
     ·exact hz.out i h g
     ·obtain rfl : i = j := by omega
      exact HV.out
    case measure => simp [lenOf]
   ·have e0 : Hid (Nm.trimL xs = xs.take (j + 1)) := Nm.trimL_take hk hz.out (Nm.nrm_take_last hj hv)
    have hvi : ((xs[j] : Int) == 0) = false := by simp [hv]
    clear hv
    go_wp2
    go_ret
    exact ⟨_, rfl, by rw [e0.out]; exact HT.out (j + 1) hk, rfl⟩
def PInv (X Y : List Nat) (k c : Nat) (l : List Nat) : Prop :=
 l.length = k ∧ Nm.Dig D9 l ∧ c ≤ 1 ∧ Nm.val D9 l + D9 ^ k * c = Nm.val D9 (X.take k) + Nm.val D9 (Y.take k) ∧ k ≤ max X.length Y.length + 1 ∧ (k = max X.length Y.length + 1 → c = 0) ∧ (k = 0 ∨ D9 ^ (k - 1) ≤ Nm.val D9 X + Nm.val D9 Y)
theorem k'60 (B : Nat) (l : List Nat) (k : Nat) : Nm.val B (l.take (k + 1)) = Nm.val B (l.take k) + B ^ k * l.getD k 0 := by
 rcases Nat.lt_or_ge k l.length with h | h
 ·rw [Nm.val_take_succ B l k h]; simp [h]
 ·rw [List.take_of_length_le (by omega), List.take_of_length_le h]; simp [h]
theorem PInv.step {X Y l : List Nat} {k c : Nat} (h : PInv X Y k c l) (dx : Nm.Dig D9 X) (dy : Nm.Dig D9 Y) (nx : Nm.Nrm X) (ny : Nm.Nrm Y) (hc : k < X.length ∨ k < Y.length ∨ 0 < c) :
 PInv X Y (k + 1) ((c + X.getD k 0 + Y.getD k 0) / D9) (l ++ [(c + X.getD k 0 + Y.getD k 0) % D9]) := by
 obtain ⟨h1, h2, h3, h4, h5, h6, h7⟩ := h
 have hx : X.getD k 0 < D9 := by
  rcases Nat.lt_or_ge k X.length with g | g
  ·simp [g]; exact Nm.dig_get dx k g
  ·simp [g]; exact D90
 have hy : Y.getD k 0 < D9 := by
  rcases Nat.lt_or_ge k Y.length with g | g
  ·simp [g]; exact Nm.dig_get dy k g
  ·simp [g]; exact D90
 have hk : k ≤ max X.length Y.length := by
  rcases hc with g | g | g
  ·omega
  ·omega
  ·rcases Nat.lt_or_ge (max X.length Y.length) k with q | q
   ·have := h6 (by omega); omega
   ·exact q
 have hpow : D9 ^ k ≤ Nm.val D9 X + Nm.val D9 Y := by
  rcases hc with g | g | g
  ·have a1 := Nm.val_pos (B := D9) nx (by intro e; rw [e] at g; simp at g)
   have a2 : D9 ^ k ≤ D9 ^ (X.length - 1) := Nat.pow_le_pow_right D90 (by omega)
   omega
  ·have a1 := Nm.val_pos (B := D9) ny (by intro e; rw [e] at g; simp at g)
   have a2 : D9 ^ k ≤ D9 ^ (Y.length - 1) := Nat.pow_le_pow_right D90 (by omega)
   omega
  ·have b1 := Nm.val_split D9 X (min k X.length) (by omega)
   have b2 : Nm.val D9 (X.take k) ≤ Nm.val D9 X := by
    rcases Nat.lt_or_ge k X.length with q | q
    ·have := Nm.val_split D9 X k (by omega); omega
    ·rw [List.take_of_length_le q]; exact Nat.le_refl _
   have b3 : Nm.val D9 (Y.take k) ≤ Nm.val D9 Y := by
    rcases Nat.lt_or_ge k Y.length with q | q
    ·have := Nm.val_split D9 Y k (by omega); omega
    ·rw [List.take_of_length_le q]; exact Nat.le_refl _
   have b4 : D9 ^ k * 1 ≤ D9 ^ k * c := Nat.mul_le_mul_left _ g
   omega
 have hz : k = max X.length Y.length → X.getD k 0 = 0 ∧ Y.getD k 0 = 0 := fun e => by
  have g1 : X.length ≤ k := by omega
  have g2 : Y.length ≤ k := by omega
  exact ⟨by simp [g1], by simp [g2]⟩
 generalize hxx : X.getD k 0 = x at *
 generalize hyy : Y.getD k 0 = y at *
 have hd := Nat.mod_add_div (c + x + y) D9
 have hq : (c + x + y) / D9 ≤ 1 := by
  have : (c + x + y) / D9 < 2 := by rw [Nat.div_lt_iff_lt_mul D90]; omega
  omega
 refine ⟨by simp [h1], Nm.dig_append.2 ⟨h2, Nm.dig_cons.2 ⟨Nat.mod_lt _ D90, Nm.dig_nil _⟩⟩, hq, ?_, by omega, ?_, Or.inr (by simpa using hpow)⟩
 ·rw [Nm.val_snoc, h1, k'60, k'60, Nat.pow_succ, hxx, hyy]
  have e1 : D9 ^ k * ((c + x + y) % D9 + D9 * ((c + x + y) / D9)) = D9 ^ k * (c + x + y) := by rw [hd]
  generalize (c + x + y) % D9 = r at *
  generalize (c + x + y) / D9 = q at *
  generalize D9 ^ k = P at *
  grind
 ·intro e
  obtain ⟨z1, z2⟩ := hz (by omega)
  rw [z1, z2]
  exact Nat.div_eq_of_lt (by have : (2 : Nat) < D9 := by decide
                             omega)
theorem PInv.finish {X Y l : List Nat} {k : Nat} (h : PInv X Y k 0 l) (hX : X.length ≤ k) (hY : Y.length ≤ k) : l = Nm.dg D9 (Nm.val D9 X + Nm.val D9 Y) := by
 obtain ⟨h1, h2, h3, h4, h5, h6, h7⟩ := h
 rw [Nat.mul_zero, Nat.add_zero, List.take_of_length_le hX, List.take_of_length_le hY] at h4
 rw [← h4]
 refine Nm.eq_dg D92 h2 ?_
 rcases h7 with h7 | h7
 ·subst h7
  rw [List.eq_nil_of_length_eq_zero h1]; trivial
 ·refine Nm.nrm_of_val h2 ?_
  rw [h1, h4]; exact h7
theorem k'61 {w : World} {b : Nat} {v : Value} (h : w.cell? ⟨b, 0, none⟩ = some v) : ∀ j u, [v][j]? = some u → w.cell? (Addr.add ⟨b, 0, none⟩ j) = some u := by
 intro j u hj
 match j, hj with
 | 0, hj => simp at hj; subst hj; simpa [Addr.add] using h
theorem k'62 {c x y r q : Nat} (hr : (c + x + y) % D9 = r) (hq : (c + x + y) / D9 = q) : ((c : Int) + (x : Int) + (y : Int)) % 1000000000 = (r : Int) ∧ ((c : Int) + (x : Int) + (y : Int)) / 1000000000 = (q : Int) := by
 unfold D9 at hr hq
 subst hr hq
 exact ⟨by omega, by omega⟩
theorem k'64 (v1 v2 : Value) (m n : Nat) (w : World) (h1 : Ri w v1 (Nm.dg D9 m)) (h2 : Ri w v2 (Nm.dg D9 n)) (l1 : (Nm.dg D9 m).length ≤ 1000000) (l2 : (Nm.dg D9 n).length ≤ 1000000) :
 Calls Tryz.prog 93 #[v1, v2] w (GivesI (m + n) w) := by
 have dx := Nm.dig_dg D92 m
 have dy := Nm.dig_dg D92 n
 have nx := Nm.nrm_dg D92 m
 have ny := Nm.nrm_dg D92 n
 have HV := i' (show Nm.val D9 (Nm.dg D9 m) + Nm.val D9 (Nm.dg D9 n) = m + n by rw [Nm.val_dg D92, Nm.val_dg D92])
 rw [← HV.out]
 clear HV
 generalize Nm.dg D9 m = X at *
 generalize Nm.dg D9 n = Y at *
 obtain ⟨p1, b1, o1, c1, rfl, _, _, hp1, _, g1⟩ := h1
 obtain ⟨p2, b2, o2, c2, rfl, _, _, hp2, _, g2⟩ := h2
 have hi3 : (Tryz.prog.info? 3).map (fun i => (i.zero, i.size, i.bytes)) = some (some (.int .i64 0), 1, 8) := by kernel_rfl
 obtain ⟨i0, hi0, hz0, hz1, hz2⟩ := info_parts hi3
 have HI := i' (And.intro hi0 (And.intro hz0 (And.intro hz1 hz2)))
 have Hp1 := i' hp1
 have Hp2 := i' hp2
 have G1 := i' g1
 have G2 := i' g2
 have NN := i' (And.intro dx (And.intro dy (And.intro nx ny)))
 clear hi3 hi0 hz0 hz1 hz2 hp1 hp2 g1 g2 dx dy nx ny
 go_enter Tryz.func93, Tryz.ntmps93
 go_wp2
 go_loopw [5, 6, 7] (fun v cv i wr => ∃ (k c : Nat) (cc : Int) (l : List Nat), k ≤ 1000001 ∧ i = .int .i64 (k : Nat) ∧ cv = .int .i64 cc ∧ 0 ≤ cc ∧ cc ≤ 1 ∧ Hid (cc = (c : Int)) ∧ Hid (PInv X Y k c l) ∧ Hid (wr.ownsRow w.heap.size 3 1 v l.length (iv l)) ∧ Hid (Below w.heap.size w wr))
  (fun _ _ i _ => max X.length Y.length + 1 - (intOf i).toNat)
 case atStart =>
  exact ⟨0, 0, 0, [], by omega, rfl, rfl, by omega, by omega, rfl, ⟨rfl, Nm.dig_nil _, by omega, by simp [Nm.val], by omega, fun h => rfl, Or.inl rfl⟩, World.ownsRow_nil _ _ _ _, Below.refl _ _⟩
 case round =>
  rename_i v _ _ wr _
  obtain ⟨k, c, cc, l, hk, rfl, rfl, hc0, hc1, hcc, hinv, hown, hbl⟩ := hrel
  by_cases hx : k < X.length
  ·by_cases hy : k < Y.length
   ·have _ := hx
    obtain rfl := Hp1.out (by intro e; rw [e] at hx; exact absurd hx (Nat.not_lt_zero _))
    have e1 := k'd hbl.out (G1.out k hx)
    have hX : (0 : Int) ≤ (X[k] : Int) ∧ (X[k] : Int) < 1000000000 := by have h5 : X[k] < 1000000000 := Nm.dig_get NN.out.1 k hx; omega
    have hx0 : X.getD k 0 = X[k] := by simp [hx]
    obtain rfl := Hp2.out (by intro e; rw [e] at hy; exact absurd hy (Nat.not_lt_zero _))
    have e2 := k'd hbl.out (G2.out k hy)
    have hY : (0 : Int) ≤ (Y[k] : Int) ∧ (Y[k] : Int) < 1000000000 := by have h5 : Y[k] < 1000000000 := Nm.dig_get NN.out.2.1 k hy; omega
    have hy0 : Y.getD k 0 = Y[k] := by simp [hy]
    have hst := hinv.out.step NN.out.1 NN.out.2.1 NN.out.2.2.1 NN.out.2.2.2 (Or.inl hx)
    obtain ⟨r, hr⟩ : ∃ r, (c + X.getD k 0 + Y.getD k 0) % D9 = r := ⟨_, rfl⟩
    obtain ⟨q, hq⟩ : ∃ q, (c + X.getD k 0 + Y.getD k 0) / D9 = q := ⟨_, rfl⟩
    rw [hr, hq] at hst
    obtain ⟨hmod, hdiv⟩ := k'62 hr hq
    rw [hx0, hy0, ← hcc.out] at hmod hdiv
    obtain ⟨x, hxx⟩ : ∃ x : Int, (X[k] : Int) = x := ⟨_, rfl⟩
    rw [hxx] at hmod hdiv hX e1
    obtain ⟨y, hyy⟩ : ∃ y : Int, (Y[k] : Int) = y := ⟨_, rfl⟩
    rw [hyy] at hmod hdiv hY e2
    obtain ⟨rr, hrr⟩ : ∃ rr : Int, (r : Int) = rr := ⟨_, rfl⟩
    obtain ⟨qq, hqq⟩ : ∃ qq : Int, (q : Int) = qq := ⟨_, rfl⟩
    rw [hrr] at hmod
    rw [hqq] at hdiv
    have hq1 : 0 ≤ qq ∧ qq ≤ 1 := by have h5 := hst.2.2.1; omega
    obtain ⟨hq1, hq2⟩ := hq1
    obtain ⟨hX1, hX2⟩ := hX
    obtain ⟨hY1, hY2⟩ := hY
    have HS := i' hst
    have HR := i' hrr
    have HQ := i' hqq
    have hlk : Hid (l.length ≤ 1000001) := by rw [hinv.out.1]; exact hk
    have hk2 : k + 1 ≤ 1000001 := by have h5 := hst.2.2.2.2.1; have h6 := l1; have h7 := l2; omega
    have hmx : Hid (k < max X.length Y.length + 1) := by have h5 := hst.2.2.2.2.1; show _ < _; omega
    have hbase : Hid (w.heap.size ≤ wr.heap.size) := hbl.out.size
    clear hst hr hq hx0 hy0 hinv hrr hqq hxx hyy
    go_wp2_with (at_builtin; refine wpList_append_own _ rfl _ _ 24 rfl w.heap.size 3 i0 (.int .i64 0) 1 8 Tryz.underlying24 HI.out.1 HI.out.2.1 HI.out.2.2.1 HI.out.2.2.2 rfl (by decide) _ _ _ rfl (hown.out.alloc _) ⟨wr.heap.size, 0, none⟩ 1 1 [.int .i64 rr] rfl rfl ?dc1 ?dc2 ?dc3 ?dc4 ?dc5 ?_)
    case dc2 => rfl
    case dc3 => have h5 := hlk.out; unfold maxLen; omega
    case dc4 => have h5 := hlk.out; omega
    case dc5 => have h5 := hbase.out; omega
    intro v' w1 hown1 hgrow1 _
    have hbl1 : Hid (Below w.heap.size w w1) := (hbl.out.alloc hbase.out _).grown hgrow1 (by have h5 := hbase.out; simp; omega) (fun q hq => (hown.out.lt q hq).1)
    have hown2 : Hid (w1.ownsRow w.heap.size 3 1 v' (l ++ [r]).length (iv (l ++ [r]))) := by
     show World.ownsRow _ _ _ _ _ _ _
     rw [k'5y, List.length_append, HR.out]
     exact hown1
    clear hown1 hgrow1 hbl hown
    go_wp2
    go_roundw
    case rel => exact ⟨k + 1, q, qq, l ++ [r], hk2, by go_num, by rw [hdiv], hq1, hq2, HQ.out.symm, HS.out, hown2, hbl1⟩
    case measure => have := hmx.out; simp [intOf]; omega
   ·have _ := hx
    obtain rfl := Hp1.out (by intro e; rw [e] at hx; exact absurd hx (Nat.not_lt_zero _))
    have e1 := k'd hbl.out (G1.out k hx)
    have hX : (0 : Int) ≤ (X[k] : Int) ∧ (X[k] : Int) < 1000000000 := by have h5 : X[k] < 1000000000 := Nm.dig_get NN.out.1 k hx; omega
    have hx0 : X.getD k 0 = X[k] := by simp [hx]
    have hy0 : Y.getD k 0 = 0 := by simp at hy; simp [hy]
    have hst := hinv.out.step NN.out.1 NN.out.2.1 NN.out.2.2.1 NN.out.2.2.2 (Or.inl hx)
    obtain ⟨r, hr⟩ : ∃ r, (c + X.getD k 0 + Y.getD k 0) % D9 = r := ⟨_, rfl⟩
    obtain ⟨q, hq⟩ : ∃ q, (c + X.getD k 0 + Y.getD k 0) / D9 = q := ⟨_, rfl⟩
    rw [hr, hq] at hst
    obtain ⟨hmod, hdiv⟩ := k'62 hr hq
    rw [hx0, hy0, ← hcc.out] at hmod hdiv
    obtain ⟨x, hxx⟩ : ∃ x : Int, (X[k] : Int) = x := ⟨_, rfl⟩
    rw [hxx] at hmod hdiv hX e1
    obtain ⟨rr, hrr⟩ : ∃ rr : Int, (r : Int) = rr := ⟨_, rfl⟩
    obtain ⟨qq, hqq⟩ : ∃ qq : Int, (q : Int) = qq := ⟨_, rfl⟩
    rw [hrr] at hmod
    rw [hqq] at hdiv
    have hz : (((0 : Nat) : Int)) = 0 := rfl
    rw [hz, Int.add_zero] at hmod hdiv
    have hq1 : 0 ≤ qq ∧ qq ≤ 1 := by have h5 := hst.2.2.1; omega
    obtain ⟨hq1, hq2⟩ := hq1
    obtain ⟨hX1, hX2⟩ := hX
    have HS := i' hst
    have HR := i' hrr
    have HQ := i' hqq
    have hlk : Hid (l.length ≤ 1000001) := by rw [hinv.out.1]; exact hk
    have hk2 : k + 1 ≤ 1000001 := by have h5 := hst.2.2.2.2.1; have h6 := l1; have h7 := l2; omega
    have hmx : Hid (k < max X.length Y.length + 1) := by have h5 := hst.2.2.2.2.1; show _ < _; omega
    have hbase : Hid (w.heap.size ≤ wr.heap.size) := hbl.out.size
    clear hst hr hq hx0 hy0 hinv hrr hqq hxx
    go_wp2_with (at_builtin; refine wpList_append_own _ rfl _ _ 24 rfl w.heap.size 3 i0 (.int .i64 0) 1 8 Tryz.underlying24 HI.out.1 HI.out.2.1 HI.out.2.2.1 HI.out.2.2.2 rfl (by decide) _ _ _ rfl (hown.out.alloc _) ⟨wr.heap.size, 0, none⟩ 1 1 [.int .i64 rr] rfl rfl ?cc1 ?cc2 ?cc3 ?cc4 ?cc5 ?_)
    case cc2 => rfl
    case cc3 => have h5 := hlk.out; unfold maxLen; omega
    case cc4 => have h5 := hlk.out; omega
    case cc5 => have h5 := hbase.out; omega
    intro v' w1 hown1 hgrow1 _
    have hbl1 : Hid (Below w.heap.size w w1) := (hbl.out.alloc hbase.out _).grown hgrow1 (by have h5 := hbase.out; simp; omega) (fun q hq => (hown.out.lt q hq).1)
    have hown2 : Hid (w1.ownsRow w.heap.size 3 1 v' (l ++ [r]).length (iv (l ++ [r]))) := by
     show World.ownsRow _ _ _ _ _ _ _
     rw [k'5y, List.length_append, HR.out]
     exact hown1
    clear hown1 hgrow1 hbl hown
    go_wp2
    go_roundw
    case rel => exact ⟨k + 1, q, qq, l ++ [r], hk2, by go_num, by rw [hdiv], hq1, hq2, HQ.out.symm, HS.out, hown2, hbl1⟩
    case measure => have := hmx.out; simp [intOf]; omega
  ·by_cases hy : k < Y.length
   ·have _ := hy
    have hx0 : X.getD k 0 = 0 := by simp at hx; simp [hx]
    obtain rfl := Hp2.out (by intro e; rw [e] at hy; exact absurd hy (Nat.not_lt_zero _))
    have e2 := k'd hbl.out (G2.out k hy)
    have hY : (0 : Int) ≤ (Y[k] : Int) ∧ (Y[k] : Int) < 1000000000 := by have h5 : Y[k] < 1000000000 := Nm.dig_get NN.out.2.1 k hy; omega
    have hy0 : Y.getD k 0 = Y[k] := by simp [hy]
    have hst := hinv.out.step NN.out.1 NN.out.2.1 NN.out.2.2.1 NN.out.2.2.2 (Or.inr (Or.inl hy))
    obtain ⟨r, hr⟩ : ∃ r, (c + X.getD k 0 + Y.getD k 0) % D9 = r := ⟨_, rfl⟩
    obtain ⟨q, hq⟩ : ∃ q, (c + X.getD k 0 + Y.getD k 0) / D9 = q := ⟨_, rfl⟩
    rw [hr, hq] at hst
    obtain ⟨hmod, hdiv⟩ := k'62 hr hq
    rw [hx0, hy0, ← hcc.out] at hmod hdiv
    obtain ⟨y, hyy⟩ : ∃ y : Int, (Y[k] : Int) = y := ⟨_, rfl⟩
    rw [hyy] at hmod hdiv hY e2
    obtain ⟨rr, hrr⟩ : ∃ rr : Int, (r : Int) = rr := ⟨_, rfl⟩
    obtain ⟨qq, hqq⟩ : ∃ qq : Int, (q : Int) = qq := ⟨_, rfl⟩
    rw [hrr] at hmod
    rw [hqq] at hdiv
    have hz : (((0 : Nat) : Int)) = 0 := rfl
    rw [hz, Int.add_zero] at hmod hdiv
    have hq1 : 0 ≤ qq ∧ qq ≤ 1 := by have h5 := hst.2.2.1; omega
    obtain ⟨hq1, hq2⟩ := hq1
    obtain ⟨hY1, hY2⟩ := hY
    have HS := i' hst
    have HR := i' hrr
    have HQ := i' hqq
    have hlk : Hid (l.length ≤ 1000001) := by rw [hinv.out.1]; exact hk
    have hk2 : k + 1 ≤ 1000001 := by have h5 := hst.2.2.2.2.1; have h6 := l1; have h7 := l2; omega
    have hmx : Hid (k < max X.length Y.length + 1) := by have h5 := hst.2.2.2.2.1; show _ < _; omega
    have hbase : Hid (w.heap.size ≤ wr.heap.size) := hbl.out.size
    clear hst hr hq hx0 hy0 hinv hrr hqq hz hyy
    go_wp2_with (at_builtin; refine wpList_append_own _ rfl _ _ 24 rfl w.heap.size 3 i0 (.int .i64 0) 1 8 Tryz.underlying24 HI.out.1 HI.out.2.1 HI.out.2.2.1 HI.out.2.2.2 rfl (by decide) _ _ _ rfl (hown.out.alloc _) ⟨wr.heap.size, 0, none⟩ 1 1 [.int .i64 rr] rfl rfl ?bc1 ?bc2 ?bc3 ?bc4 ?bc5 ?_)
    case bc2 => rfl
    case bc3 => have h5 := hlk.out; unfold maxLen; omega
    case bc4 => have h5 := hlk.out; omega
    case bc5 => have h5 := hbase.out; omega
    intro v' w1 hown1 hgrow1 _
    have hbl1 : Hid (Below w.heap.size w w1) := (hbl.out.alloc hbase.out _).grown hgrow1 (by have h5 := hbase.out; simp; omega) (fun q hq => (hown.out.lt q hq).1)
    have hown2 : Hid (w1.ownsRow w.heap.size 3 1 v' (l ++ [r]).length (iv (l ++ [r]))) := by
     show World.ownsRow _ _ _ _ _ _ _
     rw [k'5y, List.length_append, HR.out]
     exact hown1
    clear hown1 hgrow1 hbl hown
    go_wp2
    go_roundw
    case rel => exact ⟨k + 1, q, qq, l ++ [r], hk2, by go_num, by rw [hdiv], hq1, hq2, HQ.out.symm, HS.out, hown2, hbl1⟩
    case measure => have := hmx.out; simp [intOf]; omega
   ·rcases Nat.eq_zero_or_pos c with hcp | hcp
    ·have hcz : cc = 0 := by rw [hcc.out, hcp]; rfl
     subst hcz
     subst hcp
     have HE : Hid (l = Nm.dg D9 (Nm.val D9 X + Nm.val D9 Y)) := hinv.out.finish (by omega) (by omega)
     clear hinv
     go_wp2
     go_ret
     exact ⟨_, rfl, by rw [← HE.out]; exact Ri.of_own hown.out, hbl.out⟩
    ·have _ := hcp
     have hx0 : X.getD k 0 = 0 := by simp at hx; simp [hx]
     have hy0 : Y.getD k 0 = 0 := by simp at hy; simp [hy]
     have hst := hinv.out.step NN.out.1 NN.out.2.1 NN.out.2.2.1 NN.out.2.2.2 (Or.inr (Or.inr hcp))
     obtain ⟨r, hr⟩ : ∃ r, (c + X.getD k 0 + Y.getD k 0) % D9 = r := ⟨_, rfl⟩
     obtain ⟨q, hq⟩ : ∃ q, (c + X.getD k 0 + Y.getD k 0) / D9 = q := ⟨_, rfl⟩
     rw [hr, hq] at hst
     obtain ⟨hmod, hdiv⟩ := k'62 hr hq
     rw [hx0, hy0, ← hcc.out] at hmod hdiv
     obtain ⟨rr, hrr⟩ : ∃ rr : Int, (r : Int) = rr := ⟨_, rfl⟩
     obtain ⟨qq, hqq⟩ : ∃ qq : Int, (q : Int) = qq := ⟨_, rfl⟩
     rw [hrr] at hmod
     rw [hqq] at hdiv
     have hz : (((0 : Nat) : Int)) = 0 := rfl
     rw [hz, Int.add_zero, Int.add_zero] at hmod hdiv
     have hq1 : 0 ≤ qq ∧ qq ≤ 1 := by have h5 := hst.2.2.1; omega
     obtain ⟨hq1, hq2⟩ := hq1
     have hcp1 : 0 < cc := by rw [hcc.out]; omega
     have HS := i' hst
     have HR := i' hrr
     have HQ := i' hqq
     have hlk : Hid (l.length ≤ 1000001) := by rw [hinv.out.1]; exact hk
     have hk2 : k + 1 ≤ 1000001 := by have h5 := hst.2.2.2.2.1; have h6 := l1; have h7 := l2; omega
     have hmx : Hid (k < max X.length Y.length + 1) := by have h5 := hst.2.2.2.2.1; show _ < _; omega
     have hbase : Hid (w.heap.size ≤ wr.heap.size) := hbl.out.size
     clear hst hr hq hx0 hy0 hinv hrr hqq hz
     go_wp2_with (at_builtin; refine wpList_append_own _ rfl _ _ 24 rfl w.heap.size 3 i0 (.int .i64 0) 1 8 Tryz.underlying24 HI.out.1 HI.out.2.1 HI.out.2.2.1 HI.out.2.2.2 rfl (by decide) _ _ _ rfl (hown.out.alloc _) ⟨wr.heap.size, 0, none⟩ 1 1 [.int .i64 rr] rfl rfl ?ac1 ?ac2 ?ac3 ?ac4 ?ac5 ?_)
     case ac1 =>
      intro j u hj
      match j, hj with
      | 0, hj => simp at hj; subst hj; simp [Addr.add]
     case ac2 => intro u hu; simp at hu; subst hu; rfl
     case ac3 => have h5 := hlk.out; unfold maxLen; omega
     case ac4 => have h5 := hlk.out; omega
     case ac5 => have h5 := hbase.out; simp; omega
     intro v' w1 hown1 hgrow1 _
     have hbl1 : Hid (Below w.heap.size w w1) := (hbl.out.alloc hbase.out _).grown hgrow1 (by have h5 := hbase.out; simp; omega) (fun q hq => (hown.out.lt q hq).1)
     have hown2 : Hid (w1.ownsRow w.heap.size 3 1 v' (l ++ [r]).length (iv (l ++ [r]))) := by
      show World.ownsRow _ _ _ _ _ _ _
      rw [k'5y, List.length_append, HR.out]
      exact hown1
     clear hown1 hgrow1 hbl hown
     go_wp2
     go_roundw
     case rel => exact ⟨k + 1, q, qq, l ++ [r], hk2, by go_num, by rw [hdiv], hq1, hq2, HQ.out.symm, HS.out, hown2, hbl1⟩
     case measure => have := hmx.out; simp [intOf]; omega
theorem k'65 {X Y : List Nat} (d1 : Nm.Dig D9 X) (d2 : Nm.Dig D9 Y) (hl : X.length = Y.length) (i : Nat) (hi : i < X.length) (hj : i < Y.length) (he : X.drop (i + 1) = Y.drop (i + 1)) (h : X[i] ≠ Y[i]) : cmpN X[i] Y[i] = cmpN (Nm.val D9 X) (Nm.val D9 Y) := by
 rcases Nat.lt_or_gt_of_ne h with h | h
 ·rw [k'28 h, k'28 (Nm.val_lt_of_at d1 hl i hi he h)]
 ·rw [k'29 h, k'29 (Nm.val_lt_of_at d2 hl.symm i hj he.symm h)]
theorem k'66 (v1 v2 : Value) (m n : Nat) (w : World) (h1 : Ri w v1 (Nm.dg D9 m)) (h2 : Ri w v2 (Nm.dg D9 n)) (l1 : (Nm.dg D9 m).length ≤ 1000000) (l2 : (Nm.dg D9 n).length ≤ 1000000) :
 Calls Tryz.prog 122 #[v1, v2] w (CmpPost (cmpN m n) w) := by
 have d1 := Nm.dig_dg D92 m
 have d2 := Nm.dig_dg D92 n
 have n1 := Nm.nrm_dg D92 m
 have n2 := Nm.nrm_dg D92 n
 rw [show cmpN m n = cmpN (Nm.val D9 (Nm.dg D9 m)) (Nm.val D9 (Nm.dg D9 n)) by rw [Nm.val_dg D92, Nm.val_dg D92]]
 generalize Nm.dg D9 m = X at *
 generalize Nm.dg D9 n = Y at *
 obtain ⟨p1, b1, o1, c1, rfl, _, _, hp1, _, h1⟩ := h1
 obtain ⟨p2, b2, o2, c2, rfl, _, _, hp2, _, h2⟩ := h2
 have Hp1 := i' hp1
 have Hp2 := i' hp2
 have H1 := i' h1
 have H2 := i' h2
 have NN := i' (And.intro d1 d2)
 clear hp1 hp2 h1 h2
 rcases Nat.lt_trichotomy X.length Y.length with hl | hl | hl
 ·have E := i' (k'28 (Nm.val_lt_of_len D90 d1 n2 hl))
  have hb : (((X.length : Int)) != (Y.length : Int)) = true := by simp; omega
  clear NN d1 d2 n1 n2
  go_enter Tryz.func122, Tryz.ntmps122
  go_wp2
  go_ret
  exact ⟨by rw [E.out]; rfl, 0, rfl⟩
 ·have Hl := i' hl
  have hb : (((X.length : Int)) != (Y.length : Int)) = false := by simp [hl]
  have hle : Y.length ≤ X.length := by omega
  have hge : X.length ≤ Y.length := by omega
  clear hl d1 d2 n1 n2
  go_enter Tryz.func122, Tryz.ntmps122
  go_wp2
  clear hb
  go_loopw [5] (fun i wr => ∃ k n : Nat, k ≤ X.length ∧ i = .int .i64 ((k : Int) - 1) ∧ Hid (X.drop k = Y.drop k) ∧ wr = w.drewN n) (fun i _ => (intOf i + 1).toNat)
  case atStart => exact ⟨X.length, 0, Nat.le_refl _, rfl, by show _ = _; rw [List.drop_of_length_le (Nat.le_refl _), List.drop_of_length_le hle], rfl⟩
  case round =>
   obtain ⟨k, n, hk, rfl, Hd, rfl⟩ := hrel
   rcases Nat.eq_zero_or_pos k with h0 | h0
   ·subst h0
    go_wp2
    go_ret
    refine ⟨?_, n, rfl⟩
    have := Hd.out
    simp only [List.drop_zero] at this
    rw [this, k'2a]; rfl
   ·obtain ⟨j, rfl⟩ : ∃ j, k = j + 1 := ⟨k - 1, by omega⟩
    have hx : j < X.length := by omega
    have hy : j < Y.length := by omega
    obtain rfl := Hp1.out (by intro e; rw [e] at hx; exact absurd hx (Nat.not_lt_zero _))
    obtain rfl := Hp2.out (by intro e; rw [e] at hy; exact absurd hy (Nat.not_lt_zero _))
    have e1 := H1.out j hx
    have e2 := H2.out j hy
    rw [show ((j + 1 : Nat) : Int) - 1 = (j : Int) by omega]
    rcases Nat.lt_trichotomy X[j] Y[j] with hv | hv | hv
    ·have E := i' (k'65 NN.out.1 NN.out.2 Hl.out j hx hy Hd.out (Nat.ne_of_lt hv))
     have E2 := i' (k'28 hv)
     have hvi : (X[j] : Int) < (Y[j] : Int) := by omega
     clear hv
     go_wp2_with fail
     go_quiet (fail)
     go_wp2
     go_ret
     exact ⟨by rw [← E.out, E2.out]; rfl, _, World.drewN_drewN _ _ _⟩
    ·have Hv := i' hv
     rw [hv] at e1
     clear hv
     go_wp2_with fail
     go_quiet (fail)
     go_wp2_with fail
     go_quiet (fail)
     go_wp2
     go_roundw
     case rel => exact ⟨j, _, by omega, by go_num, by show _ = _; rw [List.drop_eq_getElem_cons hx, List.drop_eq_getElem_cons hy, Hv.out, Hd.out], rfl⟩
     case measure => simp [intOf]
    ·have E := i' (k'65 NN.out.1 NN.out.2 Hl.out j hx hy Hd.out (Nat.ne_of_gt hv))
     have E2 := i' (k'29 hv)
     have hvi : (Y[j] : Int) < (X[j] : Int) := by omega
     clear hv
     go_wp2_with fail
     go_quiet (fail)
     go_wp2_with fail
     go_quiet (fail)
     go_wp2
     go_ret
     exact ⟨by rw [← E.out, E2.out]; rfl, _, (by rw [World.drewN_drewN, World.drewN_drewN])⟩
 ·have E := i' (k'29 (Nm.val_lt_of_len D90 d2 n1 hl))
  have hb : (((X.length : Int)) != (Y.length : Int)) = true := by simp; omega
  have hge : ¬ ((X.length : Int) < (Y.length : Int)) := by omega
  clear NN d1 d2 n1 n2
  go_enter Tryz.func122, Tryz.ntmps122
  go_wp2
  go_ret
  exact ⟨by rw [E.out]; rfl, 0, rfl⟩
def MInv (X Y : List Nat) (k c : Nat) (l : List Nat) : Prop :=
 l.length = k ∧ Nm.Dig D9 l ∧ c ≤ 1 ∧ Nm.val D9 l + Nm.val D9 (Y.take k) = Nm.val D9 (X.take k) + D9 ^ k * c
theorem MInv.step {X Y l : List Nat} {k c x y r q : Nat} (h : MInv X Y k c l) (hX : X.getD k 0 = x) (hY : Y.getD k 0 = y) (hr : r < D9) (hq : q ≤ 1) (he : r + y + c = x + D9 * q) :
 MInv X Y (k + 1) q (l ++ [r]) := by
 obtain ⟨h1, h2, h3, h4⟩ := h
 refine ⟨by simp [h1], Nm.dig_append.2 ⟨h2, Nm.dig_cons.2 ⟨hr, Nm.dig_nil _⟩⟩, hq, ?_⟩
 rw [Nm.val_snoc, h1, k'60, k'60, Nat.pow_succ, hX, hY]
 have e1 : D9 ^ k * (r + y + c) = D9 ^ k * (x + D9 * q) := by rw [he]
 generalize D9 ^ k = P at *
 grind
theorem MInv.finish {X Y l : List Nat} {c : Nat} (h : MInv X Y X.length c l) (hY : Y.length ≤ X.length) (hle : Nm.val D9 Y ≤ Nm.val D9 X) : Nm.trimL l = Nm.dg D9 (Nm.val D9 X - Nm.val D9 Y) := by
 obtain ⟨h1, h2, h3, h4⟩ := h
 rw [List.take_length, List.take_of_length_le hY] at h4
 have hlt := Nm.val_lt h2
 rw [h1] at hlt
 rw [Nm.trimL_dg D92 h2]
 have : c = 0 := by
  rcases Nat.eq_zero_or_pos c with h0 | h0
  ·exact h0
  ·have : D9 ^ X.length * 1 ≤ D9 ^ X.length * c := Nat.mul_le_mul_left _ h0
   omega
 subst this
 congr 1
 omega
theorem k'67 {x y c : Nat} {xx yy cc : Int} (hx : (x : Int) = xx) (hy : (y : Int) = yy) (hc : cc = (c : Int)) (bx : xx < 1000000000) (by0 : yy < 1000000000) (bc : cc ≤ 1) :
 (xx - cc - yy < 0 → ∃ r : Nat, (r : Int) = xx - cc - yy + 1000000000 ∧ r < D9 ∧ r + y + c = x + D9 * 1) ∧ (¬ xx - cc - yy < 0 → ∃ r : Nat, (r : Int) = xx - cc - yy ∧ r < D9 ∧ r + y + c = x + D9 * 0) := by
 unfold D9
 subst hx hy hc
 refine ⟨fun h => ⟨((x : Int) - c - y + 1000000000).toNat, by omega, by omega, by omega⟩, fun h => ⟨((x : Int) - c - y).toNat, by omega, by omega, by omega⟩⟩
theorem k'68 {x c : Nat} {xx cc : Int} (hx : (x : Int) = xx) (hc : cc = (c : Int)) (bx : xx < 1000000000) (bc : cc ≤ 1) :
 (xx - cc < 0 → ∃ r : Nat, (r : Int) = xx - cc + 1000000000 ∧ r < D9 ∧ r + 0 + c = x + D9 * 1) ∧ (¬ xx - cc < 0 → ∃ r : Nat, (r : Int) = xx - cc ∧ r < D9 ∧ r + 0 + c = x + D9 * 0) := by
 unfold D9
 subst hx hc
 refine ⟨fun h => ⟨((x : Int) - c + 1000000000).toNat, by omega, by omega, by omega⟩, fun h => ⟨((x : Int) - c).toNat, by omega, by omega, by omega⟩⟩
theorem k'69 (v1 v2 : Value) (m n : Nat) (w : World) (hmn : n ≤ m) (h1 : Ri w v1 (Nm.dg D9 m)) (h2 : Ri w v2 (Nm.dg D9 n)) (l1 : (Nm.dg D9 m).length ≤ 1000000) (l2 : (Nm.dg D9 n).length ≤ 1000000) :
 Calls Tryz.prog 123 #[v1, v2] w (GivesI (m - n) w) := by
 have dx := Nm.dig_dg D92 m
 have dy := Nm.dig_dg D92 n
 have ny := Nm.nrm_dg D92 n
 have e1 := Nm.val_dg D92 m
 have e2 := Nm.val_dg D92 n
 have HV := i' (show Nm.val D9 (Nm.dg D9 m) - Nm.val D9 (Nm.dg D9 n) = m - n by rw [e1, e2])
 have HL := i' (show Nm.val D9 (Nm.dg D9 n) ≤ Nm.val D9 (Nm.dg D9 m) by rw [e1, e2]; exact hmn)
 rw [← HV.out]
 clear HV e1 e2
 generalize Nm.dg D9 m = X at *
 generalize Nm.dg D9 n = Y at *
 have HLL : Hid (Y.length ≤ X.length) := by
  rcases Nat.lt_or_ge X.length Y.length with g | g
  ·have g1 := Nm.val_lt_of_len D90 dx ny g
   have g2 := HL.out
   omega
  ·exact g
 obtain ⟨p1, b1, o1, c1, rfl, _, _, hp1, _, g1⟩ := h1
 obtain ⟨p2, b2, o2, c2, rfl, _, _, hp2, _, g2⟩ := h2
 have hi3 : (Tryz.prog.info? 3).map (fun i => (i.zero, i.size, i.bytes)) = some (some (.int .i64 0), 1, 8) := by kernel_rfl
 obtain ⟨i0, hi0, hz0, hz1, hz2⟩ := info_parts hi3
 have HI := i' (And.intro hi0 (And.intro hz0 (And.intro hz1 hz2)))
 have Hp1 := i' hp1
 have Hp2 := i' hp2
 have G1 := i' g1
 have G2 := i' g2
 have NN := i' (And.intro dx dy)
 have HT := i' (fun v xs w h => k'5z v xs w h)
 clear hi3 hi0 hz0 hz1 hz2 hp1 hp2 g1 g2 dx dy ny hmn
 go_enter Tryz.func123, Tryz.ntmps123
 go_wp2
 go_loopw [5, 6, 7] (fun v cv i wr => ∃ (k c : Nat) (cc : Int) (l : List Nat), k ≤ X.length ∧ i = .int .i64 (k : Nat) ∧ cv = .int .i64 cc ∧ 0 ≤ cc ∧ cc ≤ 1 ∧ Hid (cc = (c : Int)) ∧ Hid (MInv X Y k c l) ∧ Hid (wr.ownsRow w.heap.size 3 1 v l.length (iv l)) ∧ Hid (Below w.heap.size w wr))
  (fun _ _ i _ => X.length - (intOf i).toNat)
 case atStart =>
  exact ⟨0, 0, 0, [], by omega, rfl, rfl, by omega, by omega, rfl, ⟨rfl, Nm.dig_nil _, by omega, by simp [Nm.val]⟩, World.ownsRow_nil _ _ _ _, Below.refl _ _⟩
 case round =>
  rename_i wr _
  obtain ⟨k, c, cc, l, hk, rfl, rfl, hc0, hc1, hcc, hinv, hown, hbl⟩ := hrel
  by_cases hx : k < X.length
  ·by_cases hy : k < Y.length
   ·have _ := hx
    obtain rfl := Hp1.out (by intro e; rw [e] at hx; exact absurd hx (Nat.not_lt_zero _))
    have e1 := k'd hbl.out (G1.out k hx)
    have hX : (0 : Int) ≤ (X[k] : Int) ∧ (X[k] : Int) < 1000000000 := by have h5 : X[k] < 1000000000 := Nm.dig_get NN.out.1 k hx; omega
    have hx0 : X.getD k 0 = X[k] := by simp [hx]
    obtain ⟨x, hxx⟩ : ∃ x : Int, (X[k] : Int) = x := ⟨_, rfl⟩
    rw [hxx] at hX e1
    obtain ⟨hX1, hX2⟩ := hX
    obtain rfl := Hp2.out (by intro e; rw [e] at hy; exact absurd hy (Nat.not_lt_zero _))
    have e2 := k'd hbl.out (G2.out k hy)
    have hY : (0 : Int) ≤ (Y[k] : Int) ∧ (Y[k] : Int) < 1000000000 := by have h5 : Y[k] < 1000000000 := Nm.dig_get NN.out.2 k hy; omega
    have hy0 : Y.getD k 0 = Y[k] := by simp [hy]
    obtain ⟨y, hyy⟩ : ∃ y : Int, (Y[k] : Int) = y := ⟨_, rfl⟩
    rw [hyy] at hY e2
    obtain ⟨hY1, hY2⟩ := hY
    have hd := k'67 hxx hyy hcc.out hX2 hY2 hc1
    by_cases hn : x - cc - y < 0
    ·have _ := hn
     obtain ⟨r, hr0, hr1, hr2⟩ := hd.1 hn
     have hst := hinv.out.step hx0 hy0 hr1 (Nat.le_refl 1) hr2
     have HS := i' hst
     have HR := i' hr0
     have hlk : Hid (l.length ≤ 1000000) := by rw [hinv.out.1]; show _ ≤ _; omega
     have hk2 : k + 1 ≤ X.length := hx
     have hbase : Hid (w.heap.size ≤ wr.heap.size) := hbl.out.size
     clear hst hr0 hr1 hr2 hd hinv hx0 hy0 hxx hyy
     go_wp2_with (at_builtin; refine wpList_append_own _ rfl _ _ 24 rfl w.heap.size 3 i0 (.int .i64 0) 1 8 Tryz.underlying24 HI.out.1 HI.out.2.1 HI.out.2.2.1 HI.out.2.2.2 rfl (by decide) _ _ _ rfl (hown.out.alloc _) ⟨wr.heap.size, 0, none⟩ 1 1 [.int .i64 (x - cc - y + 1000000000)] rfl rfl ?dc1 ?dc2 ?dc3 ?dc4 ?dc5 ?_)
     case dc2 => rfl
     case dc3 => have h5 := hlk.out; unfold maxLen; omega
     case dc4 => have h5 := hlk.out; omega
     case dc5 => have h5 := hbase.out; omega
     intro v' w1 hown1 hgrow1 _
     have hbl1 : Hid (Below w.heap.size w w1) := (hbl.out.alloc hbase.out _).grown hgrow1 (by have h5 := hbase.out; simp; omega) (fun q hq => (hown.out.lt q hq).1)
     have hown2 : Hid (w1.ownsRow w.heap.size 3 1 v' (l ++ [r]).length (iv (l ++ [r]))) := by
      show World.ownsRow _ _ _ _ _ _ _
      rw [k'5y, List.length_append, HR.out]
      exact hown1
     clear hown1 hgrow1 hbl hown
     go_wp2
     go_roundw
     case rel => exact ⟨k + 1, 1, 1, l ++ [r], hk2, by go_num, rfl, by omega, by omega, rfl, HS.out, hown2, hbl1⟩
     case measure => simp [intOf]; omega
    ·have _ := hn
     obtain ⟨r, hr0, hr1, hr2⟩ := hd.2 hn
     have hst := hinv.out.step hx0 hy0 hr1 (Nat.zero_le 1) hr2
     have HS := i' hst
     have HR := i' hr0
     have hlk : Hid (l.length ≤ 1000000) := by rw [hinv.out.1]; show _ ≤ _; omega
     have hk2 : k + 1 ≤ X.length := hx
     have hbase : Hid (w.heap.size ≤ wr.heap.size) := hbl.out.size
     clear hst hr0 hr1 hr2 hd hinv hx0 hy0 hxx hyy
     go_wp2_with (at_builtin; refine wpList_append_own _ rfl _ _ 24 rfl w.heap.size 3 i0 (.int .i64 0) 1 8 Tryz.underlying24 HI.out.1 HI.out.2.1 HI.out.2.2.1 HI.out.2.2.2 rfl (by decide) _ _ _ rfl (hown.out.alloc _) ⟨wr.heap.size, 0, none⟩ 1 1 [.int .i64 (x - cc - y)] rfl rfl ?cc1 ?cc2 ?cc3 ?cc4 ?cc5 ?_)
     case cc2 => rfl
     case cc3 => have h5 := hlk.out; unfold maxLen; omega
     case cc4 => have h5 := hlk.out; omega
     case cc5 => have h5 := hbase.out; omega
     intro v' w1 hown1 hgrow1 _
     have hbl1 : Hid (Below w.heap.size w w1) := (hbl.out.alloc hbase.out _).grown hgrow1 (by have h5 := hbase.out; simp; omega) (fun q hq => (hown.out.lt q hq).1)
     have hown2 : Hid (w1.ownsRow w.heap.size 3 1 v' (l ++ [r]).length (iv (l ++ [r]))) := by
      show World.ownsRow _ _ _ _ _ _ _
      rw [k'5y, List.length_append, HR.out]
      exact hown1
     clear hown1 hgrow1 hbl hown
     go_wp2
     go_roundw
     case rel => exact ⟨k + 1, 0, 0, l ++ [r], hk2, by go_num, rfl, by omega, by omega, rfl, HS.out, hown2, hbl1⟩
     case measure => simp [intOf]; omega
   ·have _ := hx
    obtain rfl := Hp1.out (by intro e; rw [e] at hx; exact absurd hx (Nat.not_lt_zero _))
    have e1 := k'd hbl.out (G1.out k hx)
    have hX : (0 : Int) ≤ (X[k] : Int) ∧ (X[k] : Int) < 1000000000 := by have h5 : X[k] < 1000000000 := Nm.dig_get NN.out.1 k hx; omega
    have hx0 : X.getD k 0 = X[k] := by simp [hx]
    obtain ⟨x, hxx⟩ : ∃ x : Int, (X[k] : Int) = x := ⟨_, rfl⟩
    rw [hxx] at hX e1
    obtain ⟨hX1, hX2⟩ := hX
    have hy0 : Y.getD k 0 = 0 := by simp at hy; simp [hy]
    have hd := k'68 hxx hcc.out hX2 hc1
    by_cases hn : x - cc < 0
    ·have _ := hn
     obtain ⟨r, hr0, hr1, hr2⟩ := hd.1 hn
     have hst := hinv.out.step hx0 hy0 hr1 (Nat.le_refl 1) hr2
     have HS := i' hst
     have HR := i' hr0
     have hlk : Hid (l.length ≤ 1000000) := by rw [hinv.out.1]; show _ ≤ _; omega
     have hk2 : k + 1 ≤ X.length := hx
     have hbase : Hid (w.heap.size ≤ wr.heap.size) := hbl.out.size
     clear hst hr0 hr1 hr2 hd hinv hx0 hy0 hxx
     go_wp2_with (at_builtin; refine wpList_append_own _ rfl _ _ 24 rfl w.heap.size 3 i0 (.int .i64 0) 1 8 Tryz.underlying24 HI.out.1 HI.out.2.1 HI.out.2.2.1 HI.out.2.2.2 rfl (by decide) _ _ _ rfl (hown.out.alloc _) ⟨wr.heap.size, 0, none⟩ 1 1 [.int .i64 (x - cc + 1000000000)] rfl rfl ?bc1 ?bc2 ?bc3 ?bc4 ?bc5 ?_)
     case bc2 => rfl
     case bc3 => have h5 := hlk.out; unfold maxLen; omega
     case bc4 => have h5 := hlk.out; omega
     case bc5 => have h5 := hbase.out; omega
     intro v' w1 hown1 hgrow1 _
     have hbl1 : Hid (Below w.heap.size w w1) := (hbl.out.alloc hbase.out _).grown hgrow1 (by have h5 := hbase.out; simp; omega) (fun q hq => (hown.out.lt q hq).1)
     have hown2 : Hid (w1.ownsRow w.heap.size 3 1 v' (l ++ [r]).length (iv (l ++ [r]))) := by
      show World.ownsRow _ _ _ _ _ _ _
      rw [k'5y, List.length_append, HR.out]
      exact hown1
     clear hown1 hgrow1 hbl hown
     go_wp2
     go_roundw
     case rel => exact ⟨k + 1, 1, 1, l ++ [r], hk2, by go_num, rfl, by omega, by omega, rfl, HS.out, hown2, hbl1⟩
     case measure => simp [intOf]; omega
    ·have _ := hn
     obtain ⟨r, hr0, hr1, hr2⟩ := hd.2 hn
     have hst := hinv.out.step hx0 hy0 hr1 (Nat.zero_le 1) hr2
     have HS := i' hst
     have HR := i' hr0
     have hlk : Hid (l.length ≤ 1000000) := by rw [hinv.out.1]; show _ ≤ _; omega
     have hk2 : k + 1 ≤ X.length := hx
     have hbase : Hid (w.heap.size ≤ wr.heap.size) := hbl.out.size
     clear hst hr0 hr1 hr2 hd hinv hx0 hy0 hxx
     go_wp2_with (at_builtin; refine wpList_append_own _ rfl _ _ 24 rfl w.heap.size 3 i0 (.int .i64 0) 1 8 Tryz.underlying24 HI.out.1 HI.out.2.1 HI.out.2.2.1 HI.out.2.2.2 rfl (by decide) _ _ _ rfl (hown.out.alloc _) ⟨wr.heap.size, 0, none⟩ 1 1 [.int .i64 (x - cc)] rfl rfl ?ac1 ?ac2 ?ac3 ?ac4 ?ac5 ?_)
     case ac2 => rfl
     case ac3 => have h5 := hlk.out; unfold maxLen; omega
     case ac4 => have h5 := hlk.out; omega
     case ac5 => have h5 := hbase.out; omega
     intro v' w1 hown1 hgrow1 _
     have hbl1 : Hid (Below w.heap.size w w1) := (hbl.out.alloc hbase.out _).grown hgrow1 (by have h5 := hbase.out; simp; omega) (fun q hq => (hown.out.lt q hq).1)
     have hown2 : Hid (w1.ownsRow w.heap.size 3 1 v' (l ++ [r]).length (iv (l ++ [r]))) := by
      show World.ownsRow _ _ _ _ _ _ _
      rw [k'5y, List.length_append, HR.out]
      exact hown1
     clear hown1 hgrow1 hbl hown
     go_wp2
     go_roundw
     case rel => exact ⟨k + 1, 0, 0, l ++ [r], hk2, by go_num, rfl, by omega, by omega, rfl, HS.out, hown2, hbl1⟩
     case measure => simp [intOf]; omega
  ·obtain rfl : k = X.length := by omega
   have HE : Hid (Nm.trimL l = Nm.dg D9 (Nm.val D9 X - Nm.val D9 Y)) := hinv.out.finish HLL.out HL.out
   have HO := i' (Ri.of_own hown.out)
   clear hinv
   go_wp2_with (go_at_call 95; (with_reducible refine (HT.out _ _ _ HO.out).mono ?_); rintro e w5 ⟨v5, rfl, h5, rfl⟩)
   go_ret
   exact ⟨_, rfl, by rw [← HE.out]; exact h5, hbl.out⟩
theorem k'6a (l : List Nat) (k n : Nat) : (iv l).set k (.int .i64 (n : Int)) = iv (l.set k n) := by simp [iv, List.map_set]
def Ari (w : World) (g : Nat) (l : List Nat) : Prop := w.heap[g]? = some (.cells (iv l).toArray 3 (0, 0))
theorem Ari.lt {w : World} {g : Nat} {l : List Nat} (h : Ari w g l) : g < w.heap.size := lt_of_block h
theorem Ari.cell {w : World} {g : Nat} {l : List Nat} (h : Ari w g l) (k : Nat) (hk : k < l.length) : w.cell? ⟨g, k, none⟩ = some (.int .i64 (l[k] : Int)) := by
 rw [cell_of_row w g k _ _ _ h]; simpa using k'5x l k hk
theorem Ari.free {w : World} {g : Nat} {l : List Nat} (h : Ari w g l) (k : Nat) : w.frozen? ⟨g, k, none⟩ = false := frozen_of_row w g k _ _ h
theorem Ari.set {w : World} {g : Nat} {l : List Nat} (h : Ari w g l) (k n : Nat) : Ari (w.setCell ⟨g, k, none⟩ (.int .i64 (n : Int))) g (l.set k n) := by
 have := heap_setCell_same w g k _ _ (.int .i64 (n : Int)) h
 rw [Ari, this]
 simp [← k'6a]
theorem Ari.keep {w w' : World} {g : Nat} {l : List Nat} (h : Ari w g l) (he : w'.heap[g]? = w.heap[g]?) : Ari w' g l := he.trans h
theorem Ari.drewN {w : World} {g : Nat} {l : List Nat} (h : Ari w g l) (n : Nat) : Ari (w.drewN n) g l := h
theorem Ari.made (w : World) (l : List Nat) : Ari (w.alloc (.cells (iv l).toArray 3)) w.heap.size l := heap_alloc_new w _
theorem Ri.of_ari {w : World} {g : Nat} {l : List Nat} (h : Ari w g l) (n : Nat) (h1 : l.length = n) (h3 : n ≤ maxLen) : Ri w (.slice (some ⟨g, 0, none⟩) n n) l := by
 subst h1
 refine ⟨some ⟨g, 0, none⟩, g, 0, l.length, rfl, Nat.le_refl _, h3, fun _ => rfl, Or.inr ⟨rfl, h.lt, _, _, h⟩, fun k hk => ?_⟩
 rw [h.cell (0 + k) (by omega)]
 simp
theorem k'6b (n : Nat) (w : World) (hn : n ≤ 1099511627776) :
 (Instr.makeSlice 24 (.int .i64 (n : Int)) (.int .i64 (n : Int))).run Tryz.prog w = .ok (.slice (some ⟨w.heap.size, 0, none⟩) n n) (w.alloc (.cells (iv (List.replicate n 0)).toArray 3)) := by
 have hi : (Tryz.prog.info? 3).map (fun i => (i.zero, i.size, i.bytes)) = some (some (.int .i64 0), 1, 8) := by kernel_rfl
 obtain ⟨i, hi, hz, hs, hb⟩ := info_parts hi
 rw [run_make w 24 3 i (.int .i64 0) Tryz.underlying24 hi hz .i64 .i64 n n (by omega) (by omega) (by rw [hb]; omega) (by omega)]
 simp only [Int.toNat_natCast, hs, Nat.mul_one]
 have hm : madeCells (Value.cells (.int .i64 0)) n = (iv (List.replicate n 0)).toArray := by
  apply Array.ext'
  simp [madeCells, Value.cells, iv, Nat.mod_one, List.map_const']
 rw [hm]
theorem k'6c (n m : Nat) (hn : n ≤ 1000000000) (hm : m ≤ 1000000000) (w : World) :
 (Instr.makeSlice 24 (.int .i64 ((n : Int) + (m : Int))) (.int .i64 ((n : Int) + (m : Int)))).run Tryz.prog w = .ok (.slice (some ⟨w.heap.size, 0, none⟩) (n + m) (n + m)) (w.alloc (.cells (iv (List.replicate (n + m) 0)).toArray 3)) :=
 k'6b (n + m) w (by omega)
theorem k'6d (B : Nat) : ∀ (l : List Nat) (j x : Nat), j < l.length → Nm.val B (l.set j x) + B ^ j * l.getD j 0 = Nm.val B l + B ^ j * x
 | [], j, x, h => absurd h (by simp)
 | a :: l, 0, x, h => by simp [Nm.val_cons]; omega
 | a :: l, j + 1, x, h => by
  have ih := k'6d B l j x (by simpa using h)
  simp only [List.set_cons_succ, Nm.val_cons, List.getD_cons_succ, Nat.pow_succ]
  generalize Nm.val B (l.set j x) = p at *
  generalize Nm.val B l = q at *
  generalize l.getD j 0 = d at *
  generalize B ^ j = P at *
  grind
theorem k'6e {B : Nat} {l : List Nat} (h : Nm.Dig B l) (j x : Nat) (hx : x < B) : Nm.Dig B (l.set j x) := by
 intro y hy
 rcases List.mem_or_eq_of_mem_set hy with h1 | h1
 ·exact h y h1
 ·rw [h1]; exact hx
theorem k'6f {l : List Nat} {i j x : Nat} (h : i ≠ j) : (l.set i x).getD j 0 = l.getD j 0 := by
 simp [List.getElem?_set, h]
def OInv (X Y : List Nat) (i : Nat) (l : List Nat) : Prop :=
 l.length = X.length + Y.length ∧ Nm.Dig D9 l ∧ Nm.val D9 l = Nm.val D9 (X.take i) * Nm.val D9 Y ∧ ∀ j, i + Y.length ≤ j → l.getD j 0 = 0
def TInv (X Y : List Nat) (i a k c : Nat) (l : List Nat) : Prop :=
 l.length = X.length + Y.length ∧ Nm.Dig D9 l ∧ c < D9 ∧ Nm.val D9 l + D9 ^ (i + k) * c = Nm.val D9 (X.take i) * Nm.val D9 Y + D9 ^ i * a * Nm.val D9 (Y.take k) ∧
  (∀ j, i + Y.length + 1 ≤ j → l.getD j 0 = 0) ∧ (k ≤ Y.length → l.getD (i + Y.length) 0 = 0) ∧ k ≤ Y.length + 1 ∧ (k = Y.length + 1 → c = 0)
theorem OInv.start (X Y : List Nat) : OInv X Y 0 (List.replicate (X.length + Y.length) 0) :=
 ⟨by simp, fun x hx => by rw [List.eq_of_mem_replicate hx]; exact D90, by simp [Nm.val, Nm.val_zeros], fun j _ => by simp [List.getElem?_replicate]; split <;> rfl⟩
theorem OInv.row {X Y l : List Nat} {i : Nat} (a : Nat) (h : OInv X Y i l) : TInv X Y i a 0 0 l := by
 obtain ⟨h1, h2, h3, h4⟩ := h
 exact ⟨h1, h2, D90, by rw [h3]; simp [Nm.val], fun j hj => h4 j (by omega), fun _ => h4 _ (Nat.le_refl _), Nat.zero_le _, fun h => absurd h (by omega)⟩
theorem TInv.row {X Y l : List Nat} {i k : Nat} (hi : i < X.length) (h : TInv X Y i (X.getD i 0) k 0 l) (hk : Y.length ≤ k) : OInv X Y (i + 1) l := by
 obtain ⟨h1, h2, h3, h4, h5, h6, h7, h8⟩ := h
 refine ⟨h1, h2, ?_, fun j hj => h5 j (by omega)⟩
 rw [k'60]
 rw [List.take_of_length_le hk, Nat.mul_zero, Nat.add_zero] at h4
 rw [h4]; grind
theorem TInv.step {X Y l : List Nat} {i a k c : Nat} (hi : i < X.length) (ha : a < D9) (dy : Nm.Dig D9 Y) (h : TInv X Y i a k c l) (hc : k < Y.length ∨ 0 < c) :
 i + k < l.length ∧ TInv X Y i a (k + 1) ((l.getD (i + k) 0 + c + a * Y.getD k 0) / D9) (l.set (i + k) ((l.getD (i + k) 0 + c + a * Y.getD k 0) % D9)) := by
 obtain ⟨h1, h2, h3, h4, h5, h6, h7, h8⟩ := h
 have hk : k ≤ Y.length := by
  rcases hc with g | g
  ·omega
  ·rcases Nat.lt_or_ge Y.length k with q | q
   ·have := h8 (by omega); omega
   ·exact q
 have hlt : i + k < l.length := by omega
 have hd : l.getD (i + k) 0 < D9 := by simp [hlt]; exact Nm.dig_get h2 _ hlt
 have hy : Y.getD k 0 < D9 := by
  rcases Nat.lt_or_ge k Y.length with g | g
  ·simp [g]; exact Nm.dig_get dy k g
  ·simp [g]; exact D90
 have hy0 : k = Y.length → Y.getD k 0 = 0 := fun e => by
  have g1 : Y.length ≤ k := by omega
  simp [g1]
 have hs := k'6d D9 l (i + k) ((l.getD (i + k) 0 + c + a * Y.getD k 0) % D9) hlt
 refine ⟨hlt, by simpa using h1, k'6e h2 _ _ (Nat.mod_lt _ D90), ?_, ?_, fun j hj => by rw [k'6f (by omega)]; exact h5 j hj, fun hk2 => by rw [k'6f (by omega)]; exact h6 hk, by omega, fun e => ?_⟩
 ·rw [Nat.div_lt_iff_lt_mul D90]
  have h9 : a * Y.getD k 0 ≤ (D9 - 1) * (D9 - 1) := Nat.mul_le_mul (by omega) (by omega)
  generalize a * Y.getD k 0 = p at *
  unfold D9 at *
  omega
 ·rw [k'60]
  have hm := Nat.mod_add_div (l.getD (i + k) 0 + c + a * Y.getD k 0) D9
  have e2 : D9 ^ (i + (k + 1)) = D9 ^ (i + k) * D9 := by rw [← Nat.add_assoc, Nat.pow_succ]
  have e3 : D9 ^ (i + k) = D9 ^ i * D9 ^ k := Nat.pow_add _ _ _
  have e1 : D9 ^ (i + k) * ((l.getD (i + k) 0 + c + a * Y.getD k 0) % D9 + D9 * ((l.getD (i + k) 0 + c + a * Y.getD k 0) / D9)) = D9 ^ (i + k) * (l.getD (i + k) 0 + c + a * Y.getD k 0) := by rw [hm]
  rw [e2]
  generalize (l.getD (i + k) 0 + c + a * Y.getD k 0) % D9 = r at *
  generalize (l.getD (i + k) 0 + c + a * Y.getD k 0) / D9 = q at *
  generalize Nm.val D9 (l.set (i + k) r) = v at *
  generalize Nm.val D9 l = v0 at *
  generalize l.getD (i + k) 0 = d at *
  generalize Y.getD k 0 = y at *
  generalize Nm.val D9 (Y.take k) = vy at *
  generalize Nm.val D9 (X.take i) * Nm.val D9 Y = vx at *
  have e4 : D9 ^ i * a * (vy + D9 ^ k * y) = D9 ^ i * a * vy + D9 ^ (i + k) * (a * y) := by rw [e3]; grind
  rw [e4]
  generalize D9 ^ (i + k) = P at *
  generalize D9 ^ i * a * vy = Q at *
  grind
 ·have e5 : k = Y.length := by omega
  rw [hy0 e5, e5, h6 hk, Nat.mul_zero, Nat.add_zero, Nat.zero_add]
  exact Nat.div_eq_of_lt h3
theorem OInv.finish {X Y l : List Nat} (h : OInv X Y X.length l) : Nm.trimL l = Nm.dg D9 (Nm.val D9 X * Nm.val D9 Y) := by
 obtain ⟨h1, h2, h3, h4⟩ := h
 rw [Nm.trimL_dg D92 h2, h3, List.take_length]
end Go.Proofs.YtepddegphdlbeaaGreat
