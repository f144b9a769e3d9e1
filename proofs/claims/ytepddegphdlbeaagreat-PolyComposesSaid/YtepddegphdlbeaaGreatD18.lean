/- PolyComposes gives true for all polynomials and integers (P2.5), and leaves its arguments as they were. No condition. -/
import Derived.Test.YtepddegphdlbeaaGreatD17
import Derived.Test.YtepddegphdlbeaaGreatD16
import Derived.Test.YtepddegphdlbeaaGreatD8
import Derived.Test.YtepddegphdlbeaaGreatD11
import Derived.Test.YtepddegphdlbeaaGreatD12
import Derived.Test.YtepddegphdlbeaaGreatD5
import Derived.Test.YtepddegphdlbeaaGreatD6
import Derived.Test.YtepddegphdlbeaaGreatD10
import Derived.Deep.RegionHeld3
import Derived.Test.YtepddegphdlbeaaGreatD15
import Derived.Test.YtepddegphdlbeaaGreatD0
import Derived.ProofKit
import Derived.OpenShut
import Derived.ShutString
import Derived.ChangeOld
import Derived.Below
import Derived.Lib.SmallJoins
import Derived.Test.YtepddegphdlbeaaGreatD13
import Derived.Test.YtepddegphdlbeaaGreatD9
import Derived.Deep.SlicePairs
import Derived.Test.YtepddegphdlbeaaGreatRows
import Derived.Carry

/- PolyComposes: the walk that composes. -/
namespace Go.Proofs.YtepddegphdlbeaaGreat
open Go.RowKit

set_option maxRecDepth 100000 in
set_option maxHeartbeats 8000000 in
theorem pco_ok (L : List (Bool × ByteArray)) (a b d g : Int) (p T : List Int) (v : Value) (b1 b2 b3 : Bool) (s1 s2 s3 : ByteArray) (w : World) (h : Rw w v L) (z1 : s1.size ≤ 9223372036854775807) (z2 : s2.size ≤ 9223372036854775807) (z3 : s3.size ≤ 9223372036854775807)
    (HS : ∀ w', Below w.heap.size w w' → Calls Tryz.prog 11 #[.slice (some ⟨w'.heap.size, 0, none⟩) 1 1] (w'.alloc (.cells #[v] 23)) (BPost true w'))
    (l1 : s1.size ≤ 16)
    (l2 : s2.size ≤ 16)
    (l3 : s3.size ≤ 16)
    (HA : ∀ w', Below w.heap.size w w' → Calls Tryz.prog 51 #[v, .agg #[.bool b1, .string s1], .agg #[.bool b2, .string s2], .agg #[.bool b3, .string s3]] w' (ResP T w'))
    (HV : ∀ w', Below w.heap.size w w' → Calls Tryz.prog 19 #[.slice (some ⟨w'.heap.size, 0, none⟩) 1 1] (w'.alloc (.cells #[v] 23)) (BPost true w'))
    (HW1 : ∀ w', Calls Tryz.prog 35 #[.agg #[.bool b1, .string s1]] w' (BPost true w'))
    (HW2 : ∀ w', Calls Tryz.prog 35 #[.agg #[.bool b2, .string s2]] w' (BPost true w'))
    (HW3 : ∀ w', Calls Tryz.prog 35 #[.agg #[.bool b3, .string s3]] w' (BPost true w'))
    (HG3 : ∀ w', Calls Tryz.prog 37 #[.agg #[.bool b3, .string s3]] w' (IntPost d w'))
    (HSg : ∀ u w', Rz w' u d → Calls Tryz.prog 50 #[iV d u] w' (SignPost g w'))
    (hg : 0 < g)
    (HG1 : ∀ w', Calls Tryz.prog 37 #[.agg #[.bool b1, .string s1]] w' (IntPost a w'))
    (HG2 : ∀ w', Calls Tryz.prog 37 #[.agg #[.bool b2, .string s2]] w' (IntPost b w'))
    (HF : ∀ w', Below w.heap.size w w' → Calls Tryz.prog 21 #[v] w' (RPPost p w'))
    (HR : ∀ w' x ua ub ud, RP w' x p → Rz w' ua a → Rz w' ub b → Rz w' ud d → Calls Tryz.prog 52 #[x, iV a ua, iV b ub, iV d ud] w' (RPPost T w'))
    (HE : ∀ w' v x, Rp w' v T → RP w' x T → Calls Tryz.prog 24 #[v, .int .i64 0, x] w' (BPost true w')) :
    Calls Tryz.prog 7 #[v, .agg #[.bool b1, .string s1], .agg #[.bool b2, .string s2], .agg #[.bool b3, .string s3]] w (Ret (.bool true) w) := by
  obtain ⟨w0, hw0⟩ : ∃ w0 : World, w0 = ((w.alloc (.cells #[.bool b1, .string s1] 44)).alloc (.cells #[.bool b2, .string s2] 44)).alloc (.cells #[.bool b3, .string s3] 44) := ⟨_, rfl⟩
  have I1 : Hid (ZC (.bool b1) (.string s1) w0 w.heap.size) := by rw [hw0]; exact ((ZC.new rfl).alloc _).alloc _
  have I2 : Hid (ZC (.bool b2) (.string s2) w0 (w.heap.size + 1)) := by rw [hw0]; exact (ZC.new (by simp)).alloc _
  have I3 : Hid (ZC (.bool b3) (.string s3) w0 (w.heap.size + 1 + 1)) := by rw [hw0]; exact ZC.new (by simp)
  have E : Hid (Below w.heap.size w w0) := by rw [hw0]; exact (((Below.refl _ _).alloc (Nat.le_refl _) _).alloc (by simp) _).alloc (by simp; omega) _
  have HK := Lib.hid known_true
  have HS := Lib.hid HS
  have HA := Lib.hid HA
  have HV := Lib.hid HV
  have HW1 := Lib.hid HW1
  have HW2 := Lib.hid HW2
  have HW3 := Lib.hid HW3
  have HG3 := Lib.hid HG3
  have HSg := Lib.hid HSg
  have HG1 := Lib.hid HG1
  have HG2 := Lib.hid HG2
  have HF := Lib.hid HF
  have HR := Lib.hid HR
  have HE := Lib.hid HE
  have f1 : ¬ (16 : Int) < (s1.size : Int) := by omega
  have f2 : ¬ (16 : Int) < (s2.size : Int) := by omega
  have f3 : ¬ (16 : Int) < (s3.size : Int) := by omega
  have fg : ¬ (g ≤ 0) := by omega
  obtain ⟨p1, a1, o1, c1, rfl, -, -, -, -⟩ := h
  generalize L.length = n1 at *
  clear z1 z2 z3 l1 l2 l3 hg
  unfold ResP RPPost at *
  unfold IntPost iV SignPost at *
  unfold BPost at *
  unfold Ret at *
  go_enter Tryz.func7, Tryz.ntmps7
  go_upto_region 1 with (fail)
  rw [← hw0]
  clear hw0
  go_wp2_with fail
  refine (HS.out _ E.out).mono ?_
  rintro e x1 ⟨rfl, b1⟩
  have I1 := Lib.hid (I1.out.next b1)
  have I2 := Lib.hid (I2.out.next b1)
  have I3 := Lib.hid (I3.out.next b1)
  have E := Lib.hid (chain E.out b1)
  clear b1
  obtain ⟨k0, k1, _⟩ := I1.out
  obtain ⟨k2, k3, _⟩ := I2.out
  obtain ⟨k4, k5, _⟩ := I3.out
  go_wp2_with fail
  clear k0 k1 k2 k3 k4 k5
  refine (HA.out _ E.out).mono ?_
  rintro e x2 ⟨y2, rfl, r2, b2⟩
  have I1 := Lib.hid (I1.out.next b2)
  have I2 := Lib.hid (I2.out.next b2)
  have I3 := Lib.hid (I3.out.next b2)
  have E := Lib.hid (chain E.out b2)
  have RA := Lib.hid r2
  clear r2
  clear b2
  obtain ⟨k0, k1, _⟩ := I1.out
  obtain ⟨k2, k3, _⟩ := I2.out
  obtain ⟨k4, k5, _⟩ := I3.out
  go_wp2_with fail
  clear k0 k1 k2 k3 k4 k5
  refine (HV.out _ E.out).mono ?_
  rintro e x3 ⟨rfl, b3⟩
  have I1 := Lib.hid (I1.out.next b3)
  have I2 := Lib.hid (I2.out.next b3)
  have I3 := Lib.hid (I3.out.next b3)
  have RA := Lib.hid (RA.out.below b3)
  have E := Lib.hid (chain E.out b3)
  clear b3
  obtain ⟨k0, k1, _⟩ := I1.out
  obtain ⟨k2, k3, _⟩ := I2.out
  obtain ⟨k4, k5, _⟩ := I3.out
  go_wp2_with fail
  clear k0 k1 k2 k3 k4 k5
  refine (HW1.out _).mono ?_
  rintro e x4 ⟨rfl, b4⟩
  have I1 := Lib.hid (I1.out.next b4)
  have I2 := Lib.hid (I2.out.next b4)
  have I3 := Lib.hid (I3.out.next b4)
  have RA := Lib.hid (RA.out.below b4)
  have E := Lib.hid (chain E.out b4)
  clear b4
  obtain ⟨k0, k1, _⟩ := I1.out
  obtain ⟨k2, k3, _⟩ := I2.out
  obtain ⟨k4, k5, _⟩ := I3.out
  go_wp2_with fail
  clear k0 k1 k2 k3 k4 k5
  refine (HW2.out _).mono ?_
  rintro e x5 ⟨rfl, b5⟩
  have I1 := Lib.hid (I1.out.next b5)
  have I2 := Lib.hid (I2.out.next b5)
  have I3 := Lib.hid (I3.out.next b5)
  have RA := Lib.hid (RA.out.below b5)
  have E := Lib.hid (chain E.out b5)
  clear b5
  obtain ⟨k0, k1, _⟩ := I1.out
  obtain ⟨k2, k3, _⟩ := I2.out
  obtain ⟨k4, k5, _⟩ := I3.out
  go_wp2_with fail
  clear k0 k1 k2 k3 k4 k5
  refine (HW3.out _).mono ?_
  rintro e x6 ⟨rfl, b6⟩
  have I1 := Lib.hid (I1.out.next b6)
  have I2 := Lib.hid (I2.out.next b6)
  have I3 := Lib.hid (I3.out.next b6)
  have RA := Lib.hid (RA.out.below b6)
  have E := Lib.hid (chain E.out b6)
  clear b6
  obtain ⟨k0, k1, _⟩ := I1.out
  obtain ⟨k2, k3, _⟩ := I2.out
  obtain ⟨k4, k5, _⟩ := I3.out
  go_wp2_with fail
  clear k0 k1 k2 k3 k4 k5
  refine (HG3.out _).mono ?_
  rintro e x7 ⟨y7, rfl, r7, b7⟩
  have I1 := Lib.hid (I1.out.next b7)
  have I2 := Lib.hid (I2.out.next b7)
  have I3 := Lib.hid (I3.out.next b7)
  have RA := Lib.hid (RA.out.below b7)
  have E := Lib.hid (chain E.out b7)
  have RG := Lib.hid r7
  clear r7
  clear b7
  obtain ⟨k0, k1, _⟩ := I1.out
  obtain ⟨k2, k3, _⟩ := I2.out
  obtain ⟨k4, k5, _⟩ := I3.out
  go_wp2_with fail
  clear k0 k1 k2 k3 k4 k5
  refine (HSg.out _ _ RG.out).mono ?_
  rintro e x8 ⟨rfl, b8⟩
  have I1 := Lib.hid (I1.out.next b8)
  have I2 := Lib.hid (I2.out.next b8)
  have I3 := Lib.hid (I3.out.next b8)
  have RA := Lib.hid (RA.out.below b8)
  have RG := Lib.hid (RG.out.below b8)
  have E := Lib.hid (chain E.out b8)
  clear b8
  obtain ⟨k0, k1, _⟩ := I1.out
  obtain ⟨k2, k3, _⟩ := I2.out
  obtain ⟨k4, k5, _⟩ := I3.out
  clear RG
  clear I1 I2 I3
  go_wp2_with fail
  go_region_held3 (fun W' => W'.cell? ⟨w.heap.size, 0, none⟩ = some (.bool b1) ∧ W'.cell? ⟨w.heap.size, 1, none⟩ = some (.string s1) ∧ W'.cell? ⟨w.heap.size + 1, 0, none⟩ = some (.bool b2) ∧ W'.cell? ⟨w.heap.size + 1, 1, none⟩ = some (.string s2) ∧ W'.cell? ⟨w.heap.size + 1 + 1, 0, none⟩ = some (.bool b3) ∧ W'.cell? ⟨w.heap.size + 1 + 1, 1, none⟩ = some (.string s3)) (go_keep)
    (first
      | (go_at_call 21; (with_reducible refine (HF.out _ ?ha).mono ?_); (first | exact chain E.out D.out | exact chain E.out ((Below.refl _ _).drew)); rintro e y ⟨z9, rfl, r9, b9⟩; have D := Lib.hid (show Below x8.heap.size x8 y by first | exact chain D.out b9 | exact chain ((Below.refl _ _).drew) b9); have QX := Lib.hid r9; clear r9; have p0 := keep1 D.out k0; have p1 := keep1 D.out k1; have p2 := keep1 D.out k2; have p3 := keep1 D.out k3; have p4 := keep1 D.out k4; have p5 := keep1 D.out k5; clear b9)
      | (go_at_call 37; (with_reducible refine (HG1.out _).mono ?_); rintro e y ⟨z9, rfl, r9, b9⟩; have D := Lib.hid (show Below x8.heap.size x8 y by first | exact chain D.out b9 | exact chain ((Below.refl _ _).drew) b9); have QX := Lib.hid (QX.out.below b9); have QA := Lib.hid r9; clear r9; have p0 := keep1 D.out k0; have p1 := keep1 D.out k1; have p2 := keep1 D.out k2; have p3 := keep1 D.out k3; have p4 := keep1 D.out k4; have p5 := keep1 D.out k5; clear b9)
      | (go_at_call 37; (with_reducible refine (HG2.out _).mono ?_); rintro e y ⟨z9, rfl, r9, b9⟩; have D := Lib.hid (show Below x8.heap.size x8 y by first | exact chain D.out b9 | exact chain ((Below.refl _ _).drew) b9); have QX := Lib.hid (QX.out.below b9); have QA := Lib.hid (QA.out.below b9); have QB := Lib.hid r9; clear r9; have p0 := keep1 D.out k0; have p1 := keep1 D.out k1; have p2 := keep1 D.out k2; have p3 := keep1 D.out k3; have p4 := keep1 D.out k4; have p5 := keep1 D.out k5; clear b9)
      | (go_at_call 37; (with_reducible refine (HG3.out _).mono ?_); rintro e y ⟨z9, rfl, r9, b9⟩; have D := Lib.hid (show Below x8.heap.size x8 y by first | exact chain D.out b9 | exact chain ((Below.refl _ _).drew) b9); have QX := Lib.hid (QX.out.below b9); have QA := Lib.hid (QA.out.below b9); have QB := Lib.hid (QB.out.below b9); have QD := Lib.hid r9; clear r9; have p0 := keep1 D.out k0; have p1 := keep1 D.out k1; have p2 := keep1 D.out k2; have p3 := keep1 D.out k3; have p4 := keep1 D.out k4; have p5 := keep1 D.out k5; clear b9)
      | (go_at_call 52; (with_reducible refine (HR.out _ _ _ _ _ (QX.out.below ?hc) (QA.out.below ?hd) (QB.out.below ?he) (QD.out.below ?hf)).mono ?_); (first | exact Below.refl _ _ | exact (Below.refl _ _).drew); (first | exact Below.refl _ _ | exact (Below.refl _ _).drew); (first | exact Below.refl _ _ | exact (Below.refl _ _).drew); (first | exact Below.refl _ _ | exact (Below.refl _ _).drew); rintro e y ⟨z9, rfl, r9, b9⟩; have D := Lib.hid (show Below x8.heap.size x8 y by first | exact chain D.out b9 | exact chain ((Below.refl _ _).drew) b9); have QT := Lib.hid r9; clear r9; have p0 := keep1 D.out k0; have p1 := keep1 D.out k1; have p2 := keep1 D.out k2; have p3 := keep1 D.out k3; have p4 := keep1 D.out k4; have p5 := keep1 D.out k5; clear b9)
      | (go_at_call 24; (with_reducible refine (HE.out _ _ _ (RA.out.below ?hh) (QT.out.below ?hi)).mono ?_); (first | exact D.out | exact (Below.refl _ _).drew); (first | exact Below.refl _ _ | exact (Below.refl _ _).drew); rintro e y ⟨rfl, b9⟩; have D := Lib.hid (show Below x8.heap.size x8 y by first | exact chain D.out b9 | exact chain ((Below.refl _ _).drew) b9); have p0 := keep1 D.out k0; have p1 := keep1 D.out k1; have p2 := keep1 D.out k2; have p3 := keep1 D.out k3; have p4 := keep1 D.out k4; have p5 := keep1 D.out k5; clear b9)
      | (go_at_call 12; (with_reducible refine (HK.out _).mono ?_); rintro e y ⟨rfl, b9⟩; have D := Lib.hid (show Below x8.heap.size x8 y by first | exact chain D.out b9 | exact chain ((Below.refl _ _).drew) b9); have p0 := keep1 D.out k0; have p1 := keep1 D.out k1; have p2 := keep1 D.out k2; have p3 := keep1 D.out k3; have p4 := keep1 D.out k4; have p5 := keep1 D.out k5; clear b9)
      | fail)
  go_wp2
  go_ret
  exact ⟨rfl, chain E.out D.out⟩
end Go.Proofs.YtepddegphdlbeaaGreat

/- PolyScales: the walks where the polynomial is valid. -/
namespace Go.Proofs.YtepddegphdlbeaaGreat
open Go.RowKit

end Go.Proofs.YtepddegphdlbeaaGreat

/- PolySums: the walks where both are valid. -/
namespace Go.Proofs.YtepddegphdlbeaaGreat
open Go.RowKit

end Go.Proofs.YtepddegphdlbeaaGreat

/- PolySums gives true for all lists. -/
namespace Go.Proofs.YtepddegphdlbeaaGreat
open Go.RowKit

theorem mul_nil (p : List Int) : Pl.trim (Pl.mul p []) = [] := by
  have key : ∀ (p : List Int) k, Pl.cf (Pl.mul p []) k = 0 := by
    intro p
    induction p with
    | nil => intro k; exact Pl.cf_nil k
    | cons a p ih =>
      intro k
      rw [Pl.mul, Pl.cf_add, Pl.cf_scl, Pl.cf_nil]
      cases k with
      | zero => rw [Pl.cf_cons_zero]; omega
      | succ k => rw [Pl.cf_cons_succ, ih]; omega
  exact Pl.nrm_ext (Pl.nrm_trim _) Pl.nrm_nil fun k => by rw [Pl.cf_trim, key, Pl.cf_nil]
theorem top_of {z : Int} {n : Nat} (h : z.natAbs < D9 ^ n) (hn : n ≤ 2000) : z.natAbs < Top := (nine_fit h rfl).top (by omega)

end Go.Proofs.YtepddegphdlbeaaGreat

/- The reference's Content and Primitive. -/
namespace Go.Proofs.YtepddegphdlbeaaGreat
open Go.RowKit

theorem Sz.prim {n : Nat} {p : List Int} (s : Sz n p) : Sz n (Pl.prim p) := fun k => by
  rw [Pl.cf_prim]
  exact Nat.lt_of_le_of_lt (Int.natAbs_ediv_le_natAbs _ _) (s k)

end Go.Proofs.YtepddegphdlbeaaGreat

/- The reference's Primitive. -/
namespace Go.Proofs.YtepddegphdlbeaaGreat
open Go.RowKit

end Go.Proofs.YtepddegphdlbeaaGreat

/- The reference's Derive. -/
namespace Go.Proofs.YtepddegphdlbeaaGreat
open Go.RowKit

end Go.Proofs.YtepddegphdlbeaaGreat

/- A block of the call's own that holds a polynomial of the reference. -/
namespace Go.Proofs.YtepddegphdlbeaaGreat
open Go.RowKit

/-- A block of the call's own whose cells hold these integers. -/
def Ap (w : World) (g : Nat) (p : List Int) : Prop := ∃ us : List Value, us.length = p.length ∧ w.heap[g]? = some (.cells (rv p us).toArray 52 (0, 0)) ∧ ∀ k (h : k < us.length) (h2 : k < p.length), Rz w us[k] p[k]
theorem Ap.lt {w : World} {g : Nat} {p : List Int} (h : Ap w g p) : g < w.heap.size := by obtain ⟨us, _, h, _⟩ := h; exact lt_of_block h
theorem Ap.cell {w : World} {g : Nat} {p : List Int} (h : Ap w g p) (k : Nat) (hk : k < p.length) : ∃ u, w.cell? ⟨g, k * 2, none⟩ = some (.bool (decide (p[k] < 0))) ∧ w.cell? ⟨g, k * 2 + 1, none⟩ = some u ∧ Rz w u p[k] := by
  obtain ⟨us, hl, h, hz⟩ := h
  obtain ⟨h1, h2⟩ := rv_get hl k hk
  exact ⟨us[k], by rw [cell_of_row w g _ _ _ _ h, List.getElem?_toArray]; exact h1, by rw [cell_of_row w g _ _ _ _ h, List.getElem?_toArray]; exact h2, hz k (by omega) hk⟩
theorem Ap.free {w : World} {g : Nat} {p : List Int} (h : Ap w g p) (k : Nat) : w.frozen? ⟨g, k, none⟩ = false := by obtain ⟨us, _, h, _⟩ := h; exact frozen_of_row w g k _ _ h
theorem Ap.below {w w' : World} {g : Nat} {p : List Int} (h : Ap w g p) (hb : Below w.heap.size w w') : Ap w' g p := by
  obtain ⟨us, hl, h, hz⟩ := h
  exact ⟨us, hl, (hb.block g (lt_of_block h)).trans h, fun k h1 h2 => (hz k h1 h2).below hb⟩
theorem Ap.row {w : World} {g B n : Nat} {p : List Int} (h : Ap w g p) (hB : B ≤ g) (hn : p.length = n) (hm : n ≤ maxLen) : RowP w B (.slice (some ⟨g, 0, none⟩) n n) p := by
  obtain ⟨us, hl, h, hz⟩ := h
  subst hn
  refine ⟨us, hl, ⟨rv_length hl, Or.inr ⟨g, p.length, _, rfl, hB, h, Nat.le_refl _, hm, ?_, ?_⟩⟩, hz⟩
  · simp [rv_length hl]
  · simp only [List.toList_toArray]
    rw [List.take_of_length_le (by rw [rv_length hl]; exact Nat.le_refl _)]
theorem rv_set {p : List Int} {us : List Value} (h : us.length = p.length) (k : Nat) (z : Int) (u : Value) : ((rv p us).set (k * 2) (.bool (decide (z < 0)))).set (k * 2 + 1) u = rv (p.set k z) (us.set k u) := by
  induction p generalizing us k with
  | nil => cases us with
    | nil => rfl
    | cons u us => simp at h
  | cons y p ih =>
    cases us with
    | nil => simp at h
    | cons x us =>
      cases k with
      | zero => rfl
      | succ k =>
        have h2 : us.length = p.length := by simpa using h
        rw [show (k + 1) * 2 = k * 2 + 1 + 1 by omega]
        simp only [rv, List.set_cons_succ]
        rw [ih h2]
theorem Rz.set {w : World} {v old u : Value} {z : Int} {p : Addr} (h : Rz w v z) (hp : w.cell? p = some old) (hno : ∀ n, old ≠ .int .i64 n) : Rz (w.setCell p u) v z := by
  obtain ⟨q, b, off, cap, h1, h2, h3, h4, h5, h6⟩ := h
  refine ⟨q, b, off, cap, h1, h2, h3, h4, h5.imp id (fun g => ⟨g.1, g.2.set _ _⟩), fun k hk => ?_⟩
  rw [World.cell?_setCell_other]
  · exact h6 k hk
  · intro e
    subst e
    rw [h6 k hk] at hp
    exact hno _ (Option.some.inj hp).symm
theorem Ap.set {w : World} {g : Nat} {p : List Int} {z : Int} {u : Value} (h : Ap w g p) (k : Nat) (hk : k < p.length) (hu : Rz w u z) : Ap ((w.setCell ⟨g, k * 2, none⟩ (.bool (decide (z < 0)))).setCell ⟨g, k * 2 + 1, none⟩ u) g (p.set k z) := by
  obtain ⟨u0, g0, g1, g2⟩ := h.cell k hk
  obtain ⟨us, hl, h, hz⟩ := h
  have h1 := heap_setCell_same w g (k * 2) _ _ (.bool (decide (z < 0))) h
  have h2 := heap_setCell_same _ g (k * 2 + 1) _ _ u h1
  have hs : ∀ {v' : Value} {z' : Int}, Rz w v' z' → Rz ((w.setCell ⟨g, k * 2, none⟩ (.bool (decide (z < 0)))).setCell ⟨g, k * 2 + 1, none⟩ u) v' z' := fun h' =>
    (h'.set (u := .bool (decide (z < 0))) g0 (fun _ => by simp)).set (old := u0) ((World.cell?_setCell_other w ⟨g, k * 2, none⟩ ⟨g, k * 2 + 1, none⟩ (.bool (decide (z < 0))) (by simp)).trans g1) g2.noint
  refine ⟨us.set k u, by simp [hl], h2.trans ?_, fun j h3 h4 => ?_⟩
  · rw [← rv_set hl]
    simp
  · by_cases e : j = k
    · subst e
      have e1 : (us.set j u)[j]'h3 = u := by simp
      have e2 : (p.set j z)[j]'h4 = z := by simp
      rw [e1, e2]
      exact hs hu
    · have e1 : (us.set k u)[j]'h3 = us[j]'(by simpa using h3) := by rw [List.getElem_set_ne (Ne.symm e)]
      have e2 : (p.set k z)[j]'h4 = p[j]'(by simpa using h4) := by rw [List.getElem_set_ne (Ne.symm e)]
      rw [e1, e2]
      exact hs (hz j _ _)
theorem Ap.stored {w : World} {g : Nat} {p : List Int} (h : Ap w g p) (k : Nat) (hk : k < p.length) {v : Value} {z : Int} (hv : Rz w v z) (x : Value) (u : Value) : Rz ((w.setCell ⟨g, k * 2, none⟩ x).setCell ⟨g, k * 2 + 1, none⟩ u) v z := by
  obtain ⟨u0, g0, g1, g2⟩ := h.cell k hk
  exact (hv.set (u := x) g0 (fun _ => by simp)).set (old := u0) ((World.cell?_setCell_other w ⟨g, k * 2, none⟩ ⟨g, k * 2 + 1, none⟩ x (by simp)).trans g1) g2.noint
theorem Ap.made (w : World) (n : Nat) : Ap (w.alloc (.cells (rv (List.replicate n 0) (List.replicate n (.slice none 0 0))).toArray 52)) w.heap.size (List.replicate n 0) :=
  ⟨List.replicate n (.slice none 0 0), by simp, heap_alloc_new w _, fun k h1 h2 => by
    have e1 : (List.replicate n (Value.slice none 0 0))[k]'h1 = .slice none 0 0 := by simp
    have e2 : (List.replicate n (0 : Int))[k]'h2 = 0 := by simp
    rw [e1, e2]
    exact rz_zero _⟩
end Go.Proofs.YtepddegphdlbeaaGreat

/- The reference's Rest. -/
namespace Go.Proofs.YtepddegphdlbeaaGreat
open Go.RowKit

end Go.Proofs.YtepddegphdlbeaaGreat

/- PolyScales gives true for all inputs. -/
namespace Go.Proofs.YtepddegphdlbeaaGreat
open Go.RowKit

end Go.Proofs.YtepddegphdlbeaaGreat

/- PolyComposes gives true for all inputs. -/
namespace Go.Proofs.YtepddegphdlbeaaGreat
open Go.RowKit

theorem sz16 {b : Bool} {s : ByteArray} (hv : vld b s = true) (hl : s.size ≤ 16) {M : Nat} (hM : M = 16) : (sg b (bv s)).natAbs < D9 ^ M := by
  subst hM
  have h1 := bvk (k := 16) rfl hl
  have h2 : (sg b (bv s)).natAbs = bv s := by unfold sg; split <;> omega
  rw [h2]
  exact Nat.lt_of_lt_of_le h1 (Nat.pow_le_pow_left (by decide) 16)
theorem glb3_16 {a b c : Int} {B : Int} (h1 : lenV (zb a) (zs a) ≤ B) (h2 : lenV (zb b) (zs b) ≤ B) (h3 : lenV (zb c) (zs c) ≤ B) (hB : 0 ≤ B) : glb [(zb a, zs a), (zb b, zs b), (zb c, zs c)] ≤ B := by
  refine glb_le _ B hB ?_
  intro x hx
  simp only [List.mem_cons, List.mem_nil_iff, or_false] at hx
  rcases hx with rfl | rfl | rfl <;> assumption
theorem ckc_bad {L : List (Bool × ByteArray)} {a b d : Bool} {s t u : ByteArray} (h : (vldP L && vld a s && vld b t && vld d u) = false) : ckc L a s b t d u = 2 := by
  unfold ckc; rw [h]; rfl

theorem pco_good (p : List Int) (v : Value) (b1 b2 b3 : Bool) (s1 s2 s3 : ByteArray) (w : World) (h : Rp w v p) (hp : VP p) (g : shP (zl p) = true) (hz : Lim (zl p)) (l1 : s1.size ≤ 16) (l2 : s2.size ≤ 16) (l3 : s3.size ≤ 16)
    (v1 : vld b1 s1 = true) (v2 : vld b2 s2 = true) (v3 : vld b3 s3 = true) :
    Calls Tryz.prog 7 #[v, .agg #[.bool b1, .string s1], .agg #[.bool b2, .string s2], .agg #[.bool b3, .string s3]] w (Ret (.bool true) w) := by
  have sp := shP_sz g
  obtain ⟨N, hN⟩ : ∃ N : Nat, N = 16 := ⟨_, rfl⟩
  rw [← hN] at sp
  have lp := shP_14 g hp.len
  have sm := zl_small hp.top
  have HS := fun w' (hb : Below w.heap.size w w') => k_short1 (h.below hb) hz true g
  have HV := fun w' (hb : Below w.heap.size w w') => k_valid1 (h.below hb) sm true hp.ok
  have HW1 := fun w' => rvalid_any b1 s1 w' (by omega)
  have HW2 := fun w' => rvalid_any b2 s2 w' (by omega)
  have HW3 := fun w' => rvalid_any b3 s3 w' (by omega)
  rw [v1] at HW1
  rw [v2] at HW2
  rw [v3] at HW3
  have HG1 := fun w' => rfrom_any b1 s1 w' (by omega)
  have HG2 := fun w' => rfrom_any b2 s2 w' (by omega)
  have HG3 := fun w' => rfrom_any b3 s3 w' (by omega)
  have z1 := zb_sg v1
  have z2 := zb_sg v2
  have z3 := zb_sg v3
  have a1 := sz16 v1 l1 hN
  have a2 := sz16 v2 l2 hN
  have a3 := sz16 v3 l3 hN
  have sgd := sgV_sg v3
  have ht : lenV b1 s1 ≤ 200 ∧ lenV b2 s2 ≤ 200 ∧ lenV b3 s3 ≤ 200 := by
    have t1 := lenV_16 (z := sg b1 (bv s1)) (by rw [z1.2]; exact l1) (top_of a1 (by omega))
    have t2 := lenV_16 (z := sg b2 (bv s2)) (by rw [z2.2]; exact l2) (top_of a2 (by omega))
    have t3 := lenV_16 (z := sg b3 (bv s3)) (by rw [z3.2]; exact l3) (top_of a3 (by omega))
    rw [z1.1, z1.2] at t1
    rw [z2.1, z2.2] at t2
    rw [z3.1, z3.2] at t3
    exact ⟨t1, t2, t3⟩
  generalize sg b1 (bv s1) = a at *
  generalize sg b2 (bv s2) = b at *
  generalize sg b3 (bv s3) = d at *
  obtain ⟨rfl, rfl⟩ := z1
  obtain ⟨rfl, rfl⟩ := z2
  obtain ⟨rfl, rfl⟩ := z3
  have HSg := fun u w' (hu : Rz w' u d) => rsign_int d u w' hu
  have q1 : (zs a).size ≤ 140737488351232 := by omega
  have q2 : (zs b).size ≤ 140737488351232 := by omega
  have q3 : (zs d).size ≤ 140737488351232 := by omega
  have vv : (vldP (zl p) && vld (zb a) (zs a) && vld (zb b) (zs b) && vld (zb d) (zs d)) = true := by rw [hp.ok, v1, v2, v3]; rfl
  by_cases hd : d.sign ≤ 0
  · have hc : ckc (zl p) (zb a) (zs a) (zb b) (zs b) (zb d) (zs d) = 3 := by
      unfold ckc; rw [if_pos vv, sgd, if_pos hd]
    exact pco_neg (zl p) a b d d.sign v _ _ _ _ _ _ w h (by omega) (by omega) (by omega) HS l1 l2 l3 (fun w' hb => Compose_bad (zl p) v _ _ _ _ _ _ 3 w' (h.below hb) sm q1 q2 q3 hc (by decide)) HV HW1 HW2 HW3 HG3 HSg hd
  · have hg3 := glb3_16 ht.1 ht.2.1 ht.2.2 (by decide)
    have hgp := shP_glb g hp
    have hc : ckc (zl p) (zb a) (zs a) (zb b) (zs b) (zb d) (zs d) = 0 := by
      unfold ckc; rw [if_pos vv, sgd, if_neg hd, if_neg]
      unfold tlg
      rw [zl_length]
      simp only [decide_eq_true_eq]
      intro ⟨_, h2⟩
      have h3 : ((p.length : Int) - 1) * (glb [(zb a, zs a), (zb b, zs b), (zb d, zs d)] + 1) ≤ 14 * 201 := by
        have hb1 := glb_bd [(zb a, zs a), (zb b, zs b), (zb d, zs d)]
        have e1 : ((p.length : Int) - 1) * (glb [(zb a, zs a), (zb b, zs b), (zb d, zs d)] + 1) ≤ 14 * (glb [(zb a, zs a), (zb b, zs b), (zb d, zs d)] + 1) := Int.mul_le_mul_of_nonneg_right (by omega) (by omega)
        omega
      omega
    have sT : Sz 600 (Pl.trim (Pl.comp a b (Pl.lev p d))) := by
      rw [← sfm_comp]
      refine (sfm_sz sp a3 a1 a2 p.length (Nat.le_refl _) (by omega)).mono ?_
      have m1 : N * p.length ≤ 16 * 14 := by rw [hN]; exact Nat.mul_le_mul_left 16 lp
      have m2 : p.length * (N + 1) ≤ 14 * 17 := by rw [hN]; exact Nat.mul_le_mul_right 17 lp
      omega
    have lT : (Pl.trim (Pl.comp a b (Pl.lev p d))).length ≤ 25 := Nat.le_trans (Pl.trim_length _) (by rw [Pl.comp_length, Pl.lev_length]; omega)
    have m1 : N * p.length ≤ 16 * 14 := by rw [hN]; exact Nat.mul_le_mul_left 16 lp
    have m2 : p.length * (N + 1) ≤ 14 * 17 := by rw [hN]; exact Nat.mul_le_mul_right 17 lp
    exact pco_ok (zl p) a b d d.sign p _ v _ _ _ _ _ _ w h (by omega) (by omega) (by omega) HS l1 l2 l3 (fun w' hb => Compose_z p v a b d w' (h.below hb) hp (top_of a1 (by omega)) (top_of a2 (by omega)) (top_of a3 (by omega)) hc) HV HW1 HW2 HW3 HG3 HSg (by omega) HG1 HG2
      (fun w' hb => rFrom2_any p v w' (h.below hb) (by omega) hp.top)
      (fun w' x ua ub ud hx ha hb hd => rCompose_any N N N p a b d x ua ub ud w' hx ha hb hd (by omega) sp a1 a2 a3 (by omega) (by omega) (by omega))
      (fun w' v x hv hx => same_true2 _ v x w' hv hx lT (sT.top (by decide)) (sT.len9 (by decide)))

theorem pco_any (L : List (Bool × ByteArray)) (v : Value) (b1 b2 b3 : Bool) (s1 s2 s3 : ByteArray) (w : World) (h : Rw w v L) (z : Lim L) (z1 : s1.size ≤ 9223372036854775807) (z2 : s2.size ≤ 9223372036854775807) (z3 : s3.size ≤ 9223372036854775807) :
    Calls Tryz.prog 7 #[v, .agg #[.bool b1, .string s1], .agg #[.bool b2, .string s2], .agg #[.bool b3, .string s3]] w (Ret (.bool true) w) := by
  cases hs : shP L with
  | false => exact pco_long0 L v _ _ _ _ _ _ w h z1 z2 z3 (fun w' hb => k_short1 (h.below hb) z _ hs)
  | true =>
    have HS := fun w' (hb : Below w.heap.size w w') => k_short1 (h.below hb) z _ hs
    by_cases l1 : s1.size ≤ 16
    · by_cases l2 : s2.size ≤ 16
      · by_cases l3 : s3.size ≤ 16
        · have sm := shP_small hs
          have HC := fun hbad w' (hb : Below w.heap.size w w') => Compose_bad L v b1 b2 b3 s1 s2 s3 2 w' (h.below hb) sm (by omega) (by omega) (by omega) (ckc_bad hbad) (by decide)
          have HW1 := fun w' => rvalid_any b1 s1 w' (by omega)
          have HW2 := fun w' => rvalid_any b2 s2 w' (by omega)
          have HW3 := fun w' => rvalid_any b3 s3 w' (by omega)
          have HV := fun w' (hb : Below w.heap.size w w') => k_valid1 (h.below hb) sm _ rfl
          cases hv : vldP L with
          | false =>
            rw [hv] at HV
            exact pco_bad0 L v _ _ _ _ _ _ w h z1 z2 z3 HS l1 l2 l3 (HC (by rw [hv]; rfl)) HV
          | true =>
            rw [hv] at HV
            cases v1 : vld b1 s1 with
            | false =>
              rw [v1] at HW1
              exact pco_bad1 L v _ _ _ _ _ _ w h z1 z2 z3 HS l1 l2 l3 (HC (by rw [hv, v1]; rfl)) HV HW1
            | true =>
              rw [v1] at HW1
              cases v2 : vld b2 s2 with
              | false =>
                rw [v2] at HW2
                exact pco_bad2 L v _ _ _ _ _ _ w h z1 z2 z3 HS l1 l2 l3 (HC (by rw [hv, v1, v2]; rfl)) HV HW1 HW2
              | true =>
                rw [v2] at HW2
                cases v3 : vld b3 s3 with
                | false =>
                  rw [v3] at HW3
                  exact pco_bad3 L v _ _ _ _ _ _ w h z1 z2 z3 HS l1 l2 l3 (HC (by rw [hv, v1, v2, v3]; rfl)) HV HW1 HW2 HW3
                | true =>
                  obtain ⟨p, hp, rfl⟩ := VP.of hv
                  exact pco_good p v _ _ _ _ _ _ w h hp hs z l1 l2 l3 v1 v2 v3
        · exact pco_long3 L v _ _ _ _ _ _ w h z1 z2 z3 HS l1 l2 (by omega)
      · exact pco_long2 L v _ _ _ _ _ _ w h z1 z2 z3 HS l1 (by omega)
    · exact pco_long1 L v _ _ _ _ _ _ w h z1 z2 z3 HS (by omega)
end Go.Proofs.YtepddegphdlbeaaGreat

/- What comes in and goes out: wide integers and ratios. -/
namespace Go.Proofs.YtepddegphdlbeaaGreat
open Go.ChangeShapes Go.WideShapes Go.ChangeAt Go.RowKit Go.Joins
open Go.ChangeMaps (open_string shut_string)

theorem Tryz.own : ownKnob Tryz.prog.godebug = none := by kernel_rfl
theorem Tryz.cellsWide : Tryz.prog.cellsOf 44 = 2 := by kernel_rfl

set_option maxRecDepth 100000 in
/-- A wide integer that came in. -/
theorem open_wide {H : Type} {enc : TypeId × Value → H} {w : World} {base : Nat} {b0 : Nat} {spare : Nat → Bool} {held : Bool} {r : Reach} {v : Value} {d : DataW H} {p : List MemPlace}
    (hv : Value.okWide Tryz.prog w r b0 44 v) (h : DataW.Trod enc Tryz.prog w base spare held 44 v d p) :
    ∃ (a : Bool) (s : ByteArray), v = .agg #[.bool a, .string s] ∧ d = .agg [.lit (.bool a), .lit (.string s.data.toList)] ∧ p = [] ∧ s.size ≤ maxLen := by
  obtain ⟨c0, c1, y0, y1, m, rfl, rfl, rfl, hy0, hy1⟩ := open_agg2 Tryz.underlying44 (by kernel_rfl) Tryz.cellsWide hv h
  obtain ⟨a, e0, rfl⟩ := DataW.trod_bool Tryz.underlying4 hy0
  obtain ⟨s, e1, rfl, hs⟩ := DataW.trod_string Tryz.underlying9 hy1
  simp at e0 e1
  subst e0 e1
  exact ⟨a, s, rfl, rfl, rfl, hs⟩
theorem shut_wide {H : Type} {enc : TypeId × Value → H} {w : World} {base : Nat} {spare : Nat → Bool} {held : Bool} {a : Bool} {s : ByteArray} (hs : s.size ≤ maxLen) :
    DataW.Trod enc Tryz.prog w base spare held 44 (.agg #[.bool a, .string s]) (.agg [.lit (.bool a), .lit (.string s.data.toList)]) [] :=
  shut_agg2 (y0 := (.lit (.bool a), [])) (y1 := (.lit (.string s.data.toList), [])) Tryz.underlying44 (by kernel_rfl) Tryz.cellsWide ⟨1, by simp [DataW.trod, Tryz.underlying4]⟩ ⟨1, by simp [DataW.trod, Tryz.underlying9, hs]⟩

end Go.Proofs.YtepddegphdlbeaaGreat

/- What comes in and goes out: a polynomial, a list of ints. -/
namespace Go.Proofs.YtepddegphdlbeaaGreat
open Go.ChangeShapes Go.WideShapes Go.ChangeAt Go.RowKit Go.Joins Go.Deep
open Go.ChangeMaps (open_string shut_string)

theorem choose_lt2 {α : Type} [Inhabited α] {m : Nat} {P : Nat → α → Prop} (h : ∀ i, i < m → ∃ x, P i x) : ∃ f : Nat → α, ∀ i, i < m → P i (f i) :=
  ⟨fun i => if hi : i < m then (h i hi).choose else default, fun i hi => by show P i (dite _ _ _); rw [dif_pos hi]; exact (h i hi).choose_spec⟩

set_option maxRecDepth 100000 in
/-- A polynomial that came in: it reads as a list, and so behind the call. -/
theorem open_poly {H : Type} {enc : TypeId × Value → H} {W : World} {b0 : Nat} {r : Reach} {v : Value} {d : DataW H} {p : List MemPlace}
    (hv : Value.okWide Tryz.prog W r b0 23 v) (h : DataW.Trod enc Tryz.prog W 0 (fun _ => true) true 23 v d p) :
    ∃ L : List (Bool × ByteArray), Rw W v L ∧ Lim L ∧ ∀ W', Below W.heap.size W W' → DataW.Trod enc Tryz.prog W' 0 (fun b => decide (b < W.heap.size)) true 23 v d p := by
  have hu := Tryz.underlying23
  have he := Tryz.underlying44
  have c2 : Tryz.prog.cellsOf 44 = 2 := Tryz.cellsWide
  have cb : Tryz.prog.cellsOf 4 = 1 := by kernel_rfl
  have cs : Tryz.prog.cellsOf 9 = 1 := by kernel_rfl
  obtain ⟨a0, len0, cap0, rfl⟩ := okWide_slice hu hv
  obtain ⟨fuel, hf⟩ := h
  rcases open_slice_pairs hu he c2 rfl rfl cb cs hf with ⟨hcs, hx⟩ | ⟨a, len, cap, m, n, V0, V1, D0, D1, P0, P1, hcs, hb, hl, hm, hmm, hx, hall⟩
  · simp [Value.cells] at hcs
    obtain ⟨rfl, rfl, rfl⟩ := hcs
    simp only [Prod.mk.injEq] at hx
    obtain ⟨rfl, rfl⟩ := hx
    exact ⟨[], Rw.nil W, fun x hx => (nomatch hx), fun W' _ => shut_slice_nil hu⟩
  · simp [Value.cells] at hcs
    obtain ⟨rfl, rfl, rfl⟩ := hcs
    simp only [if_true] at hmm
    subst hmm
    simp only [Prod.mk.injEq] at hx
    obtain ⟨rfl, rfl⟩ := hx
    rcases Nat.eq_zero_or_pos m with h0 | h0
    · subst h0
      have hl0 : len0 = 0 := by omega
      subst hl0
      refine ⟨[], ⟨some a, 0, 0, 0, rfl, Nat.le_refl _, hm, fun h => absurd rfl h, fun k h => absurd h (by simp)⟩, fun x hx => (nomatch hx), fun W' _ => ?_⟩
      have hno : ∀ i, i < 0 → False := fun i hi => absurd hi (Nat.not_lt_zero _)
      cases hsp : decide (a.block < W.heap.size) with
      | true =>
        obtain ⟨n, key⟩ := shut_slice_whole_cells (enc := enc) (w := W') (base := 0) (spare := fun b => decide (b < W.heap.size)) (held := true) (a := a) (len := 0) (cap := 0) hu (Nat.zero_le _) (Nat.le_refl _) hm hsp (fun i => .agg [D0 i, D1 i]) (fun i => P0 i ++ P1 i) (fun i hi => (hno i hi).elim)
        exact ⟨n, by simpa [Value.cells, MemPlace.row] using key⟩
      | false =>
        obtain ⟨n, key⟩ := shut_slice_cells (enc := enc) (w := W') (base := 0) (spare := fun b => decide (b < W.heap.size)) (held := true) (a := a) (len := 0) (cap := 0) hu (Nat.zero_le _) (Nat.le_refl _) hm hsp (fun i => .agg [D0 i, D1 i]) (fun i => P0 i ++ P1 i) (fun i hi => (hno i hi).elim)
        exact ⟨n, by simpa [Value.cells, MemPlace.row] using key⟩
    · obtain ⟨ab, ao, spot⟩ := a
      have hspot : spot = none := by simpa [Addr.add] using World.cell?_spot (hall 0 h0).1
      subst hspot
      have hboth : ∀ i, i < m → ∃ q : Bool × ByteArray, V0 i = .bool q.1 ∧ V1 i = .string q.2 ∧ D0 i = .lit (.bool q.1) ∧ D1 i = .lit (.string q.2.data.toList) ∧ P0 i = [] ∧ P1 i = [] ∧ q.2.size ≤ maxLen := fun i hi => by
        obtain ⟨x, e0, e1⟩ := DataW.trod_bool Tryz.underlying4 (hall i hi).2.2.1
        obtain ⟨s, e2, e3, hs⟩ := DataW.trod_string Tryz.underlying9 (hall i hi).2.2.2
        simp at e0 e2
        simp only [Prod.mk.injEq] at e1 e3
        exact ⟨(x, s), e0, e2, e1.1, e3.1, e1.2, e3.2, hs⟩
      obtain ⟨q, hq⟩ := choose_lt2 hboth
      have hlt : ab < W.heap.size := by
        have := World.block_lt_of_cell? W _ (hall 0 h0).1
        simpa [Addr.add] using this
      refine ⟨(List.range len0).map q, ⟨some ⟨ab, ao, none⟩, ab, ao, m, by simp, by simpa using hl, hm, fun _ => rfl, fun k hk => ?_⟩, fun x hx => ?_, fun W' hb' => ?_⟩
      · have hk' : k < len0 := by simpa using hk
        have h1 := (hall k (by omega)).1
        have h2 := (hall k (by omega)).2.1
        rw [(hq k (by omega)).1] at h1
        rw [(hq k (by omega)).2.1] at h2
        rw [add_plain] at h1 h2
        simp only [List.getElem_map, List.getElem_range]
        exact ⟨h1, by simpa [Nat.add_assoc] using h2⟩
      · obtain ⟨i, hi, rfl⟩ := List.mem_map.1 hx
        have hi' := List.mem_range.1 hi
        have := (hq i (by omega)).2.2.2.2.2.2
        unfold maxLen at this
        omega
      · have key := shut_slice_pairs_whole (enc := enc) (w := W') (base := 0) (spare := fun b => decide (b < W.heap.size)) (held := true) hu he c2 rfl rfl cb cs (b := ab) (off := ao) (len := len0) (cap := m) (Nat.zero_le _) hl hm (by simpa using hlt)
          V0 V1 D0 D1 P0 P1
          (fun i hi => by have h1 := (hall i hi).1; rw [add_plain] at h1; exact at_old hb' h1)
          (fun i hi => by have h1 := (hall i hi).2.1; rw [add_plain] at h1; exact at_old hb' (by simpa [Nat.add_assoc] using h1))
          (fun i hi => by
            obtain ⟨e1, e2, e3, e4, e5, e6, e7⟩ := hq i hi
            exact ⟨1, by rw [e1, e3, e5]; simp [DataW.trod, Tryz.underlying4]⟩)
          (fun i hi => by
            obtain ⟨e1, e2, e3, e4, e5, e6, e7⟩ := hq i hi
            exact ⟨1, by rw [e2, e4, e6]; simp [DataW.trod, Tryz.underlying9, e7]⟩)
        obtain ⟨n, key⟩ := key
        exact ⟨n, by simpa [Value.cells] using key⟩
end Go.Proofs.YtepddegphdlbeaaGreat

/- PolyComposes gives true for all polynomials and integers (P2.5), and leaves its arguments as they were. No condition. -/
namespace Go.Proofs.YtepddegphdlbeaaGreat
open Go.ChangeShapes Go.WideShapes Go.ChangeAt Go.RowKit Go.Joins
open Go.ChangeMaps (open_string shut_string)

set_option maxRecDepth 100000 in
theorem pcomposes_lifted (os : Os) (started : os.Started) (H : Type) (enc : TypeId × Value → H) :
    ReturnsInHanded {} Tryz.checked os 7 .any (Rows.polyComposesSpec.pre6 enc Tryz.prog Tryz.f7 Rows.polyComposesRow.domain false) (Rows.polyComposesSpec.post enc Tryz.prog Tryz.f7 false true false false) := by
  refine returnsInHanded_of_change (C := Tryz.checked) Tryz.own started (by kernel_rfl) Tryz.func7
    (ChangeSpec.witness6 (enc := enc) (C := Tryz.checked) false ⟨#[], #[.slice none 0 0, .agg #[.bool false, .string ⟨#[]⟩], .agg #[.bool false, .string ⟨#[]⟩], .agg #[.bool false, .string ⟨#[]⟩]], []⟩ 8 (by kernel_rfl) (by kernel_rfl) (by kernel_rfl) (by kernel_rfl)) ?_
  intro W base args ds gs before hval0 hW hcnd _
  have hval : ∀ (j : Nat) t v, Tryz.f7.params[j]? = some t → args[j]? = some v → Value.okWide Tryz.prog W .any base t v := hval0
  have hW' := hW
  obtain ⟨p, q, hA0, hV, rfl, hfz, hnd⟩ := hW
  have hA : DataW.TrodAll enc Tryz.prog W 0 (fun _ => true) true Tryz.f7.params.toList args.toList ds p := hA0
  rw [Tryz.params7] at hA hval
  obtain ⟨v0, v1, v2, v3, d0, d1, d2, d3, p0, p1, p2, p3, rfl, rfl, rfl, h0, h1, h2, h3⟩ := trodAll_four hA
  obtain ⟨rfl, rfl⟩ := trodVars_none hV
  obtain ⟨L0, r0, z0, t0⟩ := open_poly (hval 0 23 v0 rfl rfl) h0
  obtain ⟨b1, s1, rfl, rfl, rfl, hs1⟩ := open_wide (hval 1 44 v1 rfl rfl) h1
  obtain ⟨b2, s2, rfl, rfl, rfl, hs2⟩ := open_wide (hval 2 44 v2 rfl rfl) h2
  obtain ⟨b3, s3, rfl, rfl, rfl, hs3⟩ := open_wide (hval 3 44 v3 rfl rfl) h3
  clear hA0 hval0
  refine (pco_any L0 v0 b1 b2 b3 s1 s2 s3 W r0 z0 (by unfold maxLen at hs1; omega) (by unfold maxLen at hs2; omega) (by unfold maxLen at hs3; omega)).mono fun e W' ⟨he, bel⟩ => ?_
  subst he
  exact ⟨_, rfl, _, _, _, [], _, [], hW', trodAll_mk1 (shut_bool Tryz.underlying4 _), trodAll_mk4 (t0 W' bel) (shut_wide hs1) (shut_wide hs2) (shut_wide hs3), rfl, bel.frame _, fun h => by cases h⟩

/-- The statement. -/
theorem pcomposes_holds : Rows.PolyComposesSaid :=
  OpenClaim.holds_of_wide 7 Tryz.f7 rfl rfl rfl rfl rfl rfl rfl ⟨rfl, rfl, rfl, rfl, rfl⟩ rfl rfl rfl rfl rfl (by kernel_rfl) Tryz.func7 (by kernel_rfl)
    (of_decide_eq_true (by kernel_rfl)) (by unfold Func.isWrapper; first | (rw [if_pos (by decide +kernel)]; kernel_rfl) | (rw [if_neg (by decide +kernel)]; exact ⟨rfl, rfl⟩))
    (fun os started H enc _ => pcomposes_lifted os started H enc)
#print axioms pcomposes_holds
end Go.Proofs.YtepddegphdlbeaaGreat
