/- What the theorem leans on, part Y4. -/
import Derived.Test.YtepddegphdlbeaaGreatY3
import Derived.Test.YtepddegphdlbeaaGreatY2
import Derived.Test.YtepddegphdlbeaaGreatY1
import Derived.Test.YtepddegphdlbeaaGreatY0
import Derived.Test.YtepddegphdlbeaaGreatProg
import Derived.WalkKit
import Derived.WalkSpells
import Derived.WalkLawsBesides
import Derived.Lib.Hide
import Derived.Deep.QuietTactic
import Derived.BigQuiet
import Derived.Shelf.Small.Bits
import Derived.Shelf.Small.Wraps
import Derived.Shelf.Strconv.Itoa0
import Derived.Shelf.Bits.Mul64
import Derived.Ground.Names2Prog
import Derived.Shelf.Slices.SearchI
import Derived.Shelf.Spec.BitsCarry
import Derived.Deep.LoopGhost
import Derived.Deep.RegionHeld3
import Derived.Deep.DeepCutAuto
set_option maxRecDepth 100000
set_option maxHeartbeats 16000000
set_option linter.all false
namespace Go.Proofs.YtepddegphdlbeaaGreat
open Go.RowKit
theorem k'5s {a : Bool} {m n : Nat} (h0 : 0 < n) : eq1 a m n ≤ m := by
 unfold eq1
 split
 ·next h =>
  have h1 := Nat.div_add_mod m n;have h2 := Nat.mod_lt m h0;have h3 : 2 ≤ n := by omega
  have h4 : 2 * (m / n) ≤ n * (m / n) := Nat.mul_le_mul_right _ h3;omega
 ·exact Nat.div_le_self _ _
theorem k'5t {a : Bool} {m n : Nat} (h0 : 0 < n) : er1 a m n < n := by
 have h2 := Nat.mod_lt m h0;unfold er1
 split <;> omega
def ZC (x y : Value) (w : World) (g : Nat) : Prop := w.cell? ⟨g,0,none⟩ = some x ∧ w.cell? ⟨g,1,none⟩ = some y ∧ w.frozen? ⟨g,0,none⟩ = false ∧ w.frozen? ⟨g,1,none⟩ = false
theorem ZC.next {x y : Value} {w2 w3 : World} {g : Nat} (h : ZC x y w2 g) (b : Below w2.heap.size w2 w3) : ZC x y w3 g := ⟨k'4i b h.1,k'4i b h.2.1,k'4j b h.1 h.2.2.1,k'4j b h.2.1 h.2.2.2⟩
theorem ZC.made {x y : Value} {w2 w3 : World} {t : TypeId} {g : Nat} (hg : w2.heap.size = g) (b3 : Below (w2.alloc (.cells #[x,y] t)).heap.size (w2.alloc (.cells #[x,y] t)) w3) : ZC x y w3 g := by
 subst hg;exact ⟨k'4i b3 (by simp [go_sem]),k'4i b3 (by simp [go_sem]),k'4j b3 (v := x) (by simp [go_sem]) (by simp [go_sem]),k'4j b3 (v := y) (by simp [go_sem]) (by simp [go_sem])⟩
theorem ZC.made1 {x y : Value} {w2 w3 : World} {t : TypeId} {o : Obj} {g : Nat} (hg : w2.heap.size = g) (b3 : Below ((w2.alloc (.cells #[x,y] t)).alloc o).heap.size ((w2.alloc (.cells #[x,y] t)).alloc o) w3) : ZC x y w3 g :=
 ZC.made hg (((Below.refl _ _).alloc (Nat.le_refl _) _).trans (b3.mono (by simp)))
theorem k'5u (w : World) (o : Obj) : Below w.heap.size w (w.alloc o) := (Below.refl _ _).alloc (Nat.le_refl _) _
theorem k'5v (w : World) (o o2 : Obj) : Below w.heap.size w ((w.alloc o).alloc o2) := ((Below.refl _ _).alloc (Nat.le_refl _) _).alloc (by simp) _
theorem k'5w {a x : Nat} (h : a + 4 ≤ x) : ¬(x = a) ∧ ¬(x = a+1) ∧ ¬(a = x) ∧ ¬(a+1 = x) ∧ ¬(x+1 = a) ∧ ¬(a = x+1) ∧ a < x ∧ a+1 < x := ⟨by omega,by omega,by omega,by omega,by omega,by omega,by omega,by omega⟩
def Apart (x y : Nat) : Prop := ¬(x = y) ∧ ¬(y = x) ∧ x < y
theorem k'5x {w2 w3 : World} {o : Obj} {g : Nat} (hg : w2.heap.size = g) (b : Below (w2.alloc o).heap.size (w2.alloc o) w3) : Apart g w3.heap.size := by
 have := b.size;simp at this;subst hg;exact ⟨by omega,by omega,by omega⟩
theorem k'5y {w2 w3 : World} {o o2 : Obj} {g : Nat} (hg : w2.heap.size = g) (b : Below ((w2.alloc o).alloc o2).heap.size ((w2.alloc o).alloc o2) w3) : Apart g w3.heap.size ∧ Apart (g + 1) w3.heap.size := by
 have := b.size;simp at this;subst hg;exact ⟨⟨by omega,by omega,by omega⟩,⟨by omega,by omega,by omega⟩⟩
theorem k'5z {x y z : Nat} (h : Apart x y) (b : y ≤ z) : Apart x z := by
 obtain ⟨h1,h2,h3⟩ := h;exact ⟨by omega,by omega,by omega⟩
theorem k'60 {w w' : World} (b : Below w.drew.heap.size w.drew w') : Below w.heap.size w w' := ⟨b.os,b.tape,b.output,b.size,b.block⟩
theorem Rd.alloc {w : World} {v : Value} {xs : List Nat} (h : Rd w v xs) (o : Obj) : Rd (w.alloc o) v xs := h.below (k'5u w o) (Nat.le_refl _)
theorem ZC.new {x y : Value} {w : World} {t : TypeId} {g : Nat} (hg : g = w.heap.size) : ZC x y (w.alloc (.cells #[x,y] t)) g := ZC.made hg.symm (Below.refl _ _)
theorem ZC.alloc {x y : Value} {w : World} {g : Nat} (h : ZC x y w g) (o : Obj) : ZC x y (w.alloc o) g := h.next (k'5u w o)
theorem ZC.set {x y x0 y0 : Value} {w : World} {g : Nat} (h : ZC x0 y0 w g) : ZC x y ((w.setCell ⟨g,0,none⟩ x).setCell ⟨g,1,none⟩ y) g := by
 obtain ⟨h1,h2,h3,h4⟩ := h;refine ⟨?_,?_,?_,?_⟩ <;> simp [go_sem,h1,h2,h3,h4]
theorem ZC.other {x y u v : Value} {w : World} {g g2 : Nat} (h : ZC x y w g) (hn : ¬ g = g2) : ZC x y ((w.setCell ⟨g2,0,none⟩ u).setCell ⟨g2,1,none⟩ v) g := by
 obtain ⟨h1,h2,h3,h4⟩ := h;have hn2 : ¬ g2 = g := fun e => hn e.symm;refine ⟨?_,?_,?_,?_⟩ <;> simp [go_sem,h1,h2,h3,h4,hn,hn2]
theorem Rd.set {w : World} {p : Addr} {u old v : Value} {xs : List Nat} (h : Rd w v xs) (hp : w.cell? p = some old) (hno : ∀ n,old ≠ .int .u64 n) : Rd (w.setCell p u) v xs := by
 obtain ⟨q,b,off,cap,h1,h2,h3,h4,h5,h6⟩ := h;refine ⟨q,b,off,cap,h1,h2,h3,h4,h5.imp id (fun g => ⟨g.1,by simpa [World.setCell] using g.2⟩),fun k hk => ?_⟩
 rw [World.cell?_setCell_other]
 ·exact h6 k hk
 ·intro e
  subst e;rw [h6 k hk] at hp;exact hno _ (Option.some.inj hp).symm
theorem Rd.set2 {w : World} {v : Value} {xs : List Nat} {b0 : Bool} {p : Option Addr} {n c : Nat} {g : Nat} (h : Rd w v xs) (z : ZC (.bool b0) (.slice p n c) w g) (u u' : Value) : Rd ((w.setCell ⟨g,0,none⟩ u).setCell ⟨g,1,none⟩ u') v xs :=
 (h.set z.1 (fun _ => by simp)).set (old := .slice p n c) ((World.cell?_setCell_other w ⟨g,0,none⟩ ⟨g,1,none⟩ u (by simp)).trans z.2.1) (fun _ => by simp)
theorem k'61 {B : Nat} {a w : World} {g : Nat} (h : Below B a w) (hg : B ≤ g) (u u' : Value) : Below B a ((w.setCell ⟨g,0,none⟩ u).setCell ⟨g,1,none⟩ u') :=
 (h.setCell (p := ⟨g,0,none⟩) hg _).setCell (p := ⟨g,1,none⟩) hg _
def CutR (x1 x2 s1 s2 : Value) (X1 X2 : List Nat) (B : Nat) (wb wx : World) (g7 g8 : Nat) : Prop := (B ≤ g7 ∧ B ≤ g8) ∧ ZC x1 s1 wx g7 ∧ ZC x2 s2 wx g8 ∧ Rd wx s1 X1 ∧ Rd wx s2 X2 ∧ Below B wb wx
section
variable {x1 x2 e1 e2 u1 u2 : Value} {X1 X2 : List Nat} {B : Nat} {wb w3 : World} {t : TypeId} {b0 b1 : Bool} {p p' : Option Addr} {n c n' c' g g' : Nat}
theorem CutR.s1 (r1 : Rd w3 e1 X1) (r2 : Rd w3 e2 X2) (b : Below B wb w3) (hB : B ≤ w3.heap.size) : CutR x1 x2 e1 e2 X1 X2 B wb ((w3.alloc (.cells #[x1,e1] t)).alloc (.cells #[x2,e2] t)) w3.heap.size (w3.heap.size + 1) :=
 ⟨⟨hB,by omega⟩,(ZC.new rfl).alloc _,ZC.new (by simp),(r1.alloc _).alloc _,(r2.alloc _).alloc _,(b.alloc hB _).alloc (by simp; omega) _⟩
theorem CutR.s2 (r1 : Rd w3 e1 X1) (r2 : Rd w3 e2 X2) (b : Below B wb w3) (hB : B ≤ w3.heap.size) : CutR x1 x2 e1 e2 X1 X2 B wb ((w3.alloc (.cells #[x2,e2] t)).alloc (.cells #[x1,e1] t)) (w3.heap.size + 1) w3.heap.size :=
 ⟨⟨by omega,hB⟩,ZC.new (by simp),(ZC.new rfl).alloc _,(r1.alloc _).alloc _,(r2.alloc _).alloc _,(b.alloc hB _).alloc (by simp; omega) _⟩
theorem CutR.s3 (z : ZC (.bool b0) (.slice p n c) w3 g) (hg : B ≤ g) (r1 : Rd w3 e1 X1) (r2 : Rd w3 e2 X2) (b : Below B wb w3) (hB : B ≤ w3.heap.size) :
 CutR x1 x2 e1 e2 X1 X2 B wb (((w3.setCell ⟨g,0,none⟩ x1).setCell ⟨g,1,none⟩ e1).alloc (.cells #[x2,e2] t)) g w3.heap.size :=
 ⟨⟨hg,hB⟩,z.set.alloc _,ZC.new (by simp),(r1.set2 z _ _).alloc _,(r2.set2 z _ _).alloc _,(k'61 b hg _ _).alloc (by simpa using hB) _⟩
theorem CutR.s4 (z : ZC (.bool b0) (.slice p n c) w3 g) (hg : B ≤ g) (r1 : Rd w3 e1 X1) (r2 : Rd w3 e2 X2) (b : Below B wb w3) (hB : B ≤ w3.heap.size) :
 CutR x1 x2 e1 e2 X1 X2 B wb (((w3.setCell ⟨g,0,none⟩ x2).setCell ⟨g,1,none⟩ e2).alloc (.cells #[x1,e1] t)) w3.heap.size g :=
 ⟨⟨hB,hg⟩,ZC.new (by simp),z.set.alloc _,(r1.set2 z _ _).alloc _,(r2.set2 z _ _).alloc _,(k'61 b hg _ _).alloc (by simpa using hB) _⟩
theorem CutR.s5 (z : ZC (.bool b0) (.slice p n c) w3 g) (hg : B ≤ g) (z' : ZC (.bool b1) (.slice p' n' c') w3 g') (hg' : B ≤ g') (hn : ¬ g = g') (r1 : Rd w3 e1 X1) (r2 : Rd w3 e2 X2) (b : Below B wb w3) :
 CutR x1 x2 e1 e2 X1 X2 B wb ((((w3.setCell ⟨g,0,none⟩ x1).setCell ⟨g,1,none⟩ e1).setCell ⟨g',0,none⟩ x2).setCell ⟨g',1,none⟩ e2) g g' :=
 have zz := z'.other (u := x1) (v := e1) (fun e => hn e.symm)
 ⟨⟨hg,hg'⟩,z.set.other hn,zz.set,(r1.set2 z _ _).set2 zz _ _,(r2.set2 z _ _).set2 zz _ _,k'61 (k'61 b hg _ _) hg' _ _⟩
end
def Q3Post (q r : Value) (c : Int) (w : World) (e : Ending) (w' : World) : Prop := e = .returned (.tuple #[q,r,.int .i64 c]) ∧ Below w.heap.size w w'
theorem k'62 (a b : Bool) (s t : ByteArray) (w : World) (hd : DivOK (bv s) (bv t)) (hv1 : vld a s = true) (hv2 : vld b t = true) (h0 : 0 < bv t) :
 Calls Tryz.prog 144 #[.agg #[.bool a,.string s],.agg #[.bool b,.string t]] w (Q3Post (wd (a != b) (eq1 a (bv s) (bv t))) (wd false (er1 a (bv s) (bv t))) 0 w) := by
 have z1 := k'4m hv1;have z2 := k'4m hv2;have HV1 := k'4k a s;have HV2 := k'4k b t;rw [hv1] at HV1;rw [hv2] at HV2;have HA := i' (fun w => HV1 w (by omega))
 have HB := i' (fun w => HV2 w (by omega))
 have HR1 := i' (fun w => k'3u a s w (by omega) (k'4l hv1))
 have HR2 := i' (fun w => k'3u b t w (by omega) (k'4l hv2))
 have t1 := k'4r hv1;have t2 := k'4r hv2;have HP := i' (fun v1 v2 w h1 h2 => k'5r a b v1 v2 (bv s) (bv t) w hd h0 h1 h2 (Nat.le_trans (k'4t t1) (by decide)) (Nat.le_trans (k'4t t2) (by decide)))
 have tq : eq1 a (bv s) (bv t) < Top := Nat.lt_of_le_of_lt (k'5s h0) t1;have tr : er1 a (bv s) (bv t) < Top := Nat.lt_trans (k'5t h0) t2;have HW1 := i' (fun v w h => k'4g (a != b) v (eq1 a (bv s) (bv t)) w h (Nat.le_trans (k'4t tq) (by decide)))
 have HW2 := i' (fun v w h => k'4g false v (er1 a (bv s) (bv t)) w h (Nat.le_trans (k'4t tr) (by decide)))
 rw [k'44 _ tq,k'45 tq] at HW1;rw [k'44 _ tr,k'45 tr] at HW2;have ht0 : 0 < t.size := by
  rcases Nat.eq_zero_or_pos t.size with h | h
  ·rw [k'4n h] at h0; exact absurd h0 (by decide)
  ·exact h
 have he := k'31 t ht0;have he2 : (t.toList == []) = false := by
  cases hd : t.toList with
  | nil => rw [hd] at he; simp at he
  | cons x l => rfl
 obtain ⟨qb,qs,hq⟩ : ∃ x y,wd (a != b) (eq1 a (bv s) (bv t)) = .agg #[.bool x,.string y] := ⟨_,_,rfl⟩;obtain ⟨rb,rs,hr⟩ : ∃ x y,wd false (er1 a (bv s) (bv t)) = .agg #[.bool x,.string y] := ⟨_,_,rfl⟩;rw [hq] at HW1 ⊢;rw [hr] at HW2 ⊢;clear hq hr HV1 HV2 hv1 hv2 t1 t2 tq tr hd h0 ht0;generalize eq1 a (bv s) (bv t) = qm at *;generalize er1 a (bv s) (bv t) = rm at *;generalize bv s = m at *;generalize bv t = n at *;generalize (a != b) = ab at *;obtain ⟨w0,hw0⟩ : ∃ w0 : World,w0 = (((w.alloc (.cells #[.bool a,.string s] 44)).alloc (.cells #[.bool b,.string t] 44)).alloc (.cells #[.bool false,.string ⟨#[]⟩] 44)).alloc (.cells #[.bool false,.string ⟨#[]⟩] 44) := ⟨_,rfl⟩;have hb0 : Hid (Below w.heap.size w w0) := by rw [hw0]; exact ((((Below.refl _ _).alloc (Nat.le_refl _) _).alloc (by simp) _).alloc (by simp; omega) _).alloc (by simp; omega) _
 have k0 : w0.cell? ⟨w.heap.size,0,none⟩ = some (.bool a) := by rw [hw0]; simp [go_sem]
 have k1 : w0.cell? ⟨w.heap.size,1,none⟩ = some (.string s) := by rw [hw0]; simp [go_sem]
 have k2 : w0.cell? ⟨w.heap.size + 1,0,none⟩ = some (.bool b) := by rw [hw0]; simp [go_sem]
 have k3 : w0.cell? ⟨w.heap.size + 1,1,none⟩ = some (.string t) := by rw [hw0]; simp [go_sem]
 have k4 : w0.cell? ⟨w.heap.size + 1 + 1,0,none⟩ = some (.bool false) := by rw [hw0]; simp [go_sem]
 have k5 : w0.cell? ⟨w.heap.size + 1 + 1,1,none⟩ = some (.string ⟨#[]⟩) := by rw [hw0]; simp [go_sem]
 have k6 : w0.frozen? ⟨w.heap.size + 1 + 1,0,none⟩ = false := by rw [hw0]; simp [go_sem]
 have k7 : w0.frozen? ⟨w.heap.size + 1 + 1,1,none⟩ = false := by rw [hw0]; simp [go_sem]
 have k8 : w0.cell? ⟨w.heap.size + 1 + 1 + 1,0,none⟩ = some (.bool false) := by rw [hw0]; simp [go_sem]
 have k9 : w0.cell? ⟨w.heap.size + 1 + 1 + 1,1,none⟩ = some (.string ⟨#[]⟩) := by rw [hw0]; simp [go_sem]
 have k10 : w0.frozen? ⟨w.heap.size + 1 + 1 + 1,0,none⟩ = false := by rw [hw0]; simp [go_sem]
 have k11 : w0.frozen? ⟨w.heap.size + 1 + 1 + 1,1,none⟩ = false := by rw [hw0]; simp [go_sem]
 have hsz : w.heap.size + 4 ≤ w0.heap.size := by rw [hw0]; simp
 have KK := i' (And.intro k0 (And.intro k1 (And.intro k2 k3)));have KQ := i' (And.intro k4 (And.intro k5 (And.intro k6 k7)));have KR := i' (And.intro k8 (And.intro k9 (And.intro k10 k11)));have Hsz := i' hsz;have Hw0 := i' hw0;clear k0 k1 k2 k3 k4 k5 k6 k7 k8 k9 k10 k11 hw0 hsz;go_enter Tryz.func144,Tryz.ntmps144;go_wp2_with fail;rw [← Hw0.out];refine (HA.out _).mono ?_;rintro e wa ⟨rfl,hba⟩;have q2 := k'4i hba KK.out.2.2.1;have q3 := k'4i hba KK.out.2.2.2;have HBa := i' hba;clear hba;go_wp2_with fail;refine (HB.out _).mono ?_;rintro e wb ⟨rfl,hbb⟩;have hbc := k'4h HBa.out hbb;have k0 := k'4i hbc KK.out.1;have k1 := k'4i hbc KK.out.2.1;have k2 := k'4i hbc KK.out.2.2.1;have k3 := k'4i hbc KK.out.2.2.2;have HBc := i' hbc;clear q2 q3 hbb hbc;have HSB : Hid (w.heap.size + 4 ≤ wb.heap.size) := Nat.le_trans Hsz.out HBc.out.size;go_upto_region 5 with (fail);obtain ⟨jba,jbb,jbc,jbd,jbe,jbf,jbg,jbh⟩ := k'5w HSB.out;go_cut [7,8] (fun s7 s8 wx => ∃ (g7 g8 : Nat) (y1 y2 : Option Addr) (n1 c1 n2 c2 : Nat),s7 = .pointer (some ⟨g7,0,none⟩) ∧ s8 = .pointer (some ⟨g8,0,none⟩) ∧ Hid (CutR (.bool ab) (.bool false) (.slice y1 n1 c1) (.slice y2 n2 c2) (Nm.dg W qm) (Nm.dg W rm) wb.heap.size wb wx g7 g8))
 case first =>
  rename_i J0 K0 hRJ hMK;go_region_held3 (fun W' => W'.cell? ⟨w.heap.size,0,none⟩ = some (.bool a) ∧ W'.cell? ⟨w.heap.size,1,none⟩ = some (.string s) ∧ W'.cell? ⟨w.heap.size + 1,0,none⟩ = some (.bool b) ∧ W'.cell? ⟨w.heap.size + 1,1,none⟩ = some (.string t)) (go_keep)
   (first
    | (go_at_call 135; (with_reducible refine (HR1.out _).mono ?_); rintro e w1 ⟨v1,rfl,r1,b1⟩; (try (have b1 := k'60 b1)); have d1 : Below wb.heap.size wb w1 := k'4h (by first | exact Below.refl _ _ | exact (Below.refl _ _).drew | exact k'5u _ _ | exact k'5v _ _ _ | exact ((Below.refl _ _).drew).alloc (Nat.le_refl _) _ | exact (((Below.refl _ _).drew).alloc (Nat.le_refl _) _).alloc (by simp) _) b1; have c1 : Below wb.heap.size wb w1 := d1; have p0 := k'4i c1 k0; have p1 := k'4i c1 k1; have p2 := k'4i c1 k2; have p3 := k'4i c1 k3; obtain ⟨j1a,j1b,j1c,j1d,j1e,j1f,j1g,j1h⟩ := k'5w (show w.heap.size + 4 ≤ w1.heap.size from Nat.le_trans HSB.out c1.size); (try (have A0 := i' (ZC.made (g := wb.heap.size) rfl b1); obtain ⟨A0a,A0b,A0c,A0d⟩ := A0.out)); (try (have A0 := i' (ZC.made1 (g := wb.heap.size) rfl b1); have B0 := i' (ZC.made (g := wb.heap.size + 1) (by simp) b1); obtain ⟨A0a,A0b,A0c,A0d⟩ := A0.out; obtain ⟨B0a,B0b,B0c,B0d⟩ := B0.out)); (try (have L01 := i' (k'5x (g := wb.heap.size) rfl b1); obtain ⟨l01x,l01y,l01z⟩ := L01.out)); (try (have MM := i' (k'5y (g := wb.heap.size) rfl b1); have L01 := i' MM.out.1; have M01 := i' MM.out.2; clear MM; obtain ⟨l01x,l01y,l01z⟩ := L01.out; obtain ⟨m01x,m01y,m01z⟩ := M01.out)); have G1 := i' r1)
    | (go_at_call 135; (with_reducible refine (HR2.out _).mono ?_); rintro e w2 ⟨v2,rfl,r2,b2⟩; have d2 : Below w1.heap.size w1 w2 := k'4h (by first | exact Below.refl _ _ | exact (Below.refl _ _).drew | exact k'5u _ _ | exact k'5v _ _ _ | exact ((Below.refl _ _).drew).alloc (Nat.le_refl _) _ | exact (((Below.refl _ _).drew).alloc (Nat.le_refl _) _).alloc (by simp) _) b2; have c2 : Below wb.heap.size wb w2 := k'4h c1 d2; have p0 := k'4i c2 k0; have p1 := k'4i c2 k1; have p2 := k'4i c2 k2; have p3 := k'4i c2 k3; obtain ⟨j2a,j2b,j2c,j2d,j2e,j2f,j2g,j2h⟩ := k'5w (show w.heap.size + 4 ≤ w2.heap.size from Nat.le_trans HSB.out c2.size); (try (have A1 := i' (ZC.made (g := w1.heap.size) rfl b2); obtain ⟨A1a,A1b,A1c,A1d⟩ := A1.out)); (try (have A1 := i' (ZC.made1 (g := w1.heap.size) rfl b2); have B1 := i' (ZC.made (g := w1.heap.size + 1) (by simp) b2); obtain ⟨A1a,A1b,A1c,A1d⟩ := A1.out; obtain ⟨B1a,B1b,B1c,B1d⟩ := B1.out)); (try (have A0 := i' (A0.out.next d2); obtain ⟨A0a,A0b,A0c,A0d⟩ := A0.out)); (try (have B0 := i' (B0.out.next d2); obtain ⟨B0a,B0b,B0c,B0d⟩ := B0.out)); (try (have L02 := i' (k'5z L01.out d2.size); obtain ⟨l02x,l02y,l02z⟩ := L02.out)); (try (have M02 := i' (k'5z M01.out d2.size); obtain ⟨m02x,m02y,m02z⟩ := M02.out)); (try (have L12 := i' (k'5x (g := w1.heap.size) rfl b2); obtain ⟨l12x,l12y,l12z⟩ := L12.out)); (try (have MM := i' (k'5y (g := w1.heap.size) rfl b2); have L12 := i' MM.out.1; have M12 := i' MM.out.2; clear MM; obtain ⟨l12x,l12y,l12z⟩ := L12.out; obtain ⟨m12x,m12y,m12z⟩ := M12.out)); have G2 := i' (And.intro (G1.out.below d2 (Nat.le_refl _)) r2))
    | (go_at_call 157; (with_reducible refine (HP.out _ _ _ (by first | exact G2.out.1 | exact G2.out.1.alloc _ | exact (G2.out.1.alloc _).alloc _) (by first | exact G2.out.2 | exact G2.out.2.alloc _ | exact (G2.out.2.alloc _).alloc _)).mono ?_); rintro e w3 ⟨p1x,n1x,c1x,p2x,n2x,c2x,rfl,r3,r4,b3⟩; have d3 : Below w2.heap.size w2 w3 := k'4h (by first | exact Below.refl _ _ | exact (Below.refl _ _).drew | exact k'5u _ _ | exact k'5v _ _ _ | exact ((Below.refl _ _).drew).alloc (Nat.le_refl _) _ | exact (((Below.refl _ _).drew).alloc (Nat.le_refl _) _).alloc (by simp) _) b3; have c3 : Below wb.heap.size wb w3 := k'4h c2 d3; have p0 := k'4i c3 k0; have p1 := k'4i c3 k1; have p2 := k'4i c3 k2; have p3 := k'4i c3 k3; obtain ⟨j3a,j3b,j3c,j3d,j3e,j3f,j3g,j3h⟩ := k'5w (show w.heap.size + 4 ≤ w3.heap.size from Nat.le_trans HSB.out c3.size); (try (have A2 := i' (ZC.made (g := w2.heap.size) rfl b3); obtain ⟨A2a,A2b,A2c,A2d⟩ := A2.out)); (try (have A2 := i' (ZC.made1 (g := w2.heap.size) rfl b3); have B2 := i' (ZC.made (g := w2.heap.size + 1) (by simp) b3); obtain ⟨A2a,A2b,A2c,A2d⟩ := A2.out; obtain ⟨B2a,B2b,B2c,B2d⟩ := B2.out)); (try (have A0 := i' (A0.out.next d3); obtain ⟨A0a,A0b,A0c,A0d⟩ := A0.out)); (try (have B0 := i' (B0.out.next d3); obtain ⟨B0a,B0b,B0c,B0d⟩ := B0.out)); (try (have A1 := i' (A1.out.next d3); obtain ⟨A1a,A1b,A1c,A1d⟩ := A1.out)); (try (have B1 := i' (B1.out.next d3); obtain ⟨B1a,B1b,B1c,B1d⟩ := B1.out)); (try (have L03 := i' (k'5z L02.out d3.size); obtain ⟨l03x,l03y,l03z⟩ := L03.out)); (try (have M03 := i' (k'5z M02.out d3.size); obtain ⟨m03x,m03y,m03z⟩ := M03.out)); (try (have L13 := i' (k'5z L12.out d3.size); obtain ⟨l13x,l13y,l13z⟩ := L13.out)); (try (have M13 := i' (k'5z M12.out d3.size); obtain ⟨m13x,m13y,m13z⟩ := M13.out)); (try (have L23 := i' (k'5x (g := w2.heap.size) rfl b3); obtain ⟨l23x,l23y,l23z⟩ := L23.out)); (try (have MM := i' (k'5y (g := w2.heap.size) rfl b3); have L23 := i' MM.out.1; have M23 := i' MM.out.2; clear MM; obtain ⟨l23x,l23y,l23z⟩ := L23.out; obtain ⟨m23x,m23y,m23z⟩ := M23.out)); have G3 := i' (And.intro r3 (And.intro r4 c3)))
    | fail)
  all_goals
   obtain ⟨r1,r2,_⟩ := G3.out;refine hMK _ _ (Met.intro (hRJ _ _ ?_))
   (repeat apply Exists.intro)
   refine ⟨?_,rfl⟩;refine ⟨_,_,p1x,p2x,n1x,c1x,n2x,c2x,rfl,rfl,?_⟩;show CutR (.bool ab) (.bool false) (.slice p1x n1x c1x) (.slice p2x n2x c2x) (Nm.dg W qm) (Nm.dg W rm) wb.heap.size wb _ _ _;have sA0 : wb.heap.size ≤ wb.heap.size := Nat.le_refl _;have sB0 : wb.heap.size ≤ wb.heap.size + 1 := Nat.le_succ _;have sA1 : wb.heap.size ≤ w1.heap.size := c1.size;have sB1 : wb.heap.size ≤ w1.heap.size + 1 := Nat.le_succ_of_le sA1;have sA2 : wb.heap.size ≤ w2.heap.size := c2.size;have sB2 : wb.heap.size ≤ w2.heap.size + 1 := Nat.le_succ_of_le sA2;have sA3 : wb.heap.size ≤ w3.heap.size := c3.size;have n0 : ¬ wb.heap.size = wb.heap.size + 1 := Nat.ne_of_lt (Nat.lt_succ_self _);have n1 : ¬ w1.heap.size = w1.heap.size + 1 := Nat.ne_of_lt (Nat.lt_succ_self _);have n2 : ¬ w2.heap.size = w2.heap.size + 1 := Nat.ne_of_lt (Nat.lt_succ_self _);have m0 : ¬ wb.heap.size + 1 = wb.heap.size := fun e => n0 e.symm;have m1 : ¬ w1.heap.size + 1 = w1.heap.size := fun e => n1 e.symm;have m2 : ¬ w2.heap.size + 1 = w2.heap.size := fun e => n2 e.symm
   first
    | with_reducible exact CutR.s1 r1 r2 c3 sA3
    | with_reducible exact CutR.s2 r1 r2 c3 sA3
    | with_reducible exact CutR.s3 A0.out sA0 r1 r2 c3 sA3
    | with_reducible exact CutR.s4 A0.out sA0 r1 r2 c3 sA3
    | with_reducible exact CutR.s3 A1.out sA1 r1 r2 c3 sA3
    | with_reducible exact CutR.s4 A1.out sA1 r1 r2 c3 sA3
    | with_reducible exact CutR.s3 A2.out sA2 r1 r2 c3 sA3
    | with_reducible exact CutR.s4 A2.out sA2 r1 r2 c3 sA3
    | with_reducible exact CutR.s3 B0.out sB0 r1 r2 c3 sA3
    | with_reducible exact CutR.s4 B0.out sB0 r1 r2 c3 sA3
    | with_reducible exact CutR.s3 B1.out sB1 r1 r2 c3 sA3
    | with_reducible exact CutR.s4 B1.out sB1 r1 r2 c3 sA3
    | with_reducible exact CutR.s3 B2.out sB2 r1 r2 c3 sA3
    | with_reducible exact CutR.s4 B2.out sB2 r1 r2 c3 sA3
    | with_reducible exact CutR.s5 A0.out sA0 B0.out sB0 n0 r1 r2 c3
    | with_reducible exact CutR.s5 B0.out sB0 A0.out sA0 m0 r1 r2 c3
    | with_reducible exact CutR.s5 A0.out sA0 A1.out sA1 l01x r1 r2 c3
    | with_reducible exact CutR.s5 A1.out sA1 A0.out sA0 l01y r1 r2 c3
    | with_reducible exact CutR.s5 A0.out sA0 A2.out sA2 l02x r1 r2 c3
    | with_reducible exact CutR.s5 A2.out sA2 A0.out sA0 l02y r1 r2 c3
    | with_reducible exact CutR.s5 A1.out sA1 B1.out sB1 n1 r1 r2 c3
    | with_reducible exact CutR.s5 B1.out sB1 A1.out sA1 m1 r1 r2 c3
    | with_reducible exact CutR.s5 A1.out sA1 A2.out sA2 l12x r1 r2 c3
    | with_reducible exact CutR.s5 A2.out sA2 A1.out sA1 l12y r1 r2 c3
    | with_reducible exact CutR.s5 A2.out sA2 B2.out sB2 n2 r1 r2 c3
    | with_reducible exact CutR.s5 B2.out sB2 A2.out sA2 m2 r1 r2 c3
    | fail
 case rest =>
  obtain ⟨g7,g8,y1,y2,n1,c1,n2,c2,rfl,rfl,hcut⟩ := hcut;obtain ⟨⟨hg7,hg8⟩,z7,z8,r1,r2,hbx⟩ := hcut.out;have e1 : ¬ (g8 = w.heap.size + 1 + 1) := by have := HSB.out; omega
  have e2 : ¬ (w.heap.size + 1 + 1 = g8) := fun e => e1 e.symm;have HR2 := i' r2;have Z8 := i' z8;have HBX : Hid (Below w0.heap.size w0 wc) := k'4h HBc.out hbx;have HR1 := i' r1;obtain ⟨a1,a2,a3,a4⟩ := z7;clear hcut hg7 hg8 z8 r1 r2 hbx jba jbb jbc jbd jbe jbf jbg jbh k0 k1 k2 k3;go_wp2_with fail;refine (HW1.out _ _ HR1.out).mono ?_;rintro e w5 ⟨rfl,b5⟩;have c5 : Below w0.heap.size w0 w5 := k'4h HBX.out b5;have q4 := k'4i c5 KQ.out.1;have q5 := k'4i c5 KQ.out.2.1;have q6 := k'4j c5 KQ.out.1 KQ.out.2.2.1;have q7 := k'4j c5 KQ.out.2.1 KQ.out.2.2.2;obtain ⟨d1,d2,d3,d4⟩ := Z8.out.next b5;have r2 := HR2.out.below b5 (Nat.le_refl _);have p1 := k'4i c5 KR.out.1;have p2 := k'4i c5 KR.out.2.1;have p3 := k'4j c5 KR.out.1 KR.out.2.2.1;have p4 := k'4j c5 KR.out.2.1 KR.out.2.2.2;obtain ⟨w6,hw6⟩ : ∃ w6 : World,w6 = (w5.setCell ⟨w.heap.size + 1 + 1,0,none⟩ (.bool qb)).setCell ⟨w.heap.size + 1 + 1,1,none⟩ (.string qs) := ⟨_,rfl⟩;have j1 : w6.cell? ⟨g8,0,none⟩ = some (.bool false) := by rw [hw6]; simp [go_sem,d1,e1,e2]
  have j2 : w6.cell? ⟨g8,1,none⟩ = some (.slice y2 n2 c2) := by rw [hw6]; simp [go_sem,d2,e1,e2]
  have j3 : w6.cell? ⟨w.heap.size + 1 + 1,0,none⟩ = some (.bool qb) := by rw [hw6]; simp [go_sem,q4]
  have j4 : w6.cell? ⟨w.heap.size + 1 + 1,1,none⟩ = some (.string qs) := by rw [hw6]; simp [go_sem,q5]
  have j5 : w6.frozen? ⟨w.heap.size + 1 + 1,0,none⟩ = false := by rw [hw6]; simp [go_sem,q6]
  have j6 : w6.frozen? ⟨w.heap.size + 1 + 1,1,none⟩ = false := by rw [hw6]; simp [go_sem,q7]
  have j7 : w6.cell? ⟨w.heap.size + 1 + 1 + 1,0,none⟩ = some (.bool false) := by rw [hw6]; simp [go_sem,p1]
  have j8 : w6.cell? ⟨w.heap.size + 1 + 1 + 1,1,none⟩ = some (.string ⟨#[]⟩) := by rw [hw6]; simp [go_sem,p2]
  have j9 : w6.frozen? ⟨w.heap.size + 1 + 1 + 1,0,none⟩ = false := by rw [hw6]; simp [go_sem,p3]
  have j10 : w6.frozen? ⟨w.heap.size + 1 + 1 + 1,1,none⟩ = false := by rw [hw6]; simp [go_sem,p4]
  have R6 : Hid (Rd w6 (.slice y2 n2 c2) (Nm.dg W rm)) := by rw [hw6]; exact (r2.set q4 (fun _ => by simp)).set (old := .string ⟨#[]⟩) ((World.cell?_setCell_other w5 ⟨w.heap.size + 1 + 1,0,none⟩ ⟨w.heap.size + 1 + 1,1,none⟩ _ (by simp)).trans q5) (fun _ => by simp)
  have L6 : Hid (Below w.heap.size w w6) := by rw [hw6]; exact k'61 (k'4h hb0.out c5) (by omega) _ _
  have J6 := i' (And.intro j3 (And.intro j4 (And.intro j5 (And.intro j6 (And.intro j7 (And.intro j8 (And.intro j9 j10)))))));have Hw6 := i' hw6;clear b5 c5 r2 p1 p2 p3 p4 hw6 j1 j2 j3 j4 j5 j6 j7 j8 j9 j10 a1 a2 a3 a4;go_wp2_with fail;rw [← Hw6.out];clear Hw6 q4 q5 q6 q7 e1 e2 d1 d2 d3 d4;refine (HW2.out _ _ R6.out).mono ?_;rintro e w7 ⟨rfl,b7⟩;have q0 := k'4i b7 J6.out.1;have q1 := k'4i b7 J6.out.2.1;have q2 := k'4j b7 J6.out.1 J6.out.2.2.1;have q3 := k'4j b7 J6.out.2.1 J6.out.2.2.2.1;have q4 := k'4i b7 J6.out.2.2.2.2.1;have q5 := k'4i b7 J6.out.2.2.2.2.2.1;have q6 := k'4j b7 J6.out.2.2.2.2.1 J6.out.2.2.2.2.2.2.1;have q7 := k'4j b7 J6.out.2.2.2.2.2.1 J6.out.2.2.2.2.2.2.2;obtain ⟨w8,hw8⟩ : ∃ w8 : World,w8 = (w7.setCell ⟨w.heap.size + 1 + 1 + 1,0,none⟩ (.bool rb)).setCell ⟨w.heap.size + 1 + 1 + 1,1,none⟩ (.string rs) := ⟨_,rfl⟩;have f0 : w8.cell? ⟨w.heap.size + 1 + 1,0,none⟩ = some (.bool qb) := by rw [hw8]; simp [go_sem,q0]
  have f1 : w8.cell? ⟨w.heap.size + 1 + 1,1,none⟩ = some (.string qs) := by rw [hw8]; simp [go_sem,q1]
  have f2 : w8.frozen? ⟨w.heap.size + 1 + 1,0,none⟩ = false := by rw [hw8]; simp [go_sem,q2]
  have f3 : w8.frozen? ⟨w.heap.size + 1 + 1,1,none⟩ = false := by rw [hw8]; simp [go_sem,q3]
  have f4 : w8.cell? ⟨w.heap.size + 1 + 1 + 1,0,none⟩ = some (.bool rb) := by rw [hw8]; simp [go_sem,q4]
  have f5 : w8.cell? ⟨w.heap.size + 1 + 1 + 1,1,none⟩ = some (.string rs) := by rw [hw8]; simp [go_sem,q5]
  have f6 : w8.frozen? ⟨w.heap.size + 1 + 1 + 1,0,none⟩ = false := by rw [hw8]; simp [go_sem,q6]
  have f7 : w8.frozen? ⟨w.heap.size + 1 + 1 + 1,1,none⟩ = false := by rw [hw8]; simp [go_sem,q7]
  have L8 : Hid (Below w.heap.size w w8) := by rw [hw8]; exact k'61 (k'4h L6.out b7) (by omega) _ _
  have Hw8 := i' hw8;clear b7 hw8;go_wp2_with fail;rw [← Hw8.out];clear Hw8 q0 q1 q2 q3 q4 q5 q6 q7;have HZ := i' ((k'61 (k'61 L8.out (g := w.heap.size + 1 + 1) (by omega) (.bool qb) (.string qs)) (g := w.heap.size + 1 + 1 + 1) (by omega) (.bool rb) (.string rs)).drew)
  go_region
  go_wp2;exact bodyPost_ret (v := .tuple #[.agg #[.bool qb,.string qs],.agg #[.bool rb,.string rs],.int .i64 0]) (by simp [results,Tryz.results144,go_sem,f0,f1,f4,f5]) rfl ⟨rfl,HZ.out⟩
def vldR (a : Bool) (s : ByteArray) (b : Bool) (t : ByteArray) : Bool := vld a s && decide (0 < sgV b t)
def rat (a : Bool) (s : ByteArray) (b : Bool) (t : ByteArray) : Value := .agg #[.bool a,.string s,.bool b,.string t]
theorem k'63 (a b : Bool) (s t : ByteArray) (w : World) (z1 : s.size ≤ 140737488351232) (z2 : t.size ≤ 140737488351232) :
 Calls Tryz.prog 131 #[.agg #[.bool a,.string s,.bool b,.string t]] w (BPost (vldR a s b t) w) := by
 have HA := i' (fun w => k'4k a s w z1);have HB := i' (fun w => k'56 b t w z2);unfold vldR;generalize vld a s = va at *;obtain ⟨sg,hsg⟩ : ∃ sg,sgV b t = sg := ⟨_,rfl⟩;rw [hsg] at HB ⊢;clear hsg
 cases va with
 | false =>
  go_enter Tryz.func131,Tryz.ntmps131;go_wp2_with fail;refine (HA.out _).mono ?_;rintro e wa ⟨rfl,hba⟩;have HZ := i' (k'4h (k'5u w _) hba);clear hba;go_wp2;go_ret;exact ⟨rfl,HZ.out⟩
 | true =>
  go_enter Tryz.func131,Tryz.ntmps131;go_wp2_with fail;refine (HA.out _).mono ?_;rintro e wa ⟨rfl,hba⟩;have k2 := k'4i hba (p := ⟨w.heap.size,2,none⟩) (v := .bool b) (by simp [go_sem])
  have k3 := k'4i hba (p := ⟨w.heap.size,3,none⟩) (v := .string t) (by simp [go_sem])
  have HBa := i' (k'4h (k'5u w _) hba);clear hba;go_wp2_with fail;refine (HB.out _).mono ?_;rintro e wb ⟨rfl,hbb⟩;have HZ := i' (k'4h HBa.out hbb);clear hbb;go_wp2;go_ret;exact ⟨by simp,HZ.out⟩
def RPost (a : Bool) (s : ByteArray) (b : Bool) (t : ByteArray) (c : Int) (w : World) (e : Ending) (w' : World) : Prop := e = .returned (.tuple #[rat a s b t,.int .i64 c]) ∧ Below w.heap.size w w'
theorem k'65 {B : Nat} {a w : World} {g : Nat} (h : Below B a w) (hg : B ≤ g) (u0 u1 u2 u3 : Value) : Below B a ((((w.setCell ⟨g,0,none⟩ u0).setCell ⟨g,1,none⟩ u1).setCell ⟨g,2,none⟩ u2).setCell ⟨g,3,none⟩ u3) :=
 (((h.setCell (p := ⟨g,0,none⟩) hg _).setCell (p := ⟨g,1,none⟩) hg _).setCell (p := ⟨g,2,none⟩) hg _).setCell (p := ⟨g,3,none⟩) hg _
theorem k'66 (a b : Bool) (v1 v2 : Value) (m n g A B : Nat) (w : World) (hg : GcdOK m n) (e0 : Nat.gcd m n = g) (d1 : DivOK m g) (d2 : DivOK n g) (e1 : m / g = A) (e2 : n / g = B)
 (h1 : Rd w v1 (Nm.dg W m)) (h2 : Rd w v2 (Nm.dg W n)) (l1 : (Nm.dg W A).length ≤ 1000000) (l2 : (Nm.dg W B).length ≤ 1000000) (t1 : A < Top) (t2 : B < Top) :
 Calls Tryz.prog 134 #[.agg #[.bool a,v1],.agg #[.bool b,v2]] w (RPost ((a != b) && decide (A ≠ 0)) (bs A) false (bs B) 0 w) := by
 obtain ⟨ab,hab⟩ : ∃ ab,(a != b) = ab := ⟨_,rfl⟩;have HW1 := i' (fun v w h => k'4g ab v A w h l1);have HW2 := i' (fun v w h => k'4g false v B w h l2);rw [k'44 _ t1,k'45 t1] at HW1;rw [k'44 _ t2,k'45 t2] at HW2;have HG : Hid (∀ v1 v2 w,Rd w v1 (Nm.dg W m) → Rd w v2 (Nm.dg W n) → Calls Tryz.prog 143 #[v1,v2] w (Gives g w)) := by rw [← e0]; exact hg
 have HD1 : Hid (∀ v1 v2 w,Rd w v1 (Nm.dg W m) → Rd w v2 (Nm.dg W g) → Calls Tryz.prog 146 #[v1,v2] w (DivPost m g w)) := d1;have HD2 : Hid (∀ v1 v2 w,Rd w v1 (Nm.dg W n) → Rd w v2 (Nm.dg W g) → Calls Tryz.prog 146 #[v1,v2] w (DivPost n g w)) := d2;unfold DivPost at HD1 HD2;rw [e1] at HD1;rw [e2] at HD2;rw [hab];have hab2 : (!(a == b)) = ab := hab;clear hab;have hx : wd ab A = .agg #[.bool (ab && decide (A ≠ 0)),.string (bs A)] := rfl;have hy : wd false B = .agg #[.bool false,.string (bs B)] := by rw [wd]; simp
 rw [hx] at HW1;rw [hy] at HW2;generalize (ab && decide (A ≠ 0)) = xb at *;generalize bs A = xs at *;generalize bs B = ys at *;have H1 := i' h1;have H2 := i' h2;clear hx hy t1 t2 l1 l2 e0 e1 e2 hg d1 d2;generalize m % g = mr at *;generalize n % g = nr at *;obtain ⟨p1,b1,o1,c1,rfl,hr1⟩ := h1;obtain ⟨p2,b2,o2,c2,rfl,hr2⟩ := h2;clear hr1 hr2;generalize (Nm.dg W m).length = s1 at *;generalize (Nm.dg W n).length = s2 at *;obtain ⟨w0,hw0⟩ : ∃ w0 : World,w0 = ((w.alloc (.cells #[.bool a,.slice p1 s1 c1] 143)).alloc (.cells #[.bool b,.slice p2 s2 c2] 143)).alloc (.cells #[.bool false,.string ⟨#[]⟩,.bool false,.string ⟨#[]⟩] 59) := ⟨_,rfl⟩;have hb0 : Hid (Below w.heap.size w w0) := by rw [hw0]; exact (((Below.refl _ _).alloc (Nat.le_refl _) _).alloc (by simp) _).alloc (by simp; omega) _
 have k0 : w0.cell? ⟨w.heap.size,0,none⟩ = some (.bool a) := by rw [hw0]; simp [go_sem]
 have k1 : w0.cell? ⟨w.heap.size,1,none⟩ = some (.slice p1 s1 c1) := by rw [hw0]; simp [go_sem]
 have k2 : w0.cell? ⟨w.heap.size + 1,0,none⟩ = some (.bool b) := by rw [hw0]; simp [go_sem]
 have k3 : w0.cell? ⟨w.heap.size + 1,1,none⟩ = some (.slice p2 s2 c2) := by rw [hw0]; simp [go_sem]
 have k4 : w0.cell? ⟨w.heap.size + 1 + 1,0,none⟩ = some (.bool false) ∧ w0.cell? ⟨w.heap.size + 1 + 1,1,none⟩ = some (.string ⟨#[]⟩) ∧ w0.cell? ⟨w.heap.size + 1 + 1,2,none⟩ = some (.bool false) ∧ w0.cell? ⟨w.heap.size + 1 + 1,3,none⟩ = some (.string ⟨#[]⟩) := by
  rw [hw0]; refine ⟨?_,?_,?_,?_⟩ <;> simp [go_sem]
 have k5 : w0.frozen? ⟨w.heap.size + 1 + 1,0,none⟩ = false ∧ w0.frozen? ⟨w.heap.size + 1 + 1,1,none⟩ = false ∧ w0.frozen? ⟨w.heap.size + 1 + 1,2,none⟩ = false ∧ w0.frozen? ⟨w.heap.size + 1 + 1,3,none⟩ = false := by
  rw [hw0]; refine ⟨?_,?_,?_,?_⟩ <;> simp [go_sem]
 have hsz : w0.heap.size = w.heap.size + 3 := by rw [hw0]; simp
 have KK := i' (And.intro k0 (And.intro k1 (And.intro k2 k3)));have KR := i' (And.intro k4 k5);have Hsz := i' hsz;have Hw0 := i' hw0;clear k0 k1 k2 k3 k4 k5 hw0 hsz;have R1 := i' (H1.out.below hb0.out (Nat.le_refl _));have R2 := i' (H2.out.below hb0.out (Nat.le_refl _));clear H1 H2;go_enter Tryz.func134,Tryz.ntmps134;go_wp2_with fail;rw [← Hw0.out];refine (HG.out _ _ _ R1.out R2.out).mono ?_;rintro e wa ⟨v3,rfl,r3,ba⟩;have q0 := k'4i ba KK.out.1;have q1 := k'4i ba KK.out.2.1;have q2 := k'4i ba KK.out.2.2.1;have q3 := k'4i ba KK.out.2.2.2;have BA := i' ba;have RG := i' r3;have R1a := i' (R1.out.below ba (Nat.le_refl _));have R2a := i' (R2.out.below ba (Nat.le_refl _));clear ba r3 R1 R2;go_wp2_with fail;refine (HD1.out _ _ _ R1a.out RG.out).mono ?_;rintro e wb ⟨v4,v5,rfl,r4,r5,bb⟩;have q0 := k'4i bb q0;have q1 := k'4i bb q1;have q2 := k'4i bb q2;have q3 := k'4i bb q3;have BB := i' (k'4h BA.out bb);have RGb := i' (RG.out.below bb (Nat.le_refl _));have R2b := i' (R2a.out.below bb (Nat.le_refl _));have RA := i' r4;obtain ⟨p4,b4,o4,c4,rfl,hr4⟩ := r4;clear bb r5 hr4 R1a R2a RG;go_wp2_with fail;refine (HD2.out _ _ _ R2b.out RGb.out).mono ?_;rintro e wc ⟨v6,v7,rfl,r6,r7,bc⟩;have q0 := k'4i bc q0;have q1 := k'4i bc q1;have q2 := k'4i bc q2;have q3 := k'4i bc q3;have BC := i' (k'4h BB.out bc);have RAc := i' (RA.out.below bc (Nat.le_refl _));have RB := i' r6;obtain ⟨p6,b6,o6,c6,rfl,hr6⟩ := r6;clear bc r7 hr6 R2b RGb RA;go_wp2_with fail;refine (HW1.out _ _ RAc.out).mono ?_;rintro e wd1 ⟨rfl,bd⟩;have BD := i' (k'4h BC.out bd);have RBd := i' (RB.out.below bd (Nat.le_refl _));clear bd q0 q1 q2 q3 RAc RB hab2;go_wp2_with fail;refine (HW2.out _ _ (RBd.out.alloc _)).mono ?_;rintro e we ⟨rfl,be⟩;have BE := k'4h (BD.out.alloc BD.out.size _) be;obtain ⟨z1,z2,z3,z4⟩ := (ZC.new (x := .bool xb) (y := .string xs) (t := 44) (w := wd1) rfl).next be;have s0 := be.size;have s1 := BD.out.size;have s2 := Hsz.out;have f1 : ¬ we.heap.size = wd1.heap.size := by simp at s0; omega
 have f2 : ¬ wd1.heap.size = we.heap.size := by simp at s0; omega
 have f3 : ¬ wd1.heap.size = w.heap.size + 1 + 1 := by omega
 have f4 : ¬ we.heap.size = w.heap.size + 1 + 1 := by simp at s0; omega
 have f5 : ¬ w.heap.size + 1 + 1 = we.heap.size := by simp at s0; omega
 have f6 : wd1.heap.size < we.heap.size := by simp at s0; omega
 have f7 : w.heap.size + 1 + 1 < we.heap.size := by simp at s0; omega
 have q0 := k'4i BE KR.out.1.1;have q1 := k'4i BE KR.out.1.2.1;have q2 := k'4i BE KR.out.1.2.2.1;have q3 := k'4i BE KR.out.1.2.2.2;have q4 := k'4j BE KR.out.1.1 KR.out.2.1;have q5 := k'4j BE KR.out.1.2.1 KR.out.2.2.1;have q6 := k'4j BE KR.out.1.2.2.1 KR.out.2.2.2.1;have q7 := k'4j BE KR.out.1.2.2.2 KR.out.2.2.2.2;have HZ := i' ((k'65 (k'4h hb0.out BE) (g := w.heap.size + 1 + 1) (by omega) (.bool xb) (.string xs) (.bool false) (.string ys)).alloc (by simpa using (k'4h hb0.out BE).size) (.cells #[.bool false,.string ys] 44))
 clear be BE s0 s1 s2 BD RBd;go_wp2;exact bodyPost_ret (v := .tuple #[.agg #[.bool xb,.string xs,.bool false,.string ys],.int .i64 0]) (by simp [results,Tryz.results134,go_sem,q0,q1,q2,q3,f4,f5,f7]) rfl ⟨rfl,HZ.out⟩
def LowOK (m n A B : Nat) : Prop := GcdOK m n ∧ DivOK m (Nat.gcd m n) ∧ DivOK n (Nat.gcd m n) ∧ m / Nat.gcd m n = A ∧ n / Nat.gcd m n = B ∧ (Nm.dg W A).length ≤ 1000000 ∧ (Nm.dg W B).length ≤ 1000000 ∧ A < Top ∧ B < Top
theorem k'67 {m n A B : Nat} (h : LowOK m n A B) (a b : Bool) (v1 v2 : Value) (w : World) (h1 : Rd w v1 (Nm.dg W m)) (h2 : Rd w v2 (Nm.dg W n)) :
 Calls Tryz.prog 134 #[.agg #[.bool a,v1],.agg #[.bool b,v2]] w (RPost ((a != b) && decide (A ≠ 0)) (bs A) false (bs B) 0 w) := by
 obtain ⟨g1,g2,g3,g4,g5,g6,g7,g8,g9⟩ := h;exact k'66 a b v1 v2 m n _ A B w g1 rfl g2 g3 g4 g5 h1 h2 g6 g7 g8 g9
theorem k'68 (a b : Bool) (s t : ByteArray) (A B : Nat) (w : World) (hl : LowOK (bv s) (bv t) A B) (hv1 : vld a s = true) (hv2 : vld b t = true) (h0 : 0 < bv t) :
 Calls Tryz.prog 102 #[.agg #[.bool a,.string s],.agg #[.bool b,.string t]] w (RPost ((a != b) && decide (A ≠ 0)) (bs A) false (bs B) 0 w) := by
 have z1 := k'4m hv1;have z2 := k'4m hv2;have HV1 := k'4k a s;have HV2 := k'4k b t;rw [hv1] at HV1;rw [hv2] at HV2;have HA := i' (fun w => HV1 w (by omega))
 have HB := i' (fun w => HV2 w (by omega))
 have HR1 := i' (fun w => k'3u a s w (by omega) (k'4l hv1))
 have HR2 := i' (fun w => k'3u b t w (by omega) (k'4l hv2))
 have HP := i' (k'67 hl a b);have ht0 : 0 < t.size := by
  rcases Nat.eq_zero_or_pos t.size with h | h
  ·rw [k'4n h] at h0; exact absurd h0 (by decide)
  ·exact h
 have he := k'31 t ht0;have he2 : (t.toList == []) = false := by
  cases hd : t.toList with
  | nil => rw [hd] at he; simp at he
  | cons x l => rfl
 clear HV1 HV2 hv1 hv2 hl h0 ht0;generalize ((a != b) && decide (A ≠ 0)) = xb at *;generalize bs A = xs at *;generalize bs B = ys at *;generalize bv s = m at *;generalize bv t = n at *;obtain ⟨w0,hw0⟩ : ∃ w0 : World,w0 = ((w.alloc (.cells #[.bool a,.string s] 44)).alloc (.cells #[.bool b,.string t] 44)).alloc (.cells #[.bool false,.string ⟨#[]⟩,.bool false,.string ⟨#[]⟩] 59) := ⟨_,rfl⟩;have hb0 : Hid (Below w.heap.size w w0) := by rw [hw0]; exact (((Below.refl _ _).alloc (Nat.le_refl _) _).alloc (by simp) _).alloc (by simp; omega) _
 have k0 : w0.cell? ⟨w.heap.size,0,none⟩ = some (.bool a) := by rw [hw0]; simp [go_sem]
 have k1 : w0.cell? ⟨w.heap.size,1,none⟩ = some (.string s) := by rw [hw0]; simp [go_sem]
 have k2 : w0.cell? ⟨w.heap.size + 1,0,none⟩ = some (.bool b) := by rw [hw0]; simp [go_sem]
 have k3 : w0.cell? ⟨w.heap.size + 1,1,none⟩ = some (.string t) := by rw [hw0]; simp [go_sem]
 have k4 : w0.cell? ⟨w.heap.size + 1 + 1,0,none⟩ = some (.bool false) ∧ w0.cell? ⟨w.heap.size + 1 + 1,1,none⟩ = some (.string ⟨#[]⟩) ∧ w0.cell? ⟨w.heap.size + 1 + 1,2,none⟩ = some (.bool false) ∧ w0.cell? ⟨w.heap.size + 1 + 1,3,none⟩ = some (.string ⟨#[]⟩) := by
  rw [hw0]; refine ⟨?_,?_,?_,?_⟩ <;> simp [go_sem]
 have k5 : w0.frozen? ⟨w.heap.size + 1 + 1,0,none⟩ = false ∧ w0.frozen? ⟨w.heap.size + 1 + 1,1,none⟩ = false ∧ w0.frozen? ⟨w.heap.size + 1 + 1,2,none⟩ = false ∧ w0.frozen? ⟨w.heap.size + 1 + 1,3,none⟩ = false := by
  rw [hw0]; refine ⟨?_,?_,?_,?_⟩ <;> simp [go_sem]
 have KK := i' (And.intro k0 (And.intro k1 (And.intro k2 k3)));have KR := i' (And.intro k4 k5);have Hw0 := i' hw0;clear k0 k1 k2 k3 k4 k5 hw0;go_enter Tryz.func102,Tryz.ntmps102;go_wp2_with fail;rw [← Hw0.out];refine (HA.out _).mono ?_;rintro e wa ⟨rfl,hba⟩;have q2 := k'4i hba KK.out.2.2.1;have q3 := k'4i hba KK.out.2.2.2;have HBa := i' hba;clear hba;go_wp2_with fail;refine (HB.out _).mono ?_;rintro e wb ⟨rfl,hbb⟩;have hbc := k'4h HBa.out hbb;have k0 := k'4i hbc KK.out.1;have k1 := k'4i hbc KK.out.2.1;have k2 := k'4i hbc KK.out.2.2.1;have k3 := k'4i hbc KK.out.2.2.2;have KS := i' (And.intro (And.intro (k'4i hbc KR.out.1.1) (And.intro (k'4i hbc KR.out.1.2.1) (And.intro (k'4i hbc KR.out.1.2.2.1) (k'4i hbc KR.out.1.2.2.2)))) (And.intro (k'4j hbc KR.out.1.1 KR.out.2.1) (And.intro (k'4j hbc KR.out.1.2.1 KR.out.2.2.1) (And.intro (k'4j hbc KR.out.1.2.2.1 KR.out.2.2.2.1) (k'4j hbc KR.out.1.2.2.2 KR.out.2.2.2.2)))));have HBc := i' (k'4h hb0.out hbc);have n1 : ¬ (w.heap.size = w.heap.size + 1 + 1) := by omega
 have n2 : ¬ (w.heap.size + 1 + 1 = w.heap.size) := by omega
 clear q2 q3 hbb hbc;go_wp2_with fail;go_region_held3 (fun W' => W'.cell? ⟨w.heap.size,0,none⟩ = some (.bool a) ∧ W'.cell? ⟨w.heap.size,1,none⟩ = some (.string s) ∧ W'.cell? ⟨w.heap.size + 1,0,none⟩ = some (.bool b) ∧ W'.cell? ⟨w.heap.size + 1,1,none⟩ = some (.string t)) (go_keep)
  (first
   | (go_at_call 135; (with_reducible refine (HR1.out _).mono ?_); rintro e w1 ⟨v1,rfl,r1,b1⟩; have c1 := k'4h ((Below.refl _ _).drew) b1; have p0 := k'4i c1 k0; have p1 := k'4i c1 k1; have p2 := k'4i c1 k2; have p3 := k'4i c1 k3; have G1 := i' (And.intro r1 c1); obtain ⟨x1,x2,x3,x4,rfl,x5⟩ := r1; clear x5 b1 c1)
   | (go_at_call 135; (with_reducible refine (HR2.out _).mono ?_); rintro e w2 ⟨v2,rfl,r2,b2⟩; have c2 := k'4h G1.out.2 b2; have p0 := k'4i c2 k0; have p1 := k'4i c2 k1; have p2 := k'4i c2 k2; have p3 := k'4i c2 k3; have G2 := i' (And.intro (G1.out.1.below b2 (Nat.le_refl _)) (And.intro r2 c2)); obtain ⟨x6,x7,x8,x9,rfl,x10⟩ := r2; clear x10 b2 c2)
   | (go_at_call 134; (with_reducible refine (HP.out _ _ _ G2.out.1 G2.out.2.1).mono ?_); rintro e w3 ⟨rfl,b3⟩; have c3 := k'4h G2.out.2.2 b3; have p0 := k'4i c3 k0; have p1 := k'4i c3 k1; have p2 := k'4i c3 k2; have p3 := k'4i c3 k3; have y0 := k'4i c3 KS.out.1.1; have y1 := k'4i c3 KS.out.1.2.1; have y2 := k'4i c3 KS.out.1.2.2.1; have y3 := k'4i c3 KS.out.1.2.2.2; have y4 := k'4j c3 KS.out.1.1 KS.out.2.1; have y5 := k'4j c3 KS.out.1.2.1 KS.out.2.2.1; have y6 := k'4j c3 KS.out.1.2.2.1 KS.out.2.2.2.1; have y7 := k'4j c3 KS.out.1.2.2.2 KS.out.2.2.2.2; have G4 := i' c3; unfold rat at *; clear b3 c3)
   | fail)
 have HZ := i' (k'65 (k'4h HBc.out G4.out) (g := w.heap.size + 1 + 1) (by omega) (.bool xb) (.string xs) (.bool false) (.string ys))
 go_wp2;exact bodyPost_ret (v := .tuple #[.agg #[.bool xb,.string xs,.bool false,.string ys],.int .i64 0]) (by simp [results,Tryz.results102,go_sem,y0,y1,y2,y3]) rfl ⟨rfl,HZ.out⟩
def ZC4 (x y z u : Value) (w : World) (g : Nat) : Prop := (w.cell? ⟨g,0,none⟩ = some x ∧ w.cell? ⟨g,1,none⟩ = some y ∧ w.cell? ⟨g,2,none⟩ = some z ∧ w.cell? ⟨g,3,none⟩ = some u) ∧ w.frozen? ⟨g,0,none⟩ = false ∧ w.frozen? ⟨g,1,none⟩ = false ∧ w.frozen? ⟨g,2,none⟩ = false ∧ w.frozen? ⟨g,3,none⟩ = false
section
variable {x y z u x' y' z' u' : Value} {w w2 w3 : World} {t : TypeId} {g : Nat}
theorem ZC4.next (h : ZC4 x y z u w2 g) (b : Below w2.heap.size w2 w3) : ZC4 x y z u w3 g :=
 ⟨⟨k'4i b h.1.1,k'4i b h.1.2.1,k'4i b h.1.2.2.1,k'4i b h.1.2.2.2⟩,k'4j b h.1.1 h.2.1,k'4j b h.1.2.1 h.2.2.1,k'4j b h.1.2.2.1 h.2.2.2.1,k'4j b h.1.2.2.2 h.2.2.2.2⟩
theorem ZC4.made0 (w2 : World) : ZC4 x y z u (w2.alloc (.cells #[x,y,z,u] t)) w2.heap.size := by
 refine ⟨⟨?_,?_,?_,?_⟩,?_,?_,?_,?_⟩ <;> simp [go_sem]
theorem ZC4.made (hg : w2.heap.size = g) (b3 : Below (w2.alloc (.cells #[x,y,z,u] t)).heap.size (w2.alloc (.cells #[x,y,z,u] t)) w3) : ZC4 x y z u w3 g := by
 subst hg;exact (ZC4.made0 w2).next b3
theorem ZC4.set (h : ZC4 x' y' z' u' w g) : ZC4 x y z u ((((w.setCell ⟨g,0,none⟩ x).setCell ⟨g,1,none⟩ y).setCell ⟨g,2,none⟩ z).setCell ⟨g,3,none⟩ u) g := by
 obtain ⟨⟨h1,h2,h3,h4⟩,h5,h6,h7,h8⟩ := h;refine ⟨⟨?_,?_,?_,?_⟩,?_,?_,?_,?_⟩ <;> simp [go_sem,h1,h2,h3,h4,h5,h6,h7,h8]
theorem Rd.set4 {v : Value} {xs : List Nat} {b0 b1 : Bool} {p p' : Option Addr} {n c n' c' : Nat} (h : Rd w v xs) (q : ZC4 (.bool b0) (.slice p n c) (.bool b1) (.slice p' n' c') w g) (x y z u : Value) : Rd ((((w.setCell ⟨g,0,none⟩ x).setCell ⟨g,1,none⟩ y).setCell ⟨g,2,none⟩ z).setCell ⟨g,3,none⟩ u) v xs := by
 obtain ⟨⟨h1,h2,h3,h4⟩,_⟩ := q;refine (((h.set h1 (fun _ => by simp)).set (old := .slice p n c) ?_ (fun _ => by simp)).set (old := .bool b1) ?_ (fun _ => by simp)).set (old := .slice p' n' c') ?_ (fun _ => by simp) <;> simp [go_sem,h1,h2,h3,h4]
end
def CutF (a b : Bool) (s1 s2 : Value) (X1 X2 : List Nat) (B : Nat) (wb wx : World) (g : Nat) : Prop := B ≤ g ∧ ZC4 (.bool a) s1 (.bool b) s2 wx g ∧ Rd wx s1 X1 ∧ Rd wx s2 X2 ∧ Below B wb wx ∧ g < wx.heap.size
section
variable {a b : Bool} {s1 s2 : Value} {X1 X2 : List Nat} {B : Nat} {wb w3 : World} {t : TypeId} {b0 b1 : Bool} {p p' : Option Addr} {n c n' c' g : Nat}
theorem CutF.k1 (r1 : Rd w3 s1 X1) (r2 : Rd w3 s2 X2) (h : Below B wb w3) (hB : B ≤ w3.heap.size) : CutF a b s1 s2 X1 X2 B wb (w3.alloc (.cells #[.bool a,s1,.bool b,s2] t)) w3.heap.size :=
 ⟨hB,ZC4.made0 w3,r1.alloc _,r2.alloc _,h.alloc hB _,by simp⟩
theorem CutF.k2 (q : ZC4 (.bool b0) (.slice p n c) (.bool b1) (.slice p' n' c') w3 g) (hg : B ≤ g) (r1 : Rd w3 s1 X1) (r2 : Rd w3 s2 X2) (h : Below B wb w3) :
 CutF a b s1 s2 X1 X2 B wb ((((w3.setCell ⟨g,0,none⟩ (.bool a)).setCell ⟨g,1,none⟩ s1).setCell ⟨g,2,none⟩ (.bool b)).setCell ⟨g,3,none⟩ s2) g :=
 ⟨hg,q.set,r1.set4 q _ _ _ _,r2.set4 q _ _ _ _,k'65 h hg _ _ _ _,by
  have := World.block_lt_of_cell? w3 _ q.1.1;simpa using this⟩
theorem CutF.drew {wx : World} (h : CutF a b s1 s2 X1 X2 B wb wx g) : CutF a b s1 s2 X1 X2 B wb wx.drew g := ⟨h.1,h.2.1,h.2.2.1,h.2.2.2.1,h.2.2.2.2.1.drew,h.2.2.2.2.2⟩
end
theorem k'6a (n : Nat) : (bs n).data.toList = (Nm.dg 256 n).reverse.map UInt8.ofNat := rfl
theorem k'6b (n : Nat) : rev (bs n) = Nm.dg 256 n := by
 unfold rev;rw [k'6a,List.map_map,← List.map_reverse,List.reverse_reverse];have h := Nm.dig_dg (by decide : 2 ≤ 256) n
 conv => rhs; rw [← List.map_id (Nm.dg 256 n)]
 apply List.map_congr_left;intro x hx;have := h x hx;simp [UInt8.toNat_ofNat',Nat.mod_eq_of_lt this]
theorem k'6c (n : Nat) : bv (bs n) = n := by
 unfold bv;rw [k'6b];exact Nm.val_dg (by decide) n
theorem k'6d (n : Nat) : (bs n).size = (Nm.dg 256 n).length := by
 have h := k'3i (bs n);rw [k'6b] at h;exact h.symm
theorem k'6e (n : Nat) : Can (bs n) := by
 intro h e;have h2 : 0 < (Nm.dg 256 n).length := by rw [← k'6d]; exact h
 have h3 := Nm.nrm_last (Nm.nrm_dg (by decide : 2 ≤ 256) n) h2
 have h4 := Nm.dig_get (Nm.dig_dg (by decide : 2 ≤ 256) n) ((Nm.dg 256 n).length - 1) (by omega)
 have h5 : (bs n).data.toList[0]? = some 0 := by
  have : (bs n).data.toList[0]'h = 0 := e;exact (List.getElem?_eq_getElem (l := (bs n).data.toList) h).trans (congrArg some this)
 rw [k'6a,List.getElem?_map,List.getElem?_reverse (by omega),List.getElem?_eq_getElem (by omega)] at h5
 have h6 := Option.some.inj h5;have h7 := congrArg UInt8.toNat h6;simp only [UInt8.toNat_ofNat',Nat.sub_zero] at h7;rw [Nat.mod_eq_of_lt h4] at h7;exact h3 h7
theorem k'6f (k : Nat) : (256 : Nat) ^ k = 2 ^ (8 * k) := by rw [Nat.pow_mul]
theorem lt_256' {n k : Nat} (h : n < Top) (hk : TopBits ≤ 8 * k) : n < 256 ^ k := by
 rw [k'6f];exact Nat.lt_of_lt_of_le h (Nat.pow_le_pow_right (by decide) hk)
theorem k'6g {n k : Nat} (h : n < Top) (hk : TopBits ≤ 8 * k) : (bs n).size ≤ k := by
 rw [k'6d];refine Nm.len_le_of_val (by decide : 2 ≤ 256) (Nm.nrm_dg (by decide) n) ?_
 rw [Nm.val_dg (by decide)]
 exact lt_256' h hk
theorem k'6h {a : Bool} {n : Nat} (h : n < Top) (ha : a = true → n ≠ 0) : vld a (bs n) = true := by
 unfold vld
 split
 ·next h0 =>
  have h1 : (bs n).size ≤ 8192 := k'6g h (by rw [k'43]; decide)
  have h2 : ((bs n)[0] != 0) = true := by simpa using k'6e n h0
  rw [decide_eq_true h1,h2]; rfl
 ·next h0 =>
  have hn : n = 0 := by
   have := k'6c n;rw [(k'58 (k'6e n)).2 (by omega)] at this
   exact this.symm
  cases a with
  | false => rfl
  | true => exact absurd hn (ha rfl)
def zb (z : Int) : Bool := decide (z < 0)
def zs (z : Int) : ByteArray := bs z.natAbs
theorem k'6j {z : Int} (h : z.natAbs < Top) : vld (zb z) (zs z) = true := k'6h h fun hz => by
 have : z < 0 := of_decide_eq_true hz;omega
theorem k'6k (z : Int) : bv (zs z) = z.natAbs := k'6c _
theorem k'6l {z : Int} (h : z.natAbs < Top) : sgV (zb z) (zs z) = Int.sign z := by
 have hv := k'6j h;have hc := k'4l hv;have h1 := k'58 hc;rw [k'6k] at h1;unfold sgV;rcases Int.lt_trichotomy z 0 with g | g | g
 ·have hb : zb z = true := decide_eq_true g
  have h2 : 0 < (zs z).size := by
   rcases Nat.eq_zero_or_pos (zs z).size with h3 | h3
   ·have := h1.2 h3; omega
   ·exact h3
  rw [if_pos ⟨hv,h2⟩,if_pos hb,Int.sign_eq_neg_one_of_neg g]
 ·subst g
  rw [if_neg (by intro h3; have := h1.1 rfl; omega)]
  rfl
 ·have hb : zb z = false := decide_eq_false (by omega)
  have h2 : 0 < (zs z).size := by
   rcases Nat.eq_zero_or_pos (zs z).size with h3 | h3
   ·have := h1.2 h3; omega
   ·exact h3
  rw [if_pos ⟨hv,h2⟩,if_neg (by rw [hb]; simp),Int.sign_eq_one_of_pos g]
theorem k'6m {z : Int} (h : z.natAbs < Top) : (zs z).size ≤ 8192 := k'4m (k'6j h)
def ds (s : ByteArray) : ByteArray := ⟨(Lib.trimPrefix s.data.toList [45]).toArray⟩
def AllD (d : ByteArray) : Prop := ∀ k (h : k < d.size),48 ≤ d[k].toNat ∧ d[k].toNat ≤ 57
instance (d : ByteArray) : Decidable (AllD d) := Nat.decidableBallLT _ _
theorem k'6o (a : Bool) (s : ByteArray) (w : World) (hs : s.size ≤ 140737488351232) : Calls Tryz.prog 35 #[.agg #[.bool a,.string s]] w (BPost (vld a s) w) := by
 rcases Nat.eq_zero_or_pos s.size with h0 | h0
 ·have E : Hid (vld a s = !a) := by show _ = _; unfold vld; rw [dif_neg (by omega)]
  have h1 : ((s.size : Int) == 0) = true := beq_iff_eq.2 (by omega)
  have hb : Hid (Below w.heap.size w (w.alloc (.cells #[.bool a,.string s] 44))) := (Below.refl _ _).alloc (Nat.le_refl _) _;clear h0;go_enter Tryz.func35,Tryz.ntmps35;go_wp2;go_ret;exact ⟨by rw [E.out]; rfl,hb.out⟩
 ·have E : Hid (vld a s = (decide (s.size ≤ 8192) && (s[0] != 0))) := by show _ = _; unfold vld; rw [dif_pos h0]
  have h1 : ((s.size : Int) == 0) = false := beq_eq_false_iff_ne.2 (by omega)
  have hb : Hid (Below w.heap.size w (w.alloc (.cells #[.bool a,.string s] 44))) := (Below.refl _ _).alloc (Nat.le_refl _) _;by_cases h2 : s.size ≤ 8192
  ·have e2 : Hid (((s[0].toNat : Int) != 0) = (s[0] != 0)) := by
    show _ = _;by_cases hz : s[0] = 0
    ·simp [hz]
    ·have : s[0].toNat ≠ 0 := fun h => hz (UInt8.toNat_inj.1 h)
     have h3 : ((s[0].toNat : Int) != 0) = true := by simp; omega
     rw [h3]; symm; simpa using hz
   have hd : Hid (decide (s.size ≤ 8192) = true) := decide_eq_true h2;go_enter Tryz.func35,Tryz.ntmps35;go_wp2;go_ret;exact ⟨by rw [E.out,hd.out,Bool.true_and,← e2.out]; rfl,hb.out⟩
  ·have hd : Hid (decide (s.size ≤ 8192) = false) := decide_eq_false h2
   go_enter Tryz.func35,Tryz.ntmps35;go_wp2;go_ret;exact ⟨by rw [E.out,hd.out,Bool.false_and]; rfl,hb.out⟩
def D9 : Nat := 1000000000
theorem D92 : 2 ≤ D9 := by decide
theorem D90 : 0 < D9 := by decide
def iv (l : List Nat) : List Value := l.map fun (n : Nat) => Value.int .i64 (n : Int)
theorem k'6p (l : List Nat) : (iv l).length = l.length := by simp [iv]
theorem k'6q (l : List Nat) (k : Nat) (h : k < l.length) : (iv l)[k]? = some (.int .i64 (l[k] : Int)) := by simp [iv,List.getElem?_eq_getElem h]
theorem k'6r (l : List Nat) (x : Nat) : iv (l ++ [x]) = iv l ++ [Value.int .i64 (x : Int)] := by simp [iv]
def IntB (w : World) (b : Nat) : Prop := b < w.heap.size ∧ ∃ (cur : Array Value) (fz : Nat × Nat),w.heap[b]? = some (.cells cur 3 fz)
theorem IntB.keep {w w' : World} {b : Nat} (h : IntB w b) (hs : w.heap.size ≤ w'.heap.size) (hb : w'.heap[b]? = w.heap[b]?) : IntB w' b := ⟨Nat.lt_of_lt_of_le h.1 hs,by rw [hb]; exact h.2⟩
theorem IntB.set {w : World} {b : Nat} (h : IntB w b) (a : Addr) (v : Value) : IntB (w.setCell a v) b := by
 obtain ⟨h1,cur,fz,h2⟩ := h;refine ⟨by simpa [World.setCell] using h1,?_⟩
 by_cases e : a.block = b
 ·subst e
  exact ⟨_,fz,by simp [World.setCell,Array.getElem?_modify,h2]; rfl⟩
 ·exact ⟨cur,fz,by simp [World.setCell,Array.getElem?_modify,h2,e]⟩
theorem IntB.below {w w' : World} {B b : Nat} (h : IntB w b) (hb : Below B w w') (hB : w.heap.size ≤ B) : IntB w' b := h.keep hb.size (hb.block b (Nat.lt_of_lt_of_le h.1 hB))
def Ri (w : World) (v : Value) (xs : List Nat) : Prop :=
 ∃ (p : Option Addr) (b off cap : Nat),v = .slice p xs.length cap ∧ xs.length ≤ cap ∧ cap ≤ maxLen ∧ (xs ≠ [] → p = some ⟨b,off,none⟩) ∧ ((p = none ∧ cap = 0) ∨ (p = some ⟨b,off,none⟩ ∧ IntB w b)) ∧
  ∀ k (h : k < xs.length),w.cell? ⟨b,off + k,none⟩ = some (.int .i64 (xs[k] : Int))
theorem Ri.below {w w' : World} {B : Nat} {v : Value} {xs : List Nat} (h : Ri w v xs) (hb : Below B w w') (hB : w.heap.size ≤ B) : Ri w' v xs := by
 obtain ⟨p,b,off,cap,h1,h2,h3,h4,h5,h6⟩ := h;refine ⟨p,b,off,cap,h1,h2,h3,h4,?_,fun k hk => ?_⟩
 ·rcases h5 with h5 | ⟨h5,h7⟩
  ·exact Or.inl h5
  ·exact Or.inr ⟨h5,h7.below hb hB⟩
 ·have hl : b < w.heap.size := World.block_lt_of_cell? w _ (h6 k hk)
  rw [hb.cell (p := ⟨b,off + k,none⟩) (Nat.lt_of_lt_of_le hl hB)];exact h6 k hk
theorem Ri.drewN {w : World} {v : Value} {xs : List Nat} (h : Ri w v xs) (n : Nat) : Ri (w.drewN n) v xs := h
theorem Ri.nil (w : World) : Ri w (.slice none 0 0) [] := ⟨none,0,0,0,rfl,by simp,by simp,fun h => absurd rfl h,Or.inl ⟨rfl,rfl⟩,fun k h => absurd h (by simp)⟩
theorem Ri.of_own {w : World} {B : Nat} {v : Value} {l : List Nat} (h : w.ownsRow B 3 1 v l.length (iv l)) : Ri w v l := by
 rcases h.2 with ⟨rfl,h0⟩ | ⟨g,cap,cur,rfl,hB,hg,hn,hm,hs,ht⟩
 ·rw [List.eq_nil_of_length_eq_zero h0]; exact Ri.nil w
 ·refine ⟨some ⟨g,0,none⟩,g,0,cap,rfl,hn,hm,fun _ => rfl,Or.inr ⟨rfl,lt_of_block hg,cur,_,hg⟩,fun k hk => ?_⟩
  have := h.cells (g := g) rfl k (.int .i64 (l[k] : Int)) (k'6q l k hk);have hadd : ((⟨g,0,none⟩ : Addr).add k) = ⟨g,0 + k,none⟩ := by unfold Addr.add; split <;> simp_all
  rwa [hadd] at this
def lenOf : Value → Nat
 | .slice _ n _ => n
 | _ => 0
def GivesI (n : Nat) (w : World) (e : Ending) (w' : World) : Prop := ∃ v,e = .returned v ∧ Ri w' v (Nm.dg D9 n) ∧ Below w.heap.size w w'
def TrimI (xs : List Nat) (w : World) (e : Ending) (w' : World) : Prop := ∃ v,e = .returned v ∧ Ri w v (Nm.trimL xs) ∧ w = w'
theorem k'6s (v : Value) (xs : List Nat) (w : World) (h : Ri w v xs) : Calls Tryz.prog 95 #[v] w (TrimI xs w) := by
 obtain ⟨p,b,off,cap,rfl,h2,h3,h4,h5,h6⟩ := h;have hc := h3;unfold maxLen at hc;have hl : xs.length ≤ 9223372036854775807 := by omega
 have H4 := i' h4;have H5 := i' h5;have H6 := i' h6;have H23 := i' (And.intro h2 h3);clear h2 h3 h4 h5 h6 hc;go_enter Tryz.func95,Tryz.ntmps95;go_wp2;go_loop [0] (fun v => ∃ k : Nat,k ≤ xs.length ∧ v = .slice p k cap ∧ Hid (∀ i (h : i < xs.length),k ≤ i → xs[i] = 0)) (fun v => lenOf v)
 case atStart => exact ⟨xs.length,Nat.le_refl _,rfl,fun i h hi => absurd h (by omega)⟩
 case round =>
  obtain ⟨k,hk,rfl,hz⟩ := hrel;have htake : ∀ n,n ≤ xs.length → Ri w (.slice p n cap) (xs.take n) := by
   intro n hn;have e : (xs.take n).length = n := by simp; omega
   refine ⟨p,b,off,cap,by rw [e],by have := H23.out.1; omega,H23.out.2,fun hne => H4.out (fun e0 => hne (by rw [e0]; simp)),H5.out,fun j hj => ?_⟩
   rw [e] at hj;rw [H6.out j (by omega)]; simp
  have HT := i' htake;clear htake;rcases Nat.eq_zero_or_pos k with h0 | h0
  ·subst h0
   have e0 : Hid (Nm.trimL xs = xs.take 0) := Nm.trimL_take (Nat.zero_le _) (fun i h _ => hz.out i h (Nat.zero_le _)) trivial;go_wp2;go_ret;exact ⟨_,rfl,by rw [e0.out]; exact HT.out 0 (Nat.zero_le _),rfl⟩
  ·obtain ⟨j,rfl⟩ : ∃ j,k = j + 1 := ⟨k - 1,by omega⟩
   have hj : j < xs.length := by omega
   obtain rfl := H4.out (by intro e; rw [e] at hj; exact absurd hj (Nat.not_lt_zero _))
   have hcell := H6.out j hj;have hjc : j ≤ cap := by have := H23.out.1; omega
   by_cases hv : xs[j] = 0
   ·have HV := i' hv
    have hvi : ((xs[j] : Int) == 0) = true := by simp [hv]
    clear hv;go_wp2;go_round
    case rel =>
     refine ⟨j,by omega,rfl,fun i h hi => ?_⟩
     rcases Nat.lt_or_ge j i with g | g
     ·exact hz.out i h g
     ·obtain rfl : i = j := by omega
      exact HV.out
    case measure => simp [lenOf]
   ·have e0 : Hid (Nm.trimL xs = xs.take (j + 1)) := Nm.trimL_take hk hz.out (Nm.nrm_take_last hj hv)
    have hvi : ((xs[j] : Int) == 0) = false := by simp [hv]
    clear hv;go_wp2;go_ret;exact ⟨_,rfl,by rw [e0.out]; exact HT.out (j + 1) hk,rfl⟩
end Go.Proofs.YtepddegphdlbeaaGreat
