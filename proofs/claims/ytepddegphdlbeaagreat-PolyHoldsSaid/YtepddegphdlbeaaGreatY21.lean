/- What the theorem leans on, part Y21. -/
import Derived.Test.YtepddegphdlbeaaGreatY14
import Derived.Test.YtepddegphdlbeaaGreatY12
import Derived.Test.YtepddegphdlbeaaGreatY11
import Derived.Test.YtepddegphdlbeaaGreatY10
import Derived.Test.YtepddegphdlbeaaGreatY7
import Derived.Test.YtepddegphdlbeaaGreatY4
import Derived.Test.YtepddegphdlbeaaGreatY3
import Derived.Test.YtepddegphdlbeaaGreatY2
import Derived.Test.YtepddegphdlbeaaGreatY1
import Derived.Test.YtepddegphdlbeaaGreatY0
import Derived.Test.YtepddegphdlbeaaGreatProg
import Derived.WalkKit
import Derived.WalkSpells
import Derived.WalkLawsBesides
import Derived.Lib.Hide
import Derived.Deep.QuietTactic
import Derived.BigQuiet
import Derived.Shelf.Small.Bits
import Derived.Shelf.Small.Wraps
import Derived.Shelf.Strconv.Itoa0
import Derived.Shelf.Bits.Mul64
import Derived.Ground.Names2Prog
import Derived.Shelf.Slices.SearchI
import Derived.Shelf.Spec.BitsCarry
import Derived.Deep.LoopGhost
import Derived.Deep.RegionHeld3
import Derived.Deep.DeepCutAuto
import Derived.Test.YtepddegphdlbeaaGreatY6
import Derived.Test.YtepddegphdlbeaaGreatY5
import Derived.Laws.AppendOwnNone
import Derived.Test.YtepddegphdlbeaaGreatY8
import Derived.Test.YtepddegphdlbeaaGreatY9
import Derived.Below
import Derived.Maps.AppendAt
import Derived.Lib.SliceRun
import Derived.Test.YtepddegphdlbeaaGreatY13
import Derived.IntWalk
import Derived.RangeFuncNested
import Derived.RangeFuncBound
import Derived.RangeFuncCalls
import Derived.RangeFuncLeaves
import Derived.Shelf.Abstract
import Derived.Shelf.RegionOpen
import Derived.OwnWalkIn
import Derived.TacticsInMore
import Derived.LoopNIn
import Derived.LoopIn
import Derived.OrdersIn
import Derived.Deep.RegionHeld
import Derived.Test.YtepddegphdlbeaaGreatY20
import Derived.Test.YtepddegphdlbeaaGreatY16
import Derived.Test.YtepddegphdlbeaaGreatY15
import Derived.Test.YtepddegphdlbeaaGreatY17
import Derived.Test.YtepddegphdlbeaaGreatY18
import Derived.Laws.StructEq
import Derived.Test.YtepddegphdlbeaaGreatY19
set_option maxRecDepth 100000
set_option maxHeartbeats 16000000
set_option linter.all false
namespace Go.Proofs.YtepddegphdlbeaaGreat
open Go.RowKit
def Nt : Nat → Nat
 | 10 => 64
 | 9 => 129
 | 8 => 324
 | 7 => 779
 | 6 => 1884
 | 5 => 4549
 | 4 => 10984
 | 3 => 26519
 | 2 => 64024
 | _ => 200000
def b0 (i : Nat) : Nat := if i = 9 then 64 else 66
def SE (p q : List Int) : Prop := p.length ≤ 9 ∧ q.length ≤ 9 ∧ ((Pl.mx p < 2 ^ b0 p.length ∧ Pl.mx q < 2 ^ b0 q.length) ∨ (q.length < p.length ∧ Pl.mx p < 2 ^ Nt (p.length + 1) ∧ Pl.mx q < 2 ^ Nt p.length))
theorem k'p7 : ∀ i : Fin 10,∀ j : Fin 10,1 ≤ j.val → j.val ≤ i.val → b0 j.val ≤ Nt (j.val + 1) ∧ b0 i.val + (i.val + 1 - j.val) * (b0 j.val + 1) ≤ Nt j.val := by decide
theorem k'p8 : ∀ i : Fin 10,∀ j : Fin 10,1 ≤ j.val → j.val < i.val → Nt i.val ≤ Nt (j.val + 1) ∧ Nt (i.val + 1) + (i.val + 1 - j.val) * (Nt i.val + 1) ≤ Nt j.val := by decide
theorem k'p9 : ∀ j : Fin 11,2 ≤ j.val → Nt j.val ≤ 65000 := by decide
theorem k'pc {p q : List Int} {a b : Nat} (hp : Pl.mx p < 2 ^ a) (hq : Pl.mx q < 2 ^ b) : (2 * Pl.mx q) ^ (p.length + 1 - q.length) * Pl.mx p < 2 ^ (a + (p.length + 1 - q.length) * (b + 1)) := by
 have h1 : (2 * Pl.mx q) ^ (p.length + 1 - q.length) ≤ (2 ^ (b + 1)) ^ (p.length + 1 - q.length) := Nat.pow_le_pow_left (by rw [Nat.pow_succ]; omega) _
 rw [← Nat.pow_mul] at h1;rw [Nat.add_comm a,Nat.pow_add,Nat.mul_comm (p.length + 1 - q.length)];exact Nat.mul_lt_mul_of_le_of_lt h1 hp (Nat.pow_pos (by decide))
theorem k'pd {p q : List Int} {a b c : Nat} (hp : Pl.mx p < 2 ^ a) (hq : Pl.mx q < 2 ^ b) (hc : a + (p.length + 1 - q.length) * (b + 1) ≤ c) : Pl.mx (Pl.prim (Pl.rest p q)) < 2 ^ c :=
 Nat.lt_of_le_of_lt (Pl.mx_prim _) (Nat.lt_of_le_of_lt (Pl.mx_rest p q) (Nat.lt_of_lt_of_le (k'pc hp hq) (Nat.pow_le_pow_right (by decide) hc)))
theorem k'pe {p : List Int} {a b : Nat} (h : Pl.mx p < 2 ^ a) (hab : a ≤ b) : Pl.mx p < 2 ^ b := Nat.lt_of_lt_of_le h (Nat.pow_le_pow_right (by decide) hab)
theorem SE.step {p q : List Int} (h : SE p q) (h1 : 1 ≤ q.length) (h2 : q.length ≤ p.length) : SE q (Pl.prim (Pl.rest p q)) := by
 obtain ⟨l1,l2,h⟩ := h;have hl := Pl.rest_length (p := p) (q := q) (by omega)
 refine ⟨l2,by rw [Pl.prim_length]; omega,Or.inr ⟨by rw [Pl.prim_length]; exact hl,?_⟩⟩
 rcases h with ⟨a1,a2⟩ | ⟨a0,a1,a2⟩
 ·have := k'p7 ⟨p.length,by omega⟩ ⟨q.length,by omega⟩ h1 h2
  exact ⟨k'pe a2 this.1,k'pd a1 a2 this.2⟩
 ·have := k'p8 ⟨p.length,by omega⟩ ⟨q.length,by omega⟩ h1 a0
  exact ⟨k'pe a2 this.1,k'pd a1 a2 this.2⟩
theorem k'pf {p : List Int} {a : Nat} (h : Pl.mx p < 2 ^ a) (ha : a ≤ 65000) : ∀ x ∈ p,x.natAbs < Top := fun x hx => by
 exact Nat.lt_of_le_of_lt (Pl.mx_mem hx) (Nat.lt_of_lt_of_le h (k'lb (by omega)))
def SEk (p q : List Int) : Prop := SE p q ∧ Pl.prim p = p ∧ Pl.prim q = q ∧ Pl.Nrm p ∧ Pl.Nrm q
theorem k'pg {p : List Int} (h : p.length = 1) (hp : Pl.Nrm p) (hn : Pl.prim p = p) : Pl.mx p < 2 ^ 64 := by
 obtain ⟨a,rfl⟩ := List.length_eq_one_iff.1 h;have ha : a ≠ 0 := by have := hp (by simp); simpa using this
 have h1 := congrArg (fun l => Pl.cf l 0) hn;simp only [Pl.cf_prim,Pl.cf_cons_zero] at h1;have h2 : Pl.cont [a] = a.natAbs := by simp [Pl.cont]
 rw [h2] at h1;have h3 : Pl.mx [a] = a.natAbs := by simp [Pl.mx]
 rw [h3];have h4 : (a.natAbs : Int) ≠ 0 := by omega
 rcases Int.le_total 0 a with g | g
 ·have e : (a.natAbs : Int) = a := by omega
  rw [e,Int.ediv_self ha] at h1;omega
 ·have e : (a.natAbs : Int) = -a := by omega
  rw [e,Int.ediv_neg,Int.ediv_self ha] at h1;omega
theorem k'ph : Pl.Euk SEk := by
 refine ⟨fun p q h => ?_,fun p q h => ?_,fun p q h h1 h2 => ?_,fun p q h h1 h2 => ?_⟩
 ·obtain ⟨⟨l1,l2,h⟩,e1,e2,n1,n2⟩ := h
  rcases h with ⟨a1,a2⟩ | ⟨a0,a1,a2⟩
  ·exact k'pf a1 (by unfold b0; split <;> omega)
  ·exact k'pf a1 (k'p9 ⟨p.length + 1,by omega⟩ (by simp; omega))
 ·obtain ⟨⟨l1,l2,h⟩,e1,e2,n1,n2⟩ := h
  rcases h with ⟨a1,a2⟩ | ⟨a0,a1,a2⟩
  ·exact k'pf a2 (by unfold b0; split <;> omega)
  ·rcases Nat.lt_or_ge 1 p.length with g | g
   ·exact k'pf a2 (k'p9 ⟨p.length,by omega⟩ g)
   ·obtain rfl := List.eq_nil_of_length_eq_zero (show q.length = 0 by omega)
    intro x hx; cases hx
 ·obtain ⟨⟨l1,l2,h⟩,e1,e2,n1,n2⟩ := h
  have key : ∀ c,c ≤ 65000 → 2 ^ c ≤ Top := fun c hc => k'lb (by omega)
  rcases h with ⟨a1,a2⟩ | ⟨a0,a1,a2⟩
  ·have h3 := (k'p7 ⟨p.length,by omega⟩ ⟨q.length,by omega⟩ (by simp; omega) h2).2
   exact Nat.lt_of_lt_of_le (k'pc a1 a2) (key _ (Nat.le_trans h3 (k'p9 ⟨q.length,by omega⟩ h1)))
  ·have h3 := (k'p8 ⟨p.length,by omega⟩ ⟨q.length,by omega⟩ (by simp; omega) a0).2
   exact Nat.lt_of_lt_of_le (k'pc a1 a2) (key _ (Nat.le_trans h3 (k'p9 ⟨q.length,by omega⟩ h1)))
 ·obtain ⟨s,e1,e2,n1,n2⟩ := h
  exact ⟨s.step (by omega) h2,e2,Pl.prim_prim (Pl.rest_nrm p q),n2,Pl.prim_nrm (Pl.rest_nrm p q)⟩
def Avoid (g : Nat) (v : Value) : Prop := ∀ p n c,v = .slice p n c → ∀ a,p = some a → a.block ≠ g
theorem RP.stored {w : World} {v : Value} {p L : List Int} {g : Nat} (h : RP w v p) (hn : Avoid g v) (hA : Ap w g L) (k : Nat) (hk : k < L.length) (x u : Value) : RP ((w.setCell ⟨g,k * 2,none⟩ x).setCell ⟨g,k * 2 + 1,none⟩ u) v p := by
 obtain ⟨a,b,off,cap,rfl,h2,h3,h4,h5⟩ := h;refine ⟨a,b,off,cap,rfl,h2,h3,h4,fun j hj => ?_⟩;obtain ⟨y,g0,g1,g2⟩ := h5 j hj;have hb : b ≠ g := hn a p.length cap rfl ⟨b,off,none⟩ (h4 (by intro e; rw [e] at hj; simp at hj))
 refine ⟨y,?_,?_,hA.stored k hk g2 x u⟩
 ·rw [World.cell?_setCell_other _ _ _ _ (by intro e; injection e with e1; exact hb e1.symm),World.cell?_setCell_other _ _ _ _ (by intro e; injection e with e1; exact hb e1.symm)]
  exact g0
 ·rw [World.cell?_setCell_other _ _ _ _ (by intro e; injection e with e1; exact hb e1.symm),World.cell?_setCell_other _ _ _ _ (by intro e; injection e with e1; exact hb e1.symm)]
  exact g1
def sml (L : List (Bool × ByteArray)) : Prop := ∀ j (hj : j < L.length),L[j].2.size ≤ 8
section
variable {x y z u x' y' z' u' : Value} {w w2 w3 : World} {t : TypeId} {o : Obj} {g g2 : Nat}
theorem ZC4.alloc (h : ZC4 x y z u w g) (o : Obj) : ZC4 x y z u (w.alloc o) g := h.next (k'5u w o)
theorem ZC4.new (hg : g = w.heap.size) : ZC4 x y z u (w.alloc (.cells #[x,y,z,u] t)) g := by subst hg; exact ZC4.made0 w
theorem ZC4.made1 (hg : w2.heap.size = g) (b3 : Below ((w2.alloc (.cells #[x,y,z,u] t)).alloc o).heap.size ((w2.alloc (.cells #[x,y,z,u] t)).alloc o) w3) : ZC4 x y z u w3 g := by
 subst hg;exact ((ZC4.made0 w2).alloc o).next b3
theorem ZC4.other (h : ZC4 x y z u w g) (hn : ¬ g = g2) : ZC4 x y z u ((((w.setCell ⟨g2,0,none⟩ x').setCell ⟨g2,1,none⟩ y').setCell ⟨g2,2,none⟩ z').setCell ⟨g2,3,none⟩ u') g := by
 obtain ⟨⟨h1,h2,h3,h4⟩,h5,h6,h7,h8⟩ := h;have hn2 : ¬ g2 = g := fun e => hn e.symm;refine ⟨⟨?_,?_,?_,?_⟩,?_,?_,?_,?_⟩ <;> simp [go_sem,h1,h2,h3,h4,h5,h6,h7,h8,hn,hn2]
end
def CutQ (x1 s1 y1 t1 x2 s2 y2 t2 : Value) (X1 Y1 X2 Y2 : List Nat) (B : Nat) (wb wx : World) (g7 g8 : Nat) : Prop :=
 (B ≤ g7 ∧ B ≤ g8) ∧ ZC4 x1 s1 y1 t1 wx g7 ∧ ZC4 x2 s2 y2 t2 wx g8 ∧ (Ri wx s1 X1 ∧ Ri wx t1 Y1 ∧ Ri wx s2 X2 ∧ Ri wx t2 Y2) ∧ Below B wb wx
def R4 (w : World) (s1 t1 s2 t2 : Value) (X1 Y1 X2 Y2 : List Nat) : Prop := Ri w s1 X1 ∧ Ri w t1 Y1 ∧ Ri w s2 X2 ∧ Ri w t2 Y2
section
variable {x1 s1 y1 t1 x2 s2 y2 t2 : Value} {X1 Y1 X2 Y2 : List Nat} {B : Nat} {wb w3 : World} {t : TypeId} {b0 b1 c0 c1 : Bool} {p p' q q' : Option Addr} {n c n' c' m d m' d' g g' : Nat}
theorem R4.allocd (h : R4 w3 s1 t1 s2 t2 X1 Y1 X2 Y2) (o : Obj) : R4 (w3.alloc o) s1 t1 s2 t2 X1 Y1 X2 Y2 := ⟨h.1.allocd o,h.2.1.allocd o,h.2.2.1.allocd o,h.2.2.2.allocd o⟩
theorem R4.set4 (h : R4 w3 s1 t1 s2 t2 X1 Y1 X2 Y2) (z : ZC4 (.bool b0) (.slice p n c) (.bool b1) (.slice p' n' c') w3 g) (a1 a2 a3 a4 : Value) : R4 ((((w3.setCell ⟨g,0,none⟩ a1).setCell ⟨g,1,none⟩ a2).setCell ⟨g,2,none⟩ a3).setCell ⟨g,3,none⟩ a4) s1 t1 s2 t2 X1 Y1 X2 Y2 :=
 ⟨h.1.set4 z _ _ _ _,h.2.1.set4 z _ _ _ _,h.2.2.1.set4 z _ _ _ _,h.2.2.2.set4 z _ _ _ _⟩
theorem CutQ.k1 (r : R4 w3 s1 t1 s2 t2 X1 Y1 X2 Y2) (b : Below B wb w3) (hB : B ≤ w3.heap.size) : CutQ x1 s1 y1 t1 x2 s2 y2 t2 X1 Y1 X2 Y2 B wb ((w3.alloc (.cells #[x1,s1,y1,t1] t)).alloc (.cells #[x2,s2,y2,t2] t)) w3.heap.size (w3.heap.size + 1) :=
 ⟨⟨hB,by omega⟩,(ZC4.new rfl).alloc _,ZC4.new (by simp),(r.allocd _).allocd _,(b.alloc hB _).alloc (by simp; omega) _⟩
theorem CutQ.k2 (r : R4 w3 s1 t1 s2 t2 X1 Y1 X2 Y2) (b : Below B wb w3) (hB : B ≤ w3.heap.size) : CutQ x1 s1 y1 t1 x2 s2 y2 t2 X1 Y1 X2 Y2 B wb ((w3.alloc (.cells #[x2,s2,y2,t2] t)).alloc (.cells #[x1,s1,y1,t1] t)) (w3.heap.size + 1) w3.heap.size :=
 ⟨⟨by omega,hB⟩,ZC4.new (by simp),(ZC4.new rfl).alloc _,(r.allocd _).allocd _,(b.alloc hB _).alloc (by simp; omega) _⟩
theorem CutQ.k3 (z : ZC4 (.bool b0) (.slice p n c) (.bool b1) (.slice p' n' c') w3 g) (hg : B ≤ g) (r : R4 w3 s1 t1 s2 t2 X1 Y1 X2 Y2) (b : Below B wb w3) (hB : B ≤ w3.heap.size) :
 CutQ x1 s1 y1 t1 x2 s2 y2 t2 X1 Y1 X2 Y2 B wb (((((w3.setCell ⟨g,0,none⟩ x1).setCell ⟨g,1,none⟩ s1).setCell ⟨g,2,none⟩ y1).setCell ⟨g,3,none⟩ t1).alloc (.cells #[x2,s2,y2,t2] t)) g w3.heap.size :=
 ⟨⟨hg,hB⟩,z.set.alloc _,ZC4.new (by simp),(r.set4 z _ _ _ _).allocd _,(k'65 b hg _ _ _ _).alloc (by simpa using hB) _⟩
theorem CutQ.k4 (z : ZC4 (.bool b0) (.slice p n c) (.bool b1) (.slice p' n' c') w3 g) (hg : B ≤ g) (r : R4 w3 s1 t1 s2 t2 X1 Y1 X2 Y2) (b : Below B wb w3) (hB : B ≤ w3.heap.size) :
 CutQ x1 s1 y1 t1 x2 s2 y2 t2 X1 Y1 X2 Y2 B wb (((((w3.setCell ⟨g,0,none⟩ x2).setCell ⟨g,1,none⟩ s2).setCell ⟨g,2,none⟩ y2).setCell ⟨g,3,none⟩ t2).alloc (.cells #[x1,s1,y1,t1] t)) w3.heap.size g :=
 ⟨⟨hB,hg⟩,ZC4.new (by simp),z.set.alloc _,(r.set4 z _ _ _ _).allocd _,(k'65 b hg _ _ _ _).alloc (by simpa using hB) _⟩
theorem CutQ.k5 (z : ZC4 (.bool b0) (.slice p n c) (.bool b1) (.slice p' n' c') w3 g) (hg : B ≤ g) (z' : ZC4 (.bool c0) (.slice q m d) (.bool c1) (.slice q' m' d') w3 g') (hg' : B ≤ g') (hn : ¬ g = g') (r : R4 w3 s1 t1 s2 t2 X1 Y1 X2 Y2) (b : Below B wb w3) :
 CutQ x1 s1 y1 t1 x2 s2 y2 t2 X1 Y1 X2 Y2 B wb ((((((((w3.setCell ⟨g,0,none⟩ x1).setCell ⟨g,1,none⟩ s1).setCell ⟨g,2,none⟩ y1).setCell ⟨g,3,none⟩ t1).setCell ⟨g',0,none⟩ x2).setCell ⟨g',1,none⟩ s2).setCell ⟨g',2,none⟩ y2).setCell ⟨g',3,none⟩ t2) g g' :=
 have zz := z'.other (x' := x1) (y' := s1) (z' := y1) (u' := t1) (fun e => hn e.symm)
 ⟨⟨hg,hg'⟩,z.set.other hn,zz.set,(r.set4 z _ _ _ _).set4 zz _ _ _ _,k'65 (k'65 b hg _ _ _ _) hg' _ _ _ _⟩
end
theorem k'pr {a b : Nat} (h : a + 1 ≤ b) : ¬ a = b ∧ ¬ b = a ∧ ¬ a = b + 1 ∧ ¬ b + 1 = a := ⟨by omega,by omega,by omega,by omega⟩
noncomputable def tlA (k : Nat) : Code → Option (Code × Code)
 | .seq (.region n o g) b => if n = k then some (.region n o g,b) else tlA k b
 | .seq _ b => tlA k b
 | _ => none
noncomputable def tlB (k : Nat) : Code → Option (Code × Code × Code)
 | .seq (.seq (.region n o g) c) b => if n = k then some (.region n o g,c,b) else tlB k b
 | .seq _ b => tlB k b
 | _ => none
theorem k'ps {w wz : World} {p1 p2 : Option Addr} {n1 n2 c1x c2x : Nat} {vM : Value} {M G T D : List Int} {ma : Bool} {ms : ByteArray} {aA aB aC aD aE aF aG aH aI aJ aK aL aM aN aO aP aQ aR aS aT aU aV aW aX aY aZ bA bB bC bD bE bF bG bH bI bJ bK bL bM bN bO bP bQ bR bS bT bU bV bW bX bY bZ cA cB cC cD cE cF cG cH cI cJ cK cL cM cN cO cP cQ cR cS cT cU cV cW cX cY cZ dA dB dC dD dE dF dG dH dI dJ dK dL dM dN dO dP dQ dR dS dT dU dV dW dX dY dZ eA eB eC eD eE eF eG eH eI eJ eK eL eM eN eO eP eQ eR eS eT eU eV eW eX eY eZ fA fB fC fD fE fF fG fH fI fJ fK fL fM fN fO fP fQ fR fS fT fU fV fW fX fY fZ gA gB gC gD gE gF gG gH gI gJ gK gL gM gN gO gP gQ gR gS gT gU gV gW gX gY gZ hA hB hC hD hE hF hG hH hI hJ hL hM hN hO hP hQ hR hS hT hU hV hW hX hY hZ iA iB iC iD iE iF iG iH iI iJ iK iL iM iN iO iP iQ iR iS iT iU iW iX iY iZ jA jB jC jD jE jF jG jH jI jJ jK jL jM jN jO jP jQ jR jS jT jU jV jW jX jY jZ kA kB kC kD kE kF kG kH kI kJ kK kL kM kN kO kP kQ kR kS kT kU kV kW kX kY kZ lA lB lC lD lE lF lG lH lI lJ lK lL lM lN lO lP lQ lR lS lT lU lV lW lX lY lZ mA mB mC mD mE mF : Value}
 {K K1 : Act → World → Prop}
 (hK : ∀ a w',Code.wp Tryz.prog ((Tryz.f10.body.bind (tlB 28)).getD (.skip,.skip,.skip)).2.1 (Exit.then K1 (bodyPost Tryz.prog Tryz.f10 (fun e w' => e = .returned (.bool true) ∧ Below w.heap.size w w'))) a w' → K a w')
 (hK1 : ∀ a w',Code.wp Tryz.prog ((Tryz.f10.body.bind (tlB 28)).getD (.skip,.skip,.skip)).2.2 (bodyPost Tryz.prog Tryz.f10 (fun e w' => e = .returned (.bool true) ∧ Below w.heap.size w w')) a w' → K1 a w')
 (l1 : n1 ≤ 9223372036854775807) (l2 : n2 ≤ 9223372036854775807)
 (E : Below w.heap.size w wz) (RM : Rp wz vM M)
 (HG1 : ∀ w',Below w.heap.size w w' → Calls Tryz.prog 55 #[.slice p1 n1 c1x,.slice p2 n2 c2x] w' (ResP G w'))
 (Hw : ∀ w',Calls Tryz.prog 63 #[.int .i64 (-2)] w' (Ret (.agg #[.bool ma,.string ms]) w'))
 (HSc : ∀ w',Below w.heap.size w w' → Calls Tryz.prog 31 #[.slice p1 n1 c1x,.agg #[.bool ma,.string ms]] w' (ResP T w'))
 (HG2 : ∀ w' v,Below w.heap.size w w' → Rp w' v T → Calls Tryz.prog 55 #[v,.slice p2 n2 c2x] w' (ResP G w'))
 (HSG : ∀ w' v u,Rp w' v G → Rp w' u G → Calls Tryz.prog 18 #[v,u] w' (BPost true w'))
 (HK3 : ((n1 = 0 ∧ n2 = 0 ∧ G = [])) ∨ ((n2 = 0 ∧ 0 < G.length ∧ (∀ w' v,Below w.heap.size w w' → Rp w' v G → Calls Tryz.prog 53 #[.slice p1 n1 c1x,v] w' (ResP [] w')) ∧ (∀ w' v,Below w.heap.size w w' → Rp w' v G → Calls Tryz.prog 53 #[.slice p2 n2 c2x,v] w' (ResP [] w')))) ∨ ((0 < n2 ∧ 0 < G.length ∧ (∀ w' v,Below w.heap.size w w' → Rp w' v M → Calls Tryz.prog 54 #[v,.slice p2 n2 c2x] w' (ResP D w')) ∧ (∀ w' v,Rp w' v D → Below w.heap.size w w' → Calls Tryz.prog 18 #[v,.slice p1 n1 c1x] w' (BPost true w')) ∧ (∀ w' v,Below w.heap.size w w' → Rp w' v G → Calls Tryz.prog 53 #[.slice p1 n1 c1x,v] w' (ResP [] w')) ∧ (∀ w' v,Below w.heap.size w w' → Rp w' v G → Calls Tryz.prog 53 #[.slice p2 n2 c2x,v] w' (ResP [] w'))))) :
 Code.wp Tryz.prog ((Tryz.f10.body.bind (tlB 28)).getD (.skip,.skip,.skip)).1 (Exit.then K (Exit.then K1 (bodyPost Tryz.prog Tryz.f10 (fun e w' => e = .returned (.bool true) ∧ Below w.heap.size w w')))) ⟨#[.slice p1 n1 c1x,.slice p2 n2 c2x,aA,aB,aC,aD,aE,aF,aG,aH,aI,aJ,aK,aL,aM,vM,aN,aO,aP,aQ,aR,aS,aT,aU,aV,aW,aX,aY,aZ,bA,bB,bC,bD,bE,bF,bG,bH,bI,bJ,bK,bL,bM,bN,bO,bP,bQ,bR,bS,bT,bU,bV,bW,bX,bY,bZ,cA,cB,cC,cD,cE,cF,cG,cH,cI,cJ,cK,cL,cM,cN,cO,cP,cQ,cR,cS,cT,cU,cV,cW,cX,cY,cZ,dA,dB,dC,dD,dE,dF,dG,dH,dI,dJ,dK,dL,dM,dN,dO,dP,dQ,dR,dS,dT,dU,dV,dW,dX,dY,dZ,eA,eB,eC,eD,eE,eF,eG,eH,eI,eJ,eK,eL,eM,eN,eO,eP,eQ,eR,eS,eT,eU,eV,eW,eX,eY,eZ,fA,fB,fC,fD,fE,fF,fG,fH,fI,fJ,fK,fL,fM,fN,fO,fP,fQ,fR,fS,fT,fU,fV,fW,fX,fY,fZ,gA,gB,gC,gD,gE,gF,gG,gH,gI,gJ,gK,gL,gM,gN,gO,gP,gQ,gR,gS,gT,gU,gV,gW,gX,gY,gZ,hA,hB,hC,hD,hE,hF,hG,hH,hI,hJ,hL,hM,hN,hO,hP,hQ,hR,hS,hT,hU,hV,hW,hX,hY,hZ,iA,iB,iC,iD,iE,iF,iG,iH,iI,iJ,iK,iL,iM,iN,iO,iP,iQ,iR,iS,iT,iU,iW,iX,iY,iZ,jA,jB,jC,jD,jE,jF,jG,jH,jI,jJ,jK,jL,jM,jN,jO,jP,jQ,jR,jS,jT,jU,jV,jW,jX,jY,jZ,kA,kB,kC,kD,kE,kF,kG,kH,kI,kJ,kK,kL,kM,kN,kO,kP,kQ,kR,kS,kT,kU,kV,kW,kX,kY,kZ,lA,lB,lC,lD,lE,lF,lG,lH,lI,lJ,lK,lL,lM,lN,lO,lP,lQ,lR,lS,lT,lU,lV,lW,lX,lY,lZ,mA,mB,mC,mD,mE,mF],[]⟩ wz := by
 have HK := i' k'nq;have HP : Hid (∀ w' v T,Rp w' v T → ∃ a c,v = .slice a T.length c) := fun w' v T h => by obtain ⟨a,b,o,c,h,-⟩ := h.open_; exact ⟨a,c,h⟩
 have E := i' E;have RM := i' RM;have HG1 := i' HG1;have Hw := i' Hw;have HSc := i' HSc;have HG2 := i' HG2;have HSG := i' HSG;have HK3 := i' HK3;unfold BPost at *;unfold ResP at *;unfold Ret at *
 conv at hK => enter [a,w',1,2]; whnf
 conv at hK1 => enter [a,w',1,2]; whnf
 conv => arg 2; whnf
 rcases HK3.out with HK3 | HK3 | HK3
 ·obtain ⟨t1,t2,t3⟩ := HK3
  subst t1 t2;clear RM;go_wp2_with fail;refine (HG1.out _ E.out).mono ?_;rintro e x35 ⟨y35,rfl,r35,d35⟩;have E := i' (k'4h E.out d35);have RG := i' r35;clear r35;clear d35;go_wp2_with fail;refine (Hw.out _).mono ?_;rintro e x36 ⟨rfl,d36⟩;have RG := i' (RG.out.below d36);have E := i' (k'4h E.out d36);clear d36;go_wp2_with fail;refine (HSc.out _ E.out).mono ?_;rintro e x37 ⟨y37,rfl,r37,d37⟩;have RG := i' (RG.out.below d37);have E := i' (k'4h E.out d37);have RT := i' r37;clear r37;clear d37;go_wp2_with fail;refine (HG2.out _ _ E.out RT.out).mono ?_;rintro e x38 ⟨y38,rfl,r38,d38⟩;have RG := i' (RG.out.below d38);have RT := i' (RT.out.below d38);have E := i' (k'4h E.out d38);have RG2 := i' r38;clear r38;clear d38;clear RT;go_wp2_with fail;refine (HSG.out _ _ _ RG.out RG2.out).mono ?_;rintro e x39 ⟨rfl,d39⟩;have RG := i' (RG.out.below d39);have RG2 := i' (RG2.out.below d39);have E := i' (k'4h E.out d39);clear d39;clear RG2;obtain ⟨ag,cg,rfl⟩ := HP.out _ _ _ RG.out;subst t3;go_wp2_with fail;refine (HK.out _).mono ?_;rintro e x40 ⟨rfl,d40⟩;have RG := i' (RG.out.below d40);have E := i' (k'4h E.out d40);clear d40;go_wp2;go_ret;exact ⟨rfl,E.out⟩
 ·obtain ⟨t2,t3,HT1,HT2⟩ := HK3
  subst t2;have HT1 := i' HT1;have HT2 := i' HT2;have t3 : (0 : Int) < (G.length : Int) := by omega
  have t4 : ((G.length : Int) == 0) = false := by rw [beq_eq_false_iff_ne]; omega
  clear RM;go_wp2_with fail;refine (HG1.out _ E.out).mono ?_;rintro e x41 ⟨y41,rfl,r41,d41⟩;have E := i' (k'4h E.out d41);have RG := i' r41;clear r41;clear d41;go_wp2_with fail;refine (Hw.out _).mono ?_;rintro e x42 ⟨rfl,d42⟩;have RG := i' (RG.out.below d42);have E := i' (k'4h E.out d42);clear d42;go_wp2_with fail;refine (HSc.out _ E.out).mono ?_;rintro e x43 ⟨y43,rfl,r43,d43⟩;have RG := i' (RG.out.below d43);have E := i' (k'4h E.out d43);have RT := i' r43;clear r43;clear d43;go_wp2_with fail;refine (HG2.out _ _ E.out RT.out).mono ?_;rintro e x44 ⟨y44,rfl,r44,d44⟩;have RG := i' (RG.out.below d44);have RT := i' (RT.out.below d44);have E := i' (k'4h E.out d44);have RG2 := i' r44;clear r44;clear d44;clear RT;go_wp2_with fail;refine (HSG.out _ _ _ RG.out RG2.out).mono ?_;rintro e x45 ⟨rfl,d45⟩;have RG := i' (RG.out.below d45);have RG2 := i' (RG2.out.below d45);have E := i' (k'4h E.out d45);clear d45;clear RG2;obtain ⟨ag,cg,rfl⟩ := HP.out _ _ _ RG.out;go_wp2_with fail;refine (HT1.out _ _ E.out RG.out).mono ?_;rintro e x46 ⟨y46,rfl,r46,d46⟩;have RG := i' (RG.out.below d46);have E := i' (k'4h E.out d46);have RX := i' r46;clear r46;clear d46;go_wp2_with fail;refine (HT2.out _ _ E.out RG.out).mono ?_;rintro e x47 ⟨y47,rfl,r47,d47⟩;have RG := i' (RG.out.below d47);have RX := i' (RX.out.below d47);have E := i' (k'4h E.out d47);have RY := i' r47;clear r47;clear d47;obtain ⟨ax,cx,rfl⟩ := HP.out _ _ _ RX.out;obtain ⟨ay,cy,rfl⟩ := HP.out _ _ _ RY.out;go_wp2_with fail;refine (HK.out _).mono ?_;rintro e x48 ⟨rfl,d48⟩;have RG := i' (RG.out.below d48);have E := i' (k'4h E.out d48);clear d48;go_wp2;go_ret;exact ⟨rfl,E.out⟩
 ·obtain ⟨t2,t3,HDv,HSD,HT1,HT2⟩ := HK3
  have t2 : (0 : Int) < (n2 : Int) := by omega
  have HDv := i' HDv;have HSD := i' HSD;have HT1 := i' HT1;have HT2 := i' HT2;have t3 : (0 : Int) < (G.length : Int) := by omega
  have t4 : ((G.length : Int) == 0) = false := by rw [beq_eq_false_iff_ne]; omega
  go_wp2_with fail;refine (HDv.out _ _ E.out RM.out).mono ?_;rintro e x49 ⟨y49,rfl,r49,d49⟩;have RM := i' (RM.out.below d49);have E := i' (k'4h E.out d49);have RD := i' r49;clear r49;clear d49;go_wp2_with fail;refine (HSD.out _ _ RD.out E.out).mono ?_;rintro e x50 ⟨rfl,d50⟩;have RM := i' (RM.out.below d50);have RD := i' (RD.out.below d50);have E := i' (k'4h E.out d50);clear d50;clear RD;clear RM;go_wp2_with fail;refine (HG1.out _ E.out).mono ?_;rintro e x51 ⟨y51,rfl,r51,d51⟩;have E := i' (k'4h E.out d51);have RG := i' r51;clear r51;clear d51;go_wp2_with fail;refine (Hw.out _).mono ?_;rintro e x52 ⟨rfl,d52⟩;have RG := i' (RG.out.below d52);have E := i' (k'4h E.out d52);clear d52;go_wp2_with fail;refine (HSc.out _ E.out).mono ?_;rintro e x53 ⟨y53,rfl,r53,d53⟩;have RG := i' (RG.out.below d53);have E := i' (k'4h E.out d53);have RT := i' r53;clear r53;clear d53;go_wp2_with fail;refine (HG2.out _ _ E.out RT.out).mono ?_;rintro e x54 ⟨y54,rfl,r54,d54⟩;have RG := i' (RG.out.below d54);have RT := i' (RT.out.below d54);have E := i' (k'4h E.out d54);have RG2 := i' r54;clear r54;clear d54;clear RT;go_wp2_with fail;refine (HSG.out _ _ _ RG.out RG2.out).mono ?_;rintro e x55 ⟨rfl,d55⟩;have RG := i' (RG.out.below d55);have RG2 := i' (RG2.out.below d55);have E := i' (k'4h E.out d55);clear d55;clear RG2;obtain ⟨ag,cg,rfl⟩ := HP.out _ _ _ RG.out;go_wp2_with fail;refine (HT1.out _ _ E.out RG.out).mono ?_;rintro e x56 ⟨y56,rfl,r56,d56⟩;have RG := i' (RG.out.below d56);have E := i' (k'4h E.out d56);have RX := i' r56;clear r56;clear d56;go_wp2_with fail;refine (HT2.out _ _ E.out RG.out).mono ?_;rintro e x57 ⟨y57,rfl,r57,d57⟩;have RG := i' (RG.out.below d57);have RX := i' (RX.out.below d57);have E := i' (k'4h E.out d57);have RY := i' r57;clear r57;clear d57;obtain ⟨ax,cx,rfl⟩ := HP.out _ _ _ RX.out;obtain ⟨ay,cy,rfl⟩ := HP.out _ _ _ RY.out;go_wp2_with fail;refine (HK.out _).mono ?_;rintro e x58 ⟨rfl,d58⟩;have RG := i' (RG.out.below d58);have E := i' (k'4h E.out d58);clear d58;go_wp2;go_ret;exact ⟨rfl,E.out⟩
theorem k'pt {z0 : World} {ga gb : Nat} {X1 Y1 X2 Y2 : Int} {xa xb ya yb : Bool} {xs xt ys yt : ByteArray} {aA aB aC aD aE aF aG aH aI aJ aK aL aM aN aO aP aQ aR aS aT aU aV aW aX aY aZ bA bB bC bD bE bF bG bH bI bJ bK bL bM bN bO bP bQ bR bS bT bU bV bW bX bY bZ cA cB cC cD cE cF cG cH cI cJ cK cL cM cN cO cP cQ cR cS cT cU cV cW cX cY cZ dA dB dC dD dE dF dG dH dI dJ dK dL dM dN dO dP dQ dR dS dT dU dV dW dX dY dZ eA eB eC eD eE eF eG eH eI eJ eK eL eM eN eO eP eQ eR eS eT eU eV eW eX eY eZ fA fB fC fD fE fF fG fH fI fJ fK fL fM fN fO fP fQ fR fS fT fU fV fW fX fY fZ gA gB gC gD gE gF gG gH gI gJ gK gL gM gN gO gP gQ gR gS gT gU gV gW gX gY gZ hA hB hC hD hE hF hG hH hI hJ hL hM hN hO hP hQ hR hS hT hU hV hW hX hY hZ iA iB iC iD iE iF iG iH iI iJ iK iL iM iN iO iP iQ iR iS iT iU iW iX iY iZ jA jB jC jD jE jF jG jH jI jJ jK jL jM jN jO jP jQ jR jS jT jU jV jW jX jY jZ kA kB kC kD kE kF kG kH kI kJ kK kL kM kN kO kP kQ kR kS kT kU kV kW kX kY kZ lA lB lC lD lE lF lG lH lI lJ lK lL lM lN lO lP lQ lR lS lT lU lV lW lX lY lZ mA mB mC mD mE mF mG : Value} {K : Act → World → Prop} {Q : Exit → Act → World → Prop}
 (hK : ∀ (g7 g8 : Nat) (y1 y2 y3 y4 : Option Addr) (m1 c1 m2 c2 m3 c3 m4 c4 : Nat) (q0 q1 q2 q3 : Value) (wx : World),CutQ (.bool (decide (X1 < 0))) (.slice y1 m1 c1) (.bool (decide (Y1 < 0))) (.slice y2 m2 c2) (.bool (decide (X2 < 0))) (.slice y3 m3 c3) (.bool (decide (Y2 < 0))) (.slice y4 m4 c4) (Nm.dg D9 X1.natAbs) (Nm.dg D9 Y1.natAbs) (Nm.dg D9 X2.natAbs) (Nm.dg D9 Y2.natAbs) z0.heap.size z0 wx g7 g8 → K ⟨#[aA,aB,aC,aD,aE,aF,aG,aH,aI,aJ,aK,aL,aM,aN,aO,aP,aQ,aR,aS,.pointer (some ⟨ga,0,none⟩),.pointer (some ⟨gb,0,none⟩),aT,aU,.pointer (some ⟨g7,0,none⟩),.pointer (some ⟨g8,0,none⟩),aX,aY,aZ,bA,bB,bC,bD,bE,bF,bG,bH,bI,bJ,bK,bL,bM,bN,bO,bP,bQ,bR,bS,bT,bU,bV,bW,bX,bY,bZ,cA,cB,cC,cD,cE,cF,cG,cH,cI,cJ,cK,cL,cM,cN,cO,cP,cQ,cR,cS,cT,cU,cV,cW,cX,cY,cZ,dA,dB,dC,dD,dE,dF,dG,dH,dI,dJ,dK,dL,dM,dN,dO,dP,dQ,dR,dS,dT,dU,dV,dW,dX,dY,dZ,eA,eB,eC,eD,eE,eF,eG,eH,eI,eJ,eK,eL,eM,eN,eO,eP,eQ,eR,eS,eT,eU,eV,eW,eX,eY,eZ,fA,fB,fC,fD,fE,fF,fG,fH,fI,fJ,fK,fL,fM,fN,fO,fP,fQ,fR,fS,fT,fU,fV,fW,fX,fY,fZ,gA,gB,gC,gD,gE,gF,gG,gH,gI,gJ,gK,gL,gM,gN,gO,gP,gQ,gR,gS,gT,gU,gV,gW,gX,gY,gZ,hA,hB,hC,hD,hE,hF,hG,hH,hI,hJ,hL,hM,hN,hO,hP,hQ,hR,hS,hT,q0,q1,q2,q3,hY,hZ,iA,iB,iC,iD,iE,iF,iG,iH,iI,iJ,iK,iL,iM,iN,iO,iP,iQ,iR,iS,iT,iU,iW,iX,iY,iZ,jA,jB,jC,jD,jE,jF,jG,jH,jI,jJ,jK,jL,jM,jN,jO,jP,jQ,jR,jS,jT,jU,jV,jW,jX,jY,jZ,kA,kB,kC,kD,kE,kF,kG,kH,kI,kJ,kK,kL,kM,kN,kO,kP,kQ,kR,kS,kT,kU,kV,kW,kX,kY,kZ,lA,lB,lC,lD,lE,lF,lG,lH,lI,lJ,lK,lL,lM,lN,lO,lP,lQ,lR,lS,lT,lU,lV,lW,lX,lY,lZ,mA,mB,mC,mD,mE,mF,mG],[]⟩ wx)
 (TA : ZC4 (.bool xa) (.string xs) (.bool xb) (.string xt) z0 ga) (TB : ZC4 (.bool ya) (.string ys) (.bool yb) (.string yt) z0 gb)
 (HF1 : ∀ w',Calls Tryz.prog 46 #[.agg #[.bool xa,.string xs,.bool xb,.string xt]] w' (RQPost X1 Y1 w')) (HF2 : ∀ w',Calls Tryz.prog 46 #[.agg #[.bool ya,.string ys,.bool yb,.string yt]] w' (RQPost X2 Y2 w')) :
 Code.wp Tryz.prog ((Tryz.f10.body.bind (tlA 25)).getD (.skip,.skip)).1 (Exit.then K Q) ⟨#[aA,aB,aC,aD,aE,aF,aG,aH,aI,aJ,aK,aL,aM,aN,aO,aP,aQ,aR,aS,.pointer (some ⟨ga,0,none⟩),.pointer (some ⟨gb,0,none⟩),aT,aU,aV,aW,aX,aY,aZ,bA,bB,bC,bD,bE,bF,bG,bH,bI,bJ,bK,bL,bM,bN,bO,bP,bQ,bR,bS,bT,bU,bV,bW,bX,bY,bZ,cA,cB,cC,cD,cE,cF,cG,cH,cI,cJ,cK,cL,cM,cN,cO,cP,cQ,cR,cS,cT,cU,cV,cW,cX,cY,cZ,dA,dB,dC,dD,dE,dF,dG,dH,dI,dJ,dK,dL,dM,dN,dO,dP,dQ,dR,dS,dT,dU,dV,dW,dX,dY,dZ,eA,eB,eC,eD,eE,eF,eG,eH,eI,eJ,eK,eL,eM,eN,eO,eP,eQ,eR,eS,eT,eU,eV,eW,eX,eY,eZ,fA,fB,fC,fD,fE,fF,fG,fH,fI,fJ,fK,fL,fM,fN,fO,fP,fQ,fR,fS,fT,fU,fV,fW,fX,fY,fZ,gA,gB,gC,gD,gE,gF,gG,gH,gI,gJ,gK,gL,gM,gN,gO,gP,gQ,gR,gS,gT,gU,gV,gW,gX,gY,gZ,hA,hB,hC,hD,hE,hF,hG,hH,hI,hJ,hL,hM,hN,hO,hP,hQ,hR,hS,hT,hU,hV,hW,hX,hY,hZ,iA,iB,iC,iD,iE,iF,iG,iH,iI,iJ,iK,iL,iM,iN,iO,iP,iQ,iR,iS,iT,iU,iW,iX,iY,iZ,jA,jB,jC,jD,jE,jF,jG,jH,jI,jJ,jK,jL,jM,jN,jO,jP,jQ,jR,jS,jT,jU,jV,jW,jX,jY,jZ,kA,kB,kC,kD,kE,kF,kG,kH,kI,kJ,kK,kL,kM,kN,kO,kP,kQ,kR,kS,kT,kU,kV,kW,kX,kY,kZ,lA,lB,lC,lD,lE,lF,lG,lH,lI,lJ,lK,lL,lM,lN,lO,lP,lQ,lR,lS,lT,lU,lV,lW,lX,lY,lZ,mA,mB,mC,mD,mE,mF,mG],[]⟩ z0 := by
 have HF1 := i' HF1;have HF2 := i' HF2;have hKK := i' hK;clear hK;unfold RQPost at *;unfold qV at *;generalize decide (X1 < 0) = bx1 at *;generalize decide (Y1 < 0) = by1 at *;generalize decide (X2 < 0) = bx2 at *;generalize decide (Y2 < 0) = by2 at *;have hs19 : ga + 1 ≤ z0.heap.size := by
  obtain ⟨⟨-,-,-,k⟩,-⟩ := TA;exact World.block_lt_of_cell? _ _ k
 have hs20 : gb + 1 ≤ z0.heap.size := by
  obtain ⟨⟨-,-,-,k⟩,-⟩ := TB;exact World.block_lt_of_cell? _ _ k
 have HSB := i' (And.intro hs19 hs20);clear hs19 hs20;obtain ⟨⟨k0,k1,k2,k3⟩,_⟩ := TA;obtain ⟨⟨k4,k5,k6,k7⟩,_⟩ := TB;obtain ⟨jaa,jab,jac,jad⟩ := k'pr HSB.out.1;obtain ⟨jba,jbb,jbc,jbd⟩ := k'pr HSB.out.2
 conv => arg 2; whnf
 go_region_held3 (fun W' => W'.cell? ⟨ga,0,none⟩ = some (.bool xa) ∧ W'.cell? ⟨ga,1,none⟩ = some (.string xs) ∧ W'.cell? ⟨ga,2,none⟩ = some (.bool xb) ∧ W'.cell? ⟨ga,3,none⟩ = some (.string xt) ∧ W'.cell? ⟨gb,0,none⟩ = some (.bool ya) ∧ W'.cell? ⟨gb,1,none⟩ = some (.string ys) ∧ W'.cell? ⟨gb,2,none⟩ = some (.bool yb) ∧ W'.cell? ⟨gb,3,none⟩ = some (.string yt)) (go_keep)
  (first
   | (go_at_call 46; (with_reducible refine (HF1.out _).mono ?_); rintro e w1 ⟨v1,z1,rfl,r1,q1,b1⟩; (try (have b1 := k'60 b1)); have d1 : Below z0.heap.size z0 w1 := k'4h (by first | exact Below.refl _ _ | exact (Below.refl _ _).drew | exact k'5u _ _ | exact (k'5u _ _).drew | exact k'5v _ _ _ | exact (k'5v _ _ _).drew | exact ((Below.refl _ _).drew).alloc (Nat.le_refl _) _ | exact (((Below.refl _ _).drew).alloc (Nat.le_refl _) _).alloc (by simp) _) b1; have c1 : Below z0.heap.size z0 w1 := d1; have p0 := k'4i c1 k0; have p1 := k'4i c1 k1; have p2 := k'4i c1 k2; have p3 := k'4i c1 k3; have p4 := k'4i c1 k4; have p5 := k'4i c1 k5; have p6 := k'4i c1 k6; have p7 := k'4i c1 k7; obtain ⟨j1a,j1b,j1c,j1d⟩ := k'pr (Nat.le_trans HSB.out.1 c1.size); obtain ⟨j1e,j1f,j1g,j1h⟩ := k'pr (Nat.le_trans HSB.out.2 c1.size); (try (have A0 := i' (ZC4.made (g := z0.heap.size) rfl b1); obtain ⟨⟨A0a,A0b,A0c,A0d⟩,A0e,A0f,A0g,A0h⟩ := A0.out)); (try (have A0 := i' (ZC4.made1 (g := z0.heap.size) rfl b1); have B0 := i' (ZC4.made (g := z0.heap.size + 1) (by simp) b1); obtain ⟨⟨A0a,A0b,A0c,A0d⟩,A0e,A0f,A0g,A0h⟩ := A0.out; obtain ⟨⟨B0a,B0b,B0c,B0d⟩,B0e,B0f,B0g,B0h⟩ := B0.out)); (try (have L01 := i' (k'5x (g := z0.heap.size) rfl b1); obtain ⟨l01x,l01y,l01z⟩ := L01.out)); (try (have MM := i' (k'5y (g := z0.heap.size) rfl b1); have L01 := i' MM.out.1; have M01 := i' MM.out.2; clear MM; obtain ⟨l01x,l01y,l01z⟩ := L01.out; obtain ⟨m01x,m01y,m01z⟩ := M01.out)); have G1 := i' (And.intro r1 q1); obtain ⟨pp1,bb1,oo1,cc1,rfl,rr1⟩ := r1; obtain ⟨pq1,bq1,oq1,cq1,rfl,rq1⟩ := q1; clear rr1 rq1)
   | (go_at_call 46; (with_reducible refine (HF2.out _).mono ?_); rintro e w2 ⟨v2,z2,rfl,r2,q2,b2⟩; (try (have b2 := k'60 b2)); have d2 : Below w1.heap.size w1 w2 := k'4h (by first | exact Below.refl _ _ | exact (Below.refl _ _).drew | exact k'5u _ _ | exact (k'5u _ _).drew | exact k'5v _ _ _ | exact (k'5v _ _ _).drew | exact ((Below.refl _ _).drew).alloc (Nat.le_refl _) _ | exact (((Below.refl _ _).drew).alloc (Nat.le_refl _) _).alloc (by simp) _) b2; have c2 : Below z0.heap.size z0 w2 := k'4h c1 d2; have p0 := k'4i c2 k0; have p1 := k'4i c2 k1; have p2 := k'4i c2 k2; have p3 := k'4i c2 k3; have p4 := k'4i c2 k4; have p5 := k'4i c2 k5; have p6 := k'4i c2 k6; have p7 := k'4i c2 k7; obtain ⟨j2a,j2b,j2c,j2d⟩ := k'pr (Nat.le_trans HSB.out.1 c2.size); obtain ⟨j2e,j2f,j2g,j2h⟩ := k'pr (Nat.le_trans HSB.out.2 c2.size); (try (have A1 := i' (ZC4.made (g := w1.heap.size) rfl b2); obtain ⟨⟨A1a,A1b,A1c,A1d⟩,A1e,A1f,A1g,A1h⟩ := A1.out)); (try (have A1 := i' (ZC4.made1 (g := w1.heap.size) rfl b2); have B1 := i' (ZC4.made (g := w1.heap.size + 1) (by simp) b2); obtain ⟨⟨A1a,A1b,A1c,A1d⟩,A1e,A1f,A1g,A1h⟩ := A1.out; obtain ⟨⟨B1a,B1b,B1c,B1d⟩,B1e,B1f,B1g,B1h⟩ := B1.out)); (try (have A0 := i' (A0.out.next d2); obtain ⟨⟨A0a,A0b,A0c,A0d⟩,A0e,A0f,A0g,A0h⟩ := A0.out)); (try (have B0 := i' (B0.out.next d2); obtain ⟨⟨B0a,B0b,B0c,B0d⟩,B0e,B0f,B0g,B0h⟩ := B0.out)); (try (have L02 := i' (k'5z L01.out d2.size); obtain ⟨l02x,l02y,l02z⟩ := L02.out)); (try (have M02 := i' (k'5z M01.out d2.size); obtain ⟨m02x,m02y,m02z⟩ := M02.out)); (try (have L12 := i' (k'5x (g := w1.heap.size) rfl b2); obtain ⟨l12x,l12y,l12z⟩ := L12.out)); (try (have MM := i' (k'5y (g := w1.heap.size) rfl b2); have L12 := i' MM.out.1; have M12 := i' MM.out.2; clear MM; obtain ⟨l12x,l12y,l12z⟩ := L12.out; obtain ⟨m12x,m12y,m12z⟩ := M12.out)); have G2 := i' (show R4 _ _ _ _ _ _ _ _ _ from ⟨Ri.below G1.out.1 d2 (Nat.le_refl _),Ri.below G1.out.2 d2 (Nat.le_refl _),r2,q2⟩); obtain ⟨pp2,bb2,oo2,cc2,rfl,rr2⟩ := r2; obtain ⟨pq2,bq2,oq2,cq2,rfl,rq2⟩ := q2; clear rr2 rq2)
   | fail)
 all_goals
  have r := G2.out;refine hKK.out _ _ pp1 pq1 pp2 pq2 (Nm.dg D9 X1.natAbs).length cc1 (Nm.dg D9 Y1.natAbs).length cq1 (Nm.dg D9 X2.natAbs).length cc2 (Nm.dg D9 Y2.natAbs).length cq2 _ _ _ _ _ ?_;show CutQ (.bool bx1) (.slice pp1 _ cc1) (.bool by1) (.slice pq1 _ cq1) (.bool bx2) (.slice pp2 _ cc2) (.bool by2) (.slice pq2 _ cq2) (Nm.dg D9 X1.natAbs) (Nm.dg D9 Y1.natAbs) (Nm.dg D9 X2.natAbs) (Nm.dg D9 Y2.natAbs) z0.heap.size z0 _ _ _;have sA0 : z0.heap.size ≤ z0.heap.size := Nat.le_refl _;have sB0 : z0.heap.size ≤ z0.heap.size + 1 := Nat.le_succ _;have sA1 : z0.heap.size ≤ w1.heap.size := c1.size;have sB1 : z0.heap.size ≤ w1.heap.size + 1 := Nat.le_succ_of_le sA1;have sA2 : z0.heap.size ≤ w2.heap.size := c2.size;have n0 : ¬ z0.heap.size = z0.heap.size + 1 := Nat.ne_of_lt (Nat.lt_succ_self _);have n1 : ¬ w1.heap.size = w1.heap.size + 1 := Nat.ne_of_lt (Nat.lt_succ_self _);have m0 : ¬ z0.heap.size + 1 = z0.heap.size := fun e => n0 e.symm;have m1 : ¬ w1.heap.size + 1 = w1.heap.size := fun e => n1 e.symm
  first
   | with_reducible exact CutQ.k1 r c2 sA2
   | with_reducible exact CutQ.k2 r c2 sA2
   | with_reducible exact CutQ.k3 A0.out sA0 r c2 sA2
   | with_reducible exact CutQ.k4 A0.out sA0 r c2 sA2
   | with_reducible exact CutQ.k3 A1.out sA1 r c2 sA2
   | with_reducible exact CutQ.k4 A1.out sA1 r c2 sA2
   | with_reducible exact CutQ.k3 B0.out sB0 r c2 sA2
   | with_reducible exact CutQ.k4 B0.out sB0 r c2 sA2
   | with_reducible exact CutQ.k3 B1.out sB1 r c2 sA2
   | with_reducible exact CutQ.k4 B1.out sB1 r c2 sA2
   | with_reducible exact CutQ.k5 A0.out sA0 B0.out sB0 n0 r c2
   | with_reducible exact CutQ.k5 B0.out sB0 A0.out sA0 m0 r c2
   | with_reducible exact CutQ.k5 A1.out sA1 B1.out sB1 n1 r c2
   | with_reducible exact CutQ.k5 B1.out sB1 A1.out sA1 m1 r c2
   | with_reducible exact CutQ.k5 A0.out sA0 A1.out sA1 l01x r c2
   | with_reducible exact CutQ.k5 A1.out sA1 A0.out sA0 l01y r c2
   | fail
theorem k'pu {w y25 : World} {p1 p2 : Option Addr} {n1 n2 c1x c2x gc gd g7 g8 m1 c1 m2 c2 m3 c3 m4 c4 : Nat} {e1 e2 e3 e4 : Option Addr} {vM : Value} {M G T D : List Int} {X1 Y1 X2 Y2 X3 Y3 X4 Y4 XA YA XM YM : Int} {ua ub va vb ma : Bool} {us ut vs vt ms : ByteArray} {aA aB aC aD aE aF aG aH aI aJ aK aL aM aN aO aP aQ aR aS aT aU aV aW aX aY aZ bA bB bC bD bE bF bG bH bI bJ bK bL bM bN bO bP bQ bR bS bT bU bV bW bX bY bZ cA cB cC cD cE cF cG cH cI cJ cK cL cM cN cO cP cQ cR cS cT cU cV cW cX cY cZ dA dB dC dD dE dF dG dH dI dJ dK dL dM dN dO dP dQ dR dS dT dU dV dW dX dY dZ eA eB eC eD eE eF eG eH eI eJ eK eL eM eN eO eP eQ eR eS eT eU eV eW eX eY eZ fA fB fC fD fE fF fG fH fI fJ fK fL fM fN fO fP fQ fR fS fT fU fV fW fX fY fZ gA gB gC gD gE gF gG gH gI gJ gK gL gM gN gO gP gQ gR gS gT gU gV gW gX gY gZ hA hB hC hD hE hF hG hH hI hJ hL hM hN hO hP hQ hR hS hT hU hV hW hX hY hZ iA iB iC iD iE iF iG iH iI iJ iK iL iM iN iO iP iQ iR iS iT iU iW iX iY iZ jA jB jC jD jE jF jG jH jI jJ jK jL jM jN jO jP jQ jR jS jT jU jV jW jX jY jZ kA kB kC kD kE kF kG kH kI kJ kK kL kM kN kO kP kQ kR kS kT kU kV kW kX kY kZ lA lB lC lD lE lF lG lH lI lJ lK lL lM lN lO lP lQ lR lS lT lU lV lW lX lY lZ mA mB : Value}
 {K K1 : Act → World → Prop}
 (hK : ∀ a w',Code.wp Tryz.prog ((Tryz.f10.body.bind (tlB 26)).getD (.skip,.skip,.skip)).2.1 (Exit.then K1 (bodyPost Tryz.prog Tryz.f10 (fun e w' => e = .returned (.bool true) ∧ Below w.heap.size w w'))) a w' → K a w')
 (hK1 : ∀ a w',Code.wp Tryz.prog ((Tryz.f10.body.bind (tlB 26)).getD (.skip,.skip,.skip)).2.2 (bodyPost Tryz.prog Tryz.f10 (fun e w' => e = .returned (.bool true) ∧ Below w.heap.size w w')) a w' → K1 a w')
 (l1 : n1 ≤ 9223372036854775807) (l2 : n2 ≤ 9223372036854775807)
 (E : Below w.heap.size w y25) (RM : Rp y25 vM M)
 (T21 : ZC4 (.bool ua) (.string us) (.bool ub) (.string ut) y25 gc) (T22 : ZC4 (.bool va) (.string vs) (.bool vb) (.string vt) y25 gd)
 (T23 : ZC4 (.bool (decide (X1 < 0))) (.slice e1 m1 c1) (.bool (decide (Y1 < 0))) (.slice e2 m2 c2) y25 g7) (T24 : ZC4 (.bool (decide (X2 < 0))) (.slice e3 m3 c3) (.bool (decide (Y2 < 0))) (.slice e4 m4 c4) y25 g8)
 (R1 : Rz y25 (.slice e1 m1 c1) X1) (R2 : Rz y25 (.slice e2 m2 c2) Y1) (R3 : Rz y25 (.slice e3 m3 c3) X2) (R4 : Rz y25 (.slice e4 m4 c4) Y2)
 (HF3 : ∀ w',Calls Tryz.prog 46 #[.agg #[.bool ua,.string us,.bool ub,.string ut]] w' (RQPost X3 Y3 w'))
 (HF4 : ∀ w',Calls Tryz.prog 46 #[.agg #[.bool va,.string vs,.bool vb,.string vt]] w' (RQPost X4 Y4 w'))
 (HAQ : ∀ w' v1 v2 v3 v4,Rz w' v1 X1 → Rz w' v2 Y1 → Rz w' v3 X2 → Rz w' v4 Y2 → Calls Tryz.prog 61 #[qV X1 Y1 v1 v2,qV X2 Y2 v3 v4] w' (RQPost XA YA w'))
 (HCA : ∀ w' v1 v2 v3 v4,Rz w' v1 XA → Rz w' v2 YA → Rz w' v3 X3 → Rz w' v4 Y3 → Calls Tryz.prog 60 #[qV XA YA v1 v2,qV X3 Y3 v3 v4] w' (SignPost 0 w'))
 (HMQ : ∀ w' v1 v2 v3 v4,Rz w' v1 X1 → Rz w' v2 Y1 → Rz w' v3 X2 → Rz w' v4 Y2 → Calls Tryz.prog 62 #[qV X1 Y1 v1 v2,qV X2 Y2 v3 v4] w' (RQPost XM YM w'))
 (HCM : ∀ w' v1 v2 v3 v4,Rz w' v1 XM → Rz w' v2 YM → Rz w' v3 X4 → Rz w' v4 Y4 → Calls Tryz.prog 60 #[qV XM YM v1 v2,qV X4 Y4 v3 v4] w' (SignPost 0 w'))
 (HG1 : ∀ w',Below w.heap.size w w' → Calls Tryz.prog 55 #[.slice p1 n1 c1x,.slice p2 n2 c2x] w' (ResP G w'))
 (Hw : ∀ w',Calls Tryz.prog 63 #[.int .i64 (-2)] w' (Ret (.agg #[.bool ma,.string ms]) w'))
 (HSc : ∀ w',Below w.heap.size w w' → Calls Tryz.prog 31 #[.slice p1 n1 c1x,.agg #[.bool ma,.string ms]] w' (ResP T w'))
 (HG2 : ∀ w' v,Below w.heap.size w w' → Rp w' v T → Calls Tryz.prog 55 #[v,.slice p2 n2 c2x] w' (ResP G w'))
 (HSG : ∀ w' v u,Rp w' v G → Rp w' u G → Calls Tryz.prog 18 #[v,u] w' (BPost true w'))
 (HK3 : ((n1 = 0 ∧ n2 = 0 ∧ G = [])) ∨ ((n2 = 0 ∧ 0 < G.length ∧ (∀ w' v,Below w.heap.size w w' → Rp w' v G → Calls Tryz.prog 53 #[.slice p1 n1 c1x,v] w' (ResP [] w')) ∧ (∀ w' v,Below w.heap.size w w' → Rp w' v G → Calls Tryz.prog 53 #[.slice p2 n2 c2x,v] w' (ResP [] w')))) ∨ ((0 < n2 ∧ 0 < G.length ∧ (∀ w' v,Below w.heap.size w w' → Rp w' v M → Calls Tryz.prog 54 #[v,.slice p2 n2 c2x] w' (ResP D w')) ∧ (∀ w' v,Rp w' v D → Below w.heap.size w w' → Calls Tryz.prog 18 #[v,.slice p1 n1 c1x] w' (BPost true w')) ∧ (∀ w' v,Below w.heap.size w w' → Rp w' v G → Calls Tryz.prog 53 #[.slice p1 n1 c1x,v] w' (ResP [] w')) ∧ (∀ w' v,Below w.heap.size w w' → Rp w' v G → Calls Tryz.prog 53 #[.slice p2 n2 c2x,v] w' (ResP [] w'))))) :
 Code.wp Tryz.prog ((Tryz.f10.body.bind (tlB 26)).getD (.skip,.skip,.skip)).1 (Exit.then K (Exit.then K1 (bodyPost Tryz.prog Tryz.f10 (fun e w' => e = .returned (.bool true) ∧ Below w.heap.size w w')))) ⟨#[.slice p1 n1 c1x,.slice p2 n2 c2x,aA,aB,aC,aD,aE,aF,aG,aH,aI,aJ,aK,aL,aM,vM,aN,aO,aP,aQ,aR,.pointer (some ⟨gc,0,none⟩),.pointer (some ⟨gd,0,none⟩),.pointer (some ⟨g7,0,none⟩),.pointer (some ⟨g8,0,none⟩),aS,aT,aU,aV,aW,aX,aY,aZ,bA,bB,bC,bD,bE,bF,bG,bH,bI,bJ,bK,bL,bM,bN,bO,bP,bQ,bR,bS,bT,bU,bV,bW,bX,bY,bZ,cA,cB,cC,cD,cE,cF,cG,cH,cI,cJ,cK,cL,cM,cN,cO,cP,cQ,cR,cS,cT,cU,cV,cW,cX,cY,cZ,dA,dB,dC,dD,dE,dF,dG,dH,dI,dJ,dK,dL,dM,dN,dO,dP,dQ,dR,dS,dT,dU,dV,dW,dX,dY,dZ,eA,eB,eC,eD,eE,eF,eG,eH,eI,eJ,eK,eL,eM,eN,eO,eP,eQ,eR,eS,eT,eU,eV,eW,eX,eY,eZ,fA,fB,fC,fD,fE,fF,fG,fH,fI,fJ,fK,fL,fM,fN,fO,fP,fQ,fR,fS,fT,fU,fV,fW,fX,fY,fZ,gA,gB,gC,gD,gE,gF,gG,gH,gI,gJ,gK,gL,gM,gN,gO,gP,gQ,gR,gS,gT,gU,gV,gW,gX,gY,gZ,hA,hB,hC,hD,hE,hF,hG,hH,hI,hJ,hL,hM,hN,hO,hP,hQ,hR,hS,hT,hU,hV,hW,hX,hY,hZ,iA,iB,iC,iD,iE,iF,iG,iH,iI,iJ,iK,iL,iM,iN,iO,iP,iQ,iR,iS,iT,iU,iW,iX,iY,iZ,jA,jB,jC,jD,jE,jF,jG,jH,jI,jJ,jK,jL,jM,jN,jO,jP,jQ,jR,jS,jT,jU,jV,jW,jX,jY,jZ,kA,kB,kC,kD,kE,kF,kG,kH,kI,kJ,kK,kL,kM,kN,kO,kP,kQ,kR,kS,kT,kU,kV,kW,kX,kY,kZ,lA,lB,lC,lD,lE,lF,lG,lH,lI,lJ,lK,lL,lM,lN,lO,lP,lQ,lR,lS,lT,lU,lV,lW,lX,lY,lZ,mA,mB],[]⟩ y25 := by
 have E := i' E;have RM := i' RM;have R1 := i' R1;have R2 := i' R2;have R3 := i' R3;have R4 := i' R4;obtain ⟨⟨k0,k1,k2,k3⟩,_⟩ := T21;obtain ⟨⟨k4,k5,k6,k7⟩,_⟩ := T22;obtain ⟨⟨k8,k9,k10,k11⟩,_⟩ := T23;obtain ⟨⟨k12,k13,k14,k15⟩,_⟩ := T24;have HF3 := i' HF3;have HF4 := i' HF4;have HAQ := i' HAQ;have HCA := i' HCA;have HMQ := i' HMQ;have HCM := i' HCM;have HG1 := i' HG1;have Hw := i' Hw;have HSc := i' HSc;have HG2 := i' HG2;have HSG := i' HSG;have HK3 := i' HK3;unfold RQPost SignPost at *;unfold qV at *;generalize decide (X1 < 0) = bx1 at *;generalize decide (Y1 < 0) = by1 at *;generalize decide (X2 < 0) = bx2 at *;generalize decide (Y2 < 0) = by2 at *;generalize decide (X3 < 0) = bx3 at *;generalize decide (Y3 < 0) = by3 at *;generalize decide (X4 < 0) = bx4 at *;generalize decide (Y4 < 0) = by4 at *;generalize decide (XA < 0) = bxa at *;generalize decide (YA < 0) = bya at *;generalize decide (XM < 0) = bxm at *;generalize decide (YM < 0) = bym at *;unfold BPost at *;unfold Ret at *
 conv at hK => enter [a,w',1,2]; whnf
 conv at hK1 => enter [a,w',1,2]; whnf
 conv => arg 2; whnf
 go_region_held3 (fun W' => W'.cell? ⟨gc,0,none⟩ = some (.bool ua) ∧ W'.cell? ⟨gc,1,none⟩ = some (.string us) ∧ W'.cell? ⟨gc,2,none⟩ = some (.bool ub) ∧ W'.cell? ⟨gc,3,none⟩ = some (.string ut) ∧ W'.cell? ⟨gd,0,none⟩ = some (.bool va) ∧ W'.cell? ⟨gd,1,none⟩ = some (.string vs) ∧ W'.cell? ⟨gd,2,none⟩ = some (.bool vb) ∧ W'.cell? ⟨gd,3,none⟩ = some (.string vt) ∧ W'.cell? ⟨g7,0,none⟩ = some (.bool bx1) ∧ W'.cell? ⟨g7,1,none⟩ = some (.slice e1 m1 c1) ∧ W'.cell? ⟨g7,2,none⟩ = some (.bool by1) ∧ W'.cell? ⟨g7,3,none⟩ = some (.slice e2 m2 c2) ∧ W'.cell? ⟨g8,0,none⟩ = some (.bool bx2) ∧ W'.cell? ⟨g8,1,none⟩ = some (.slice e3 m3 c3) ∧ W'.cell? ⟨g8,2,none⟩ = some (.bool by2) ∧ W'.cell? ⟨g8,3,none⟩ = some (.slice e4 m4 c4)) (go_keep)
  (first
   | (go_at_call 61; (with_reducible refine (HAQ.out _ _ _ _ _ (by first | exact R1.out | exact Rz.below R1.out ((Below.refl _ _).drew) | exact Rz.below R1.out Q.out) (by first | exact R2.out | exact Rz.below R2.out ((Below.refl _ _).drew) | exact Rz.below R2.out Q.out) (by first | exact R3.out | exact Rz.below R3.out ((Below.refl _ _).drew) | exact Rz.below R3.out Q.out) (by first | exact R4.out | exact Rz.below R4.out ((Below.refl _ _).drew) | exact Rz.below R4.out Q.out)).mono ?_); rintro e y ⟨a9,b8,rfl,r9,q9,b9⟩; (try (have b9 := k'60 b9)); have Q := i' (show Below y25.heap.size y25 y by first | exact k'4h Q.out b9 | exact b9 | exact k'4h ((Below.refl _ _).drew) b9); have QA := i' r9; have QB := i' q9; clear r9 q9; have p0 := k'4i Q.out k0; have p1 := k'4i Q.out k1; have p2 := k'4i Q.out k2; have p3 := k'4i Q.out k3; have p4 := k'4i Q.out k4; have p5 := k'4i Q.out k5; have p6 := k'4i Q.out k6; have p7 := k'4i Q.out k7; have p8 := k'4i Q.out k8; have p9 := k'4i Q.out k9; have p10 := k'4i Q.out k10; have p11 := k'4i Q.out k11; have p12 := k'4i Q.out k12; have p13 := k'4i Q.out k13; have p14 := k'4i Q.out k14; have p15 := k'4i Q.out k15; clear b9)
   | (go_at_call 46; (with_reducible refine (HF3.out _).mono ?_); rintro e y ⟨a9,b8,rfl,r9,q9,b9⟩; (try (have b9 := k'60 b9)); have Q := i' (show Below y25.heap.size y25 y by first | exact k'4h Q.out b9 | exact b9 | exact k'4h ((Below.refl _ _).drew) b9); have QA := i' (Rz.below QA.out b9); have QB := i' (Rz.below QB.out b9); have QC := i' r9; have QD := i' q9; clear r9 q9; have p0 := k'4i Q.out k0; have p1 := k'4i Q.out k1; have p2 := k'4i Q.out k2; have p3 := k'4i Q.out k3; have p4 := k'4i Q.out k4; have p5 := k'4i Q.out k5; have p6 := k'4i Q.out k6; have p7 := k'4i Q.out k7; have p8 := k'4i Q.out k8; have p9 := k'4i Q.out k9; have p10 := k'4i Q.out k10; have p11 := k'4i Q.out k11; have p12 := k'4i Q.out k12; have p13 := k'4i Q.out k13; have p14 := k'4i Q.out k14; have p15 := k'4i Q.out k15; clear b9)
   | (go_at_call 60; (with_reducible refine (HCA.out _ _ _ _ _ (by first | exact QA.out | exact Rz.below QA.out ((Below.refl _ _).drew)) (by first | exact QB.out | exact Rz.below QB.out ((Below.refl _ _).drew)) (by first | exact QC.out | exact Rz.below QC.out ((Below.refl _ _).drew)) (by first | exact QD.out | exact Rz.below QD.out ((Below.refl _ _).drew))).mono ?_); rintro e y ⟨rfl,b9⟩; (try (have b9 := k'60 b9)); have Q := i' (show Below y25.heap.size y25 y by first | exact k'4h Q.out b9 | exact b9 | exact k'4h ((Below.refl _ _).drew) b9); have p0 := k'4i Q.out k0; have p1 := k'4i Q.out k1; have p2 := k'4i Q.out k2; have p3 := k'4i Q.out k3; have p4 := k'4i Q.out k4; have p5 := k'4i Q.out k5; have p6 := k'4i Q.out k6; have p7 := k'4i Q.out k7; have p8 := k'4i Q.out k8; have p9 := k'4i Q.out k9; have p10 := k'4i Q.out k10; have p11 := k'4i Q.out k11; have p12 := k'4i Q.out k12; have p13 := k'4i Q.out k13; have p14 := k'4i Q.out k14; have p15 := k'4i Q.out k15; clear b9)
   | (go_at_call 62; (with_reducible refine (HMQ.out _ _ _ _ _ (by first | exact R1.out | exact Rz.below R1.out ((Below.refl _ _).drew) | exact Rz.below R1.out Q.out) (by first | exact R2.out | exact Rz.below R2.out ((Below.refl _ _).drew) | exact Rz.below R2.out Q.out) (by first | exact R3.out | exact Rz.below R3.out ((Below.refl _ _).drew) | exact Rz.below R3.out Q.out) (by first | exact R4.out | exact Rz.below R4.out ((Below.refl _ _).drew) | exact Rz.below R4.out Q.out)).mono ?_); rintro e y ⟨a9,b8,rfl,r9,q9,b9⟩; (try (have b9 := k'60 b9)); have Q := i' (show Below y25.heap.size y25 y by first | exact k'4h Q.out b9 | exact b9 | exact k'4h ((Below.refl _ _).drew) b9); have QE := i' r9; have QF := i' q9; clear r9 q9; have p0 := k'4i Q.out k0; have p1 := k'4i Q.out k1; have p2 := k'4i Q.out k2; have p3 := k'4i Q.out k3; have p4 := k'4i Q.out k4; have p5 := k'4i Q.out k5; have p6 := k'4i Q.out k6; have p7 := k'4i Q.out k7; have p8 := k'4i Q.out k8; have p9 := k'4i Q.out k9; have p10 := k'4i Q.out k10; have p11 := k'4i Q.out k11; have p12 := k'4i Q.out k12; have p13 := k'4i Q.out k13; have p14 := k'4i Q.out k14; have p15 := k'4i Q.out k15; clear b9)
   | (go_at_call 46; (with_reducible refine (HF4.out _).mono ?_); rintro e y ⟨a9,b8,rfl,r9,q9,b9⟩; (try (have b9 := k'60 b9)); have Q := i' (show Below y25.heap.size y25 y by first | exact k'4h Q.out b9 | exact b9 | exact k'4h ((Below.refl _ _).drew) b9); have QE := i' (Rz.below QE.out b9); have QF := i' (Rz.below QF.out b9); have QG := i' r9; have QH := i' q9; clear r9 q9; have p0 := k'4i Q.out k0; have p1 := k'4i Q.out k1; have p2 := k'4i Q.out k2; have p3 := k'4i Q.out k3; have p4 := k'4i Q.out k4; have p5 := k'4i Q.out k5; have p6 := k'4i Q.out k6; have p7 := k'4i Q.out k7; have p8 := k'4i Q.out k8; have p9 := k'4i Q.out k9; have p10 := k'4i Q.out k10; have p11 := k'4i Q.out k11; have p12 := k'4i Q.out k12; have p13 := k'4i Q.out k13; have p14 := k'4i Q.out k14; have p15 := k'4i Q.out k15; clear b9)
   | (go_at_call 60; (with_reducible refine (HCM.out _ _ _ _ _ (by first | exact QE.out | exact Rz.below QE.out ((Below.refl _ _).drew)) (by first | exact QF.out | exact Rz.below QF.out ((Below.refl _ _).drew)) (by first | exact QG.out | exact Rz.below QG.out ((Below.refl _ _).drew)) (by first | exact QH.out | exact Rz.below QH.out ((Below.refl _ _).drew))).mono ?_); rintro e y ⟨rfl,b9⟩; (try (have b9 := k'60 b9)); have Q := i' (show Below y25.heap.size y25 y by first | exact k'4h Q.out b9 | exact b9 | exact k'4h ((Below.refl _ _).drew) b9); have p0 := k'4i Q.out k0; have p1 := k'4i Q.out k1; have p2 := k'4i Q.out k2; have p3 := k'4i Q.out k3; have p4 := k'4i Q.out k4; have p5 := k'4i Q.out k5; have p6 := k'4i Q.out k6; have p7 := k'4i Q.out k7; have p8 := k'4i Q.out k8; have p9 := k'4i Q.out k9; have p10 := k'4i Q.out k10; have p11 := k'4i Q.out k11; have p12 := k'4i Q.out k12; have p13 := k'4i Q.out k13; have p14 := k'4i Q.out k14; have p15 := k'4i Q.out k15; clear b9)
   | fail)
 have RM := i' (RM.out.below Q.out);have E := i' (k'4h E.out Q.out);go_upto_region 28 with (fail);exact k'ps (hK := by assumption) (hK1 := by assumption) (l1 := l1) (l2 := l2) (E := E.out) (RM := RM.out) (HG1 := HG1.out) (Hw := Hw.out) (HSc := HSc.out) (HG2 := HG2.out) (HSG := HSG.out) (HK3 := HK3.out)
theorem k'pv {w wz : World} {b1 b2 : Bool} {s1 s2 : ByteArray} {p1 p2 : Option Addr} {n1 n2 c1x c2x : Nat} {vS vM : Value} {S M G T D : List Int} {X1 Y1 X2 Y2 X3 Y3 X4 Y4 XA YA XM YM : Int} {xa xb ya yb ua ub va vb ma : Bool} {xs xt ys yt us ut vs vt ms : ByteArray} {aA aB aC aD aE aF aG aH aI aJ aK aL aM aN aO aP aQ aR aS aT aU aV aW aX aY aZ bA bB bC bD bE bF bG bH bI bJ bK bL bM bN bO bP bQ bR bS bT bU bV bW bX bY bZ cA cB cC cD cE cF cG cH cI cJ cK cL cM cN cO cP cQ cR cS cT cU cV cW cX cY cZ dA dB dC dD dE dF dG dH dI dJ dK dL dM dN dO dP dQ dR dS dT dU dV dW dX dY dZ eA eB eC eD eE eF eG eH eI eJ eK eL eM eN eO eP eQ eR eS eT eU eV eW eX eY eZ fA fB fC fD fE fF fG fH fI fJ fK fL fM fN fO fP fQ fR fS fT fU fV fW fX fY fZ gA gB gC gD gE gF gG gH gI gJ gK gL gM gN gO gP gQ gR gS gT gU gV gW gX gY gZ hA hB hC hD hE hF hG hH hI hJ hL hM hN hO hP hQ hR hS hT hU hV hW hX hY hZ iA iB iC iD iE iF iG iH iI iJ iK iL iM iN iO iP iQ iR iS iT iU iW iX iY iZ jA jB jC jD jE jF jG jH jI jJ jK jL jM jN jO jP jQ jR jS jT jU jV jW jX jY jZ kA kB kC kD kE kF kG kH kI kJ kK kL kM kN kO kP kQ kR kS kT kU kV kW kX kY kZ lA lB lC lD lE lF lG lH lI lJ lK lL lM lN lO lP lQ lR lS lT lU lV lW lX lY lZ mA mB mC mD : Value}
 {K : Act → World → Prop}
 (hK : ∀ a w',Code.wp Tryz.prog ((Tryz.f10.body.bind (tlA 19)).getD (.skip,.skip)).2 (bodyPost Tryz.prog Tryz.f10 (fun e w' => e = .returned (.bool true) ∧ Below w.heap.size w w')) a w' → K a w')
 (l1 : n1 ≤ 9223372036854775807) (l2 : n2 ≤ 9223372036854775807)
 (I1 : ZC4 (.bool b1) (.string s1) (.bool b2) (.string s2) wz w.heap.size)
 (E : Below w.heap.size w wz) (RS : Rp wz vS S) (RM : Rp wz vM M)
 (HV1 : ∀ w',Below w.heap.size w w' → Calls Tryz.prog 43 #[.slice p1 n1 c1x,.agg #[.bool b1,.string s1,.bool b2,.string s2]] w' (Ret (.tuple #[.agg #[.bool xa,.string xs,.bool xb,.string xt],.int .i64 0]) w'))
 (HV2 : ∀ w',Below w.heap.size w w' → Calls Tryz.prog 43 #[.slice p2 n2 c2x,.agg #[.bool b1,.string s1,.bool b2,.string s2]] w' (Ret (.tuple #[.agg #[.bool ya,.string ys,.bool yb,.string yt],.int .i64 0]) w'))
 (HV3 : ∀ w' v,Rp w' v S → Calls Tryz.prog 43 #[v,.agg #[.bool b1,.string s1,.bool b2,.string s2]] w' (Ret (.tuple #[.agg #[.bool ua,.string us,.bool ub,.string ut],.int .i64 0]) w'))
 (HV4 : ∀ w' v,Rp w' v M → Calls Tryz.prog 43 #[v,.agg #[.bool b1,.string s1,.bool b2,.string s2]] w' (Ret (.tuple #[.agg #[.bool va,.string vs,.bool vb,.string vt],.int .i64 0]) w'))
 (HR1 : ∀ w',Calls Tryz.prog 45 #[.agg #[.bool xa,.string xs,.bool xb,.string xt]] w' (BPost true w'))
 (HR2 : ∀ w',Calls Tryz.prog 45 #[.agg #[.bool ya,.string ys,.bool yb,.string yt]] w' (BPost true w'))
 (HR3 : ∀ w',Calls Tryz.prog 45 #[.agg #[.bool ua,.string us,.bool ub,.string ut]] w' (BPost true w'))
 (HR4 : ∀ w',Calls Tryz.prog 45 #[.agg #[.bool va,.string vs,.bool vb,.string vt]] w' (BPost true w'))
 (HF1 : ∀ w',Calls Tryz.prog 46 #[.agg #[.bool xa,.string xs,.bool xb,.string xt]] w' (RQPost X1 Y1 w'))
 (HF2 : ∀ w',Calls Tryz.prog 46 #[.agg #[.bool ya,.string ys,.bool yb,.string yt]] w' (RQPost X2 Y2 w'))
 (HF3 : ∀ w',Calls Tryz.prog 46 #[.agg #[.bool ua,.string us,.bool ub,.string ut]] w' (RQPost X3 Y3 w'))
 (HF4 : ∀ w',Calls Tryz.prog 46 #[.agg #[.bool va,.string vs,.bool vb,.string vt]] w' (RQPost X4 Y4 w'))
 (HAQ : ∀ w' v1 v2 v3 v4,Rz w' v1 X1 → Rz w' v2 Y1 → Rz w' v3 X2 → Rz w' v4 Y2 → Calls Tryz.prog 61 #[qV X1 Y1 v1 v2,qV X2 Y2 v3 v4] w' (RQPost XA YA w'))
 (HCA : ∀ w' v1 v2 v3 v4,Rz w' v1 XA → Rz w' v2 YA → Rz w' v3 X3 → Rz w' v4 Y3 → Calls Tryz.prog 60 #[qV XA YA v1 v2,qV X3 Y3 v3 v4] w' (SignPost 0 w'))
 (HMQ : ∀ w' v1 v2 v3 v4,Rz w' v1 X1 → Rz w' v2 Y1 → Rz w' v3 X2 → Rz w' v4 Y2 → Calls Tryz.prog 62 #[qV X1 Y1 v1 v2,qV X2 Y2 v3 v4] w' (RQPost XM YM w'))
 (HCM : ∀ w' v1 v2 v3 v4,Rz w' v1 XM → Rz w' v2 YM → Rz w' v3 X4 → Rz w' v4 Y4 → Calls Tryz.prog 60 #[qV XM YM v1 v2,qV X4 Y4 v3 v4] w' (SignPost 0 w'))
 (HG1 : ∀ w',Below w.heap.size w w' → Calls Tryz.prog 55 #[.slice p1 n1 c1x,.slice p2 n2 c2x] w' (ResP G w'))
 (Hw : ∀ w',Calls Tryz.prog 63 #[.int .i64 (-2)] w' (Ret (.agg #[.bool ma,.string ms]) w'))
 (HSc : ∀ w',Below w.heap.size w w' → Calls Tryz.prog 31 #[.slice p1 n1 c1x,.agg #[.bool ma,.string ms]] w' (ResP T w'))
 (HG2 : ∀ w' v,Below w.heap.size w w' → Rp w' v T → Calls Tryz.prog 55 #[v,.slice p2 n2 c2x] w' (ResP G w'))
 (HSG : ∀ w' v u,Rp w' v G → Rp w' u G → Calls Tryz.prog 18 #[v,u] w' (BPost true w'))
 (HK3 : ((n1 = 0 ∧ n2 = 0 ∧ G = [])) ∨ ((n2 = 0 ∧ 0 < G.length ∧ (∀ w' v,Below w.heap.size w w' → Rp w' v G → Calls Tryz.prog 53 #[.slice p1 n1 c1x,v] w' (ResP [] w')) ∧ (∀ w' v,Below w.heap.size w w' → Rp w' v G → Calls Tryz.prog 53 #[.slice p2 n2 c2x,v] w' (ResP [] w')))) ∨ ((0 < n2 ∧ 0 < G.length ∧ (∀ w' v,Below w.heap.size w w' → Rp w' v M → Calls Tryz.prog 54 #[v,.slice p2 n2 c2x] w' (ResP D w')) ∧ (∀ w' v,Rp w' v D → Below w.heap.size w w' → Calls Tryz.prog 18 #[v,.slice p1 n1 c1x] w' (BPost true w')) ∧ (∀ w' v,Below w.heap.size w w' → Rp w' v G → Calls Tryz.prog 53 #[.slice p1 n1 c1x,v] w' (ResP [] w')) ∧ (∀ w' v,Below w.heap.size w w' → Rp w' v G → Calls Tryz.prog 53 #[.slice p2 n2 c2x,v] w' (ResP [] w'))))) :
 Code.wp Tryz.prog ((Tryz.f10.body.bind (tlA 19)).getD (.skip,.skip)).1 (Exit.then K (bodyPost Tryz.prog Tryz.f10 (fun e w' => e = .returned (.bool true) ∧ Below w.heap.size w w'))) ⟨#[.slice p1 n1 c1x,.slice p2 n2 c2x,aA,aB,aC,.pointer (some ⟨w.heap.size,0,none⟩),aD,aE,aF,aG,aH,vS,aI,aJ,aK,vM,aL,aM,aN,aO,aP,aQ,aR,aS,aT,aU,aV,aW,aX,aY,aZ,bA,bB,bC,bD,bE,bF,bG,bH,bI,bJ,bK,bL,bM,bN,bO,bP,bQ,bR,bS,bT,bU,bV,bW,bX,bY,bZ,cA,cB,cC,cD,cE,cF,cG,cH,cI,cJ,cK,cL,cM,cN,cO,cP,cQ,cR,cS,cT,cU,cV,cW,cX,cY,cZ,dA,dB,dC,dD,dE,dF,dG,dH,dI,dJ,dK,dL,dM,dN,dO,dP,dQ,dR,dS,dT,dU,dV,dW,dX,dY,dZ,eA,eB,eC,eD,eE,eF,eG,eH,eI,eJ,eK,eL,eM,eN,eO,eP,eQ,eR,eS,eT,eU,eV,eW,eX,eY,eZ,fA,fB,fC,fD,fE,fF,fG,fH,fI,fJ,fK,fL,fM,fN,fO,fP,fQ,fR,fS,fT,fU,fV,fW,fX,fY,fZ,gA,gB,gC,gD,gE,gF,gG,gH,gI,gJ,gK,gL,gM,gN,gO,gP,gQ,gR,gS,gT,gU,gV,gW,gX,gY,gZ,hA,hB,hC,hD,hE,hF,hG,hH,hI,hJ,hL,hM,hN,hO,hP,hQ,hR,hS,hT,hU,hV,hW,hX,hY,hZ,iA,iB,iC,iD,iE,iF,iG,iH,iI,iJ,iK,iL,iM,iN,iO,iP,iQ,iR,iS,iT,iU,iW,iX,iY,iZ,jA,jB,jC,jD,jE,jF,jG,jH,jI,jJ,jK,jL,jM,jN,jO,jP,jQ,jR,jS,jT,jU,jV,jW,jX,jY,jZ,kA,kB,kC,kD,kE,kF,kG,kH,kI,kJ,kK,kL,kM,kN,kO,kP,kQ,kR,kS,kT,kU,kV,kW,kX,kY,kZ,lA,lB,lC,lD,lE,lF,lG,lH,lI,lJ,lK,lL,lM,lN,lO,lP,lQ,lR,lS,lT,lU,lV,lW,lX,lY,lZ,mA,mB,mC,mD],[]⟩ wz := by
 have I1 := i' I1;have E := i' E;have RS := i' RS;have RM := i' RM;have HV1 := i' HV1;have HV2 := i' HV2;have HV3 := i' HV3;have HV4 := i' HV4;have HR1 := i' HR1;have HR2 := i' HR2;have HR3 := i' HR3;have HR4 := i' HR4;have HF1 := i' HF1;have HF2 := i' HF2;have HF3 := i' HF3;have HF4 := i' HF4;have HAQ := i' HAQ;have HCA := i' HCA;have HMQ := i' HMQ;have HCM := i' HCM;have HG1 := i' HG1;have Hw := i' Hw;have HSc := i' HSc;have HG2 := i' HG2;have HSG := i' HSG;have HK3 := i' HK3;unfold BPost at HR1 HR2 HR3 HR4;unfold Ret at HV1 HV2 HV3 HV4
 conv at hK => enter [a,w',1,2]; whnf
 conv => arg 2; whnf
 obtain ⟨⟨k0,k1,k2,k3⟩,_⟩ := I1.out;go_wp2_with fail;refine (HV1.out _ E.out).mono ?_;rintro e x17 ⟨rfl,d17⟩;clear k0 k1 k2 k3;have RS := i' (RS.out.below d17);have RM := i' (RM.out.below d17);have I1 := i' (I1.out.next d17);have E := i' (k'4h E.out d17);clear d17;obtain ⟨aO,hu⟩ : ∃ u : World,u = x17.alloc (.cells #[.bool xa,.string xs,.bool xb,.string xt] 59) := ⟨_,rfl⟩;have N9 : Hid (ZC4 (.bool xa) (.string xs) (.bool xb) (.string xt) aO x17.heap.size) := by rw [hu]; exact ZC4.made0 x17
 have B9 : Hid (Below x17.heap.size x17 aO) := by rw [hu]; exact k'5u _ _
 have E := i' (k'4h E.out B9.out);have RS := i' (RS.out.below B9.out);have RM := i' (RM.out.below B9.out);have I1 := i' (I1.out.next B9.out);have T19 := N9;go_upto_region 20 with (fail);rw [← hu];clear hu B9 N9;obtain ⟨⟨k0,k1,k2,k3⟩,_⟩ := I1.out;go_wp2_with fail;refine (HV2.out _ E.out).mono ?_;rintro e x18 ⟨rfl,d18⟩;clear k0 k1 k2 k3;have RS := i' (RS.out.below d18);have RM := i' (RM.out.below d18);have T19 := i' (T19.out.next d18);have I1 := i' (I1.out.next d18);have E := i' (k'4h E.out d18);clear d18;obtain ⟨aP,hu⟩ : ∃ u : World,u = x18.alloc (.cells #[.bool ya,.string ys,.bool yb,.string yt] 59) := ⟨_,rfl⟩;have N9 : Hid (ZC4 (.bool ya) (.string ys) (.bool yb) (.string yt) aP x18.heap.size) := by rw [hu]; exact ZC4.made0 x18
 have B9 : Hid (Below x18.heap.size x18 aP) := by rw [hu]; exact k'5u _ _
 have E := i' (k'4h E.out B9.out);have RS := i' (RS.out.below B9.out);have RM := i' (RM.out.below B9.out);have T19 := i' (T19.out.next B9.out);have I1 := i' (I1.out.next B9.out);have T20 := N9;go_upto_region 21 with (fail);rw [← hu];clear hu B9 N9;obtain ⟨⟨k0,k1,k2,k3⟩,_⟩ := I1.out;go_wp2_with fail;refine (HV3.out _ _ RS.out).mono ?_;rintro e x19 ⟨rfl,d19⟩;clear k0 k1 k2 k3;have RS := i' (RS.out.below d19);have RM := i' (RM.out.below d19);have T19 := i' (T19.out.next d19);have T20 := i' (T20.out.next d19);have I1 := i' (I1.out.next d19);have E := i' (k'4h E.out d19);clear d19;obtain ⟨aQ,hu⟩ : ∃ u : World,u = x19.alloc (.cells #[.bool ua,.string us,.bool ub,.string ut] 59) := ⟨_,rfl⟩;have N9 : Hid (ZC4 (.bool ua) (.string us) (.bool ub) (.string ut) aQ x19.heap.size) := by rw [hu]; exact ZC4.made0 x19
 have B9 : Hid (Below x19.heap.size x19 aQ) := by rw [hu]; exact k'5u _ _
 have E := i' (k'4h E.out B9.out);have RS := i' (RS.out.below B9.out);have RM := i' (RM.out.below B9.out);have T19 := i' (T19.out.next B9.out);have T20 := i' (T20.out.next B9.out);have I1 := i' (I1.out.next B9.out);have T21 := N9;go_upto_region 22 with (fail);rw [← hu];clear hu B9 N9;clear RS;obtain ⟨⟨k0,k1,k2,k3⟩,_⟩ := I1.out;go_wp2_with fail;refine (HV4.out _ _ RM.out).mono ?_;rintro e x20 ⟨rfl,d20⟩;clear k0 k1 k2 k3;have RM := i' (RM.out.below d20);have T19 := i' (T19.out.next d20);have T20 := i' (T20.out.next d20);have T21 := i' (T21.out.next d20);have I1 := i' (I1.out.next d20);have E := i' (k'4h E.out d20);clear d20;obtain ⟨aR,hu⟩ : ∃ u : World,u = x20.alloc (.cells #[.bool va,.string vs,.bool vb,.string vt] 59) := ⟨_,rfl⟩;have N9 : Hid (ZC4 (.bool va) (.string vs) (.bool vb) (.string vt) aR x20.heap.size) := by rw [hu]; exact ZC4.made0 x20
 have B9 : Hid (Below x20.heap.size x20 aR) := by rw [hu]; exact k'5u _ _
 have E := i' (k'4h E.out B9.out);have RM := i' (RM.out.below B9.out);have T19 := i' (T19.out.next B9.out);have T20 := i' (T20.out.next B9.out);have T21 := i' (T21.out.next B9.out);have I1 := i' (I1.out.next B9.out);have T22 := N9;go_upto_region 23 with (fail);rw [← hu];clear hu B9 N9;clear I1;obtain ⟨⟨T19a,T19b,T19c,T19d⟩,_⟩ := T19.out;obtain ⟨⟨T20a,T20b,T20c,T20d⟩,_⟩ := T20.out;obtain ⟨⟨T21a,T21b,T21c,T21d⟩,_⟩ := T21.out;obtain ⟨⟨T22a,T22b,T22c,T22d⟩,_⟩ := T22.out;go_wp2_with fail;refine (HR1.out _).mono ?_;rintro e x21 ⟨rfl,d21⟩;clear T19a T19b T19c T19d T20a T20b T20c T20d T21a T21b T21c T21d T22a T22b T22c T22d;have RM := i' (RM.out.below d21);have T19 := i' (T19.out.next d21);have T20 := i' (T20.out.next d21);have T21 := i' (T21.out.next d21);have T22 := i' (T22.out.next d21);have E := i' (k'4h E.out d21);clear d21;obtain ⟨⟨T19a,T19b,T19c,T19d⟩,_⟩ := T19.out;obtain ⟨⟨T20a,T20b,T20c,T20d⟩,_⟩ := T20.out;obtain ⟨⟨T21a,T21b,T21c,T21d⟩,_⟩ := T21.out;obtain ⟨⟨T22a,T22b,T22c,T22d⟩,_⟩ := T22.out;go_wp2_with fail;refine (HR2.out _).mono ?_;rintro e x22 ⟨rfl,d22⟩;clear T19a T19b T19c T19d T20a T20b T20c T20d T21a T21b T21c T21d T22a T22b T22c T22d;have RM := i' (RM.out.below d22);have T19 := i' (T19.out.next d22);have T20 := i' (T20.out.next d22);have T21 := i' (T21.out.next d22);have T22 := i' (T22.out.next d22);have E := i' (k'4h E.out d22);clear d22;obtain ⟨⟨T19a,T19b,T19c,T19d⟩,_⟩ := T19.out;obtain ⟨⟨T20a,T20b,T20c,T20d⟩,_⟩ := T20.out;obtain ⟨⟨T21a,T21b,T21c,T21d⟩,_⟩ := T21.out;obtain ⟨⟨T22a,T22b,T22c,T22d⟩,_⟩ := T22.out;go_wp2_with fail;refine (HR3.out _).mono ?_;rintro e x23 ⟨rfl,d23⟩;clear T19a T19b T19c T19d T20a T20b T20c T20d T21a T21b T21c T21d T22a T22b T22c T22d;have RM := i' (RM.out.below d23);have T19 := i' (T19.out.next d23);have T20 := i' (T20.out.next d23);have T21 := i' (T21.out.next d23);have T22 := i' (T22.out.next d23);have E := i' (k'4h E.out d23);clear d23;obtain ⟨⟨T19a,T19b,T19c,T19d⟩,_⟩ := T19.out;obtain ⟨⟨T20a,T20b,T20c,T20d⟩,_⟩ := T20.out;obtain ⟨⟨T21a,T21b,T21c,T21d⟩,_⟩ := T21.out;obtain ⟨⟨T22a,T22b,T22c,T22d⟩,_⟩ := T22.out;go_wp2_with fail;refine (HR4.out _).mono ?_;rintro e x24 ⟨rfl,d24⟩;clear T19a T19b T19c T19d T20a T20b T20c T20d T21a T21b T21c T21d T22a T22b T22c T22d;have RM := i' (RM.out.below d24);have T19 := i' (T19.out.next d24);have T20 := i' (T20.out.next d24);have T21 := i' (T21.out.next d24);have T22 := i' (T22.out.next d24);have E := i' (k'4h E.out d24);clear d24;go_upto_region 25 with (fail);refine k'pt (TA := T19.out) (TB := T20.out) (HF1 := HF1.out) (HF2 := HF2.out) (hK := ?_);intro g7 g8 y1 y2 y3 y4 m1 c1 m2 c2 m3 c3 m4 c4 q0 q1 q2 q3 wx hcut;obtain ⟨_,T23,T24,⟨R1,R2,R3,R4⟩,bxx⟩ := hcut;have E := i' (k'4h E.out bxx);have RM := i' (RM.out.below bxx)
 have T21 := i' (T21.out.next bxx);have T22 := i' (T22.out.next bxx);have T23 := i' T23;have T24 := i' T24;have R1 : Hid (Rz _ _ X1) := R1;have R2 : Hid (Rz _ _ Y1) := R2;have R3 : Hid (Rz _ _ X2) := R3;have R4 : Hid (Rz _ _ Y2) := R4;clear bxx;go_upto_region 26 with (fail);exact k'pu (hK := by assumption) (hK1 := by assumption) (l1 := l1) (l2 := l2) (E := E.out) (RM := RM.out) (T21 := T21.out) (T22 := T22.out) (T23 := T23.out) (T24 := T24.out) (R1 := R1.out) (R2 := R2.out) (R3 := R3.out) (R4 := R4.out) (HF3 := HF3.out) (HF4 := HF4.out) (HAQ := HAQ.out) (HCA := HCA.out) (HMQ := HMQ.out) (HCM := HCM.out) (HG1 := HG1.out) (Hw := Hw.out) (HSc := HSc.out) (HG2 := HG2.out) (HSG := HSG.out) (HK3 := HK3.out)
end Go.Proofs.YtepddegphdlbeaaGreat
