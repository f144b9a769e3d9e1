/- What the theorem leans on, part Y23. -/
import Derived.Test.YtepddegphdlbeaaGreatY22
import Derived.Test.YtepddegphdlbeaaGreatY0
import Derived.Test.YtepddegphdlbeaaGreatProg
import Derived.WalkKit
import Derived.WalkSpells
import Derived.WalkLawsBesides
import Derived.Lib.Hide
import Derived.Deep.QuietTactic
import Derived.BigQuiet
import Derived.ProofKit
import Derived.OpenShut
import Derived.ShutString
import Derived.ChangeOld
import Derived.Below
import Derived.Lib.SmallJoins
import Derived.Test.YtepddegphdlbeaaGreatRows
import Derived.Test.YtepddegphdlbeaaGreatY21
import Derived.Test.YtepddegphdlbeaaGreatY20
import Derived.Test.YtepddegphdlbeaaGreatY16
import Derived.Test.YtepddegphdlbeaaGreatY12
import Derived.Test.YtepddegphdlbeaaGreatY11
import Derived.Test.YtepddegphdlbeaaGreatY10
import Derived.Test.YtepddegphdlbeaaGreatY7
import Derived.Test.YtepddegphdlbeaaGreatY4
import Derived.Test.YtepddegphdlbeaaGreatY3
import Derived.Test.YtepddegphdlbeaaGreatY2
import Derived.Test.YtepddegphdlbeaaGreatY1
import Derived.Shelf.Small.Bits
import Derived.Shelf.Small.Wraps
import Derived.Shelf.Strconv.Itoa0
import Derived.Shelf.Bits.Mul64
import Derived.Ground.Names2Prog
import Derived.Shelf.Slices.SearchI
import Derived.Shelf.Spec.BitsCarry
import Derived.Deep.LoopGhost
import Derived.Deep.RegionHeld3
import Derived.Deep.DeepCutAuto
import Derived.Test.YtepddegphdlbeaaGreatY6
import Derived.Test.YtepddegphdlbeaaGreatY5
import Derived.Laws.AppendOwnNone
import Derived.Test.YtepddegphdlbeaaGreatY8
import Derived.Test.YtepddegphdlbeaaGreatY9
import Derived.Test.YtepddegphdlbeaaGreatY15
import Derived.Test.YtepddegphdlbeaaGreatY13
import Derived.RangeFuncNested
import Derived.RangeFuncBound
import Derived.RangeFuncCalls
import Derived.RangeFuncLeaves
import Derived.Shelf.Abstract
import Derived.Shelf.RegionOpen
import Derived.OwnWalkIn
import Derived.TacticsInMore
import Derived.LoopNIn
import Derived.LoopIn
import Derived.OrdersIn
import Derived.Deep.RegionHeld
import Derived.Maps.AppendAt
import Derived.Lib.SliceRun
import Derived.IntWalk
import Derived.Test.YtepddegphdlbeaaGreatY14
import Derived.Test.YtepddegphdlbeaaGreatY18
import Derived.Test.YtepddegphdlbeaaGreatY17
import Derived.Laws.StructEq
import Derived.Test.YtepddegphdlbeaaGreatY19
import Derived.Deep.SlicePairs
import Derived.Carry
set_option maxRecDepth 100000
set_option maxHeartbeats 16000000
set_option linter.all false
namespace Go.Proofs.YtepddegphdlbeaaGreat
open Go.ChangeShapes Go.WideShapes Go.ChangeAt Go.RowKit Go.Joins Go.Deep
open Go.ChangeMaps (open_string shut_string)
theorem k'td {H : Type} {enc : TypeId × Value → H} {P : Program} {w : World} {base : Nat} {spare : Nat → Bool} {held : Bool} {t : TypeId} {f0 f1 : Field} {m : Nat} {c0 c1 : Value} {x : DataW H × List MemPlace}
 (hs : P.underlying t = some (.struct #[f0,f1])) (hone : oneCellFields P #[f0,f1] = true) (hf : DataW.trod enc P w base spare held m t [c0,c1] = some x) :
 ∃ (y0 y1 : DataW H × List MemPlace) (n : Nat),x = (.agg [y0.1,y1.1],y0.2 ++ y1.2) ∧ DataW.trod enc P w base spare held n f0.type [c0] = some y0 ∧ DataW.trod enc P w base spare held n f1.type [c1] = some y1 := by
 obtain ⟨y0,y1,n,hx,_,h0,h1⟩ := trod_struct2 hs hf;obtain ⟨o0,k0⟩ := hone_of hone 0 f0 rfl;obtain ⟨o1,k1⟩ := hone_of hone 1 f1 rfl;exact ⟨y0,y1,n,hx,by simpa [o0,k0] using h0,by simpa [o1,k1] using h1⟩
theorem k'te {H : Type} {enc : TypeId × Value → H} {P : Program} {w : World} {base : Nat} {spare : Nat → Bool} {held : Bool} {t : TypeId} {f0 f1 : Field} {m : Nat} {c0 c1 c2 c3 : Value} {x : DataW H × List MemPlace}
 (hs : P.underlying t = some (.struct #[f0,f1])) (o0 : f0.offset = 0) (o1 : f1.offset = 2) (k0 : P.cellsOf f0.type = 2) (k1 : P.cellsOf f1.type = 2) (hf : DataW.trod enc P w base spare held m t [c0,c1,c2,c3] = some x) :
 ∃ (y0 y1 : DataW H × List MemPlace) (n : Nat),x = (.agg [y0.1,y1.1],y0.2 ++ y1.2) ∧ DataW.trod enc P w base spare held n f0.type [c0,c1] = some y0 ∧ DataW.trod enc P w base spare held n f1.type [c2,c3] = some y1 := by
 obtain ⟨y0,y1,n,hx,_,h0,h1⟩ := trod_struct2 hs hf;exact ⟨y0,y1,n,hx,by simpa [o0,k0] using h0,by simpa [o1,k1] using h1⟩
theorem k'tf {H : Type} {enc : TypeId × Value → H} {P : Program} {w : World} {base : Nat} {spare : Nat → Bool} {held : Bool} {t : TypeId} {f0 f1 : Field} {c0 c1 c2 c3 : Value} {y0 y1 : DataW H × List MemPlace}
 (hs : P.underlying t = some (.struct #[f0,f1])) (hC : P.cellsOf t = 4) (o0 : f0.offset = 0) (o1 : f1.offset = 2) (k0 : P.cellsOf f0.type = 2) (k1 : P.cellsOf f1.type = 2)
 (t0 : ∃ n,DataW.trod enc P w base spare held n f0.type [c0,c1] = some y0) (t1 : ∃ n,DataW.trod enc P w base spare held n f1.type [c2,c3] = some y1) :
 DataW.Trod enc P w base spare held t (.agg #[c0,c1,c2,c3]) (.agg [y0.1,y1.1]) (y0.2 ++ y1.2) := by
 obtain ⟨n0,t0⟩ := t0;obtain ⟨n1,t1⟩ := t1;have ts := trod_struct2_mk (enc := enc) (w := w) (base := base) (spare := spare) (held := held) (n := max n0 n1) (cs := [c0,c1,c2,c3]) hs (by simp [hC])
  (by simpa [o0,k0] using DataW.trod_le (Nat.le_max_left n0 n1) t0) (by simpa [o1,k1] using DataW.trod_le (Nat.le_max_right n0 n1) t1)
 exact ⟨_,by simpa [Value.cells] using ts⟩
theorem k'tg {H : Type} {enc : TypeId × Value → H} {w : World} {base : Nat} {spare : Nat → Bool} {held : Bool} {m : Nat} {c0 c1 : Value} {x : DataW H × List MemPlace} (hf : DataW.trod enc Tryz.prog w base spare held m 44 [c0,c1] = some x) :
 ∃ (a : Bool) (s : ByteArray),c0 = .bool a ∧ c1 = .string s ∧ x = (.agg [.lit (.bool a),.lit (.string s.data.toList)],[]) ∧ s.size ≤ maxLen := by
 obtain ⟨y0,y1,n,rfl,hy0,hy1⟩ := k'td Tryz.underlying44 (by kernel_rfl) hf
 obtain ⟨a,e0,rfl⟩ := DataW.trod_bool Tryz.underlying4 hy0;obtain ⟨s,e1,rfl,hs⟩ := DataW.trod_string Tryz.underlying9 hy1;simp at e0 e1;subst e0 e1;exact ⟨a,s,rfl,rfl,rfl,hs⟩
theorem k'th {H : Type} {enc : TypeId × Value → H} {w : World} {base : Nat} {b0 : Nat} {spare : Nat → Bool} {held : Bool} {r : Reach} {v : Value} {d : DataW H} {p : List MemPlace}
 (hv : Value.okWide Tryz.prog w r b0 59 v) (h : DataW.Trod enc Tryz.prog w base spare held 59 v d p) :
 ∃ (a : Bool) (s : ByteArray) (b : Bool) (t : ByteArray),v = .agg #[.bool a,.string s,.bool b,.string t] ∧ d = .agg [.agg [.lit (.bool a),.lit (.string s.data.toList)],.agg [.lit (.bool b),.lit (.string t.data.toList)]] ∧ p = [] ∧ s.size ≤ maxLen ∧ t.size ≤ maxLen := by
 obtain ⟨cs,rfl,hsz⟩ := okWide_struct Tryz.underlying59 hv;obtain ⟨c0,c1,c2,c3,rfl⟩ := array4 (hsz.trans Tryz.cellsRatio);obtain ⟨fuel,hf⟩ := h;obtain ⟨y0,y1,n,hx,h0,h1⟩ := k'te Tryz.underlying59 (by kernel_rfl) (by kernel_rfl) Tryz.cellsWide Tryz.cellsWide hf
 obtain ⟨a,s,rfl,rfl,rfl,hs⟩ := k'tg h0;obtain ⟨b,t,rfl,rfl,rfl,ht⟩ := k'tg h1;simp only [Prod.mk.injEq] at hx;exact ⟨a,s,b,t,rfl,hx.1,hx.2,hs,ht⟩
theorem k'ti {H : Type} {enc : TypeId × Value → H} {w : World} {base : Nat} {spare : Nat → Bool} {held : Bool} {a b : Bool} {s t : ByteArray} (hs : s.size ≤ maxLen) (ht : t.size ≤ maxLen) :
 DataW.Trod enc Tryz.prog w base spare held 59 (.agg #[.bool a,.string s,.bool b,.string t]) (.agg [.agg [.lit (.bool a),.lit (.string s.data.toList)],.agg [.lit (.bool b),.lit (.string t.data.toList)]]) [] :=
 k'tf (y0 := (.agg [.lit (.bool a),.lit (.string s.data.toList)],[])) (y1 := (.agg [.lit (.bool b),.lit (.string t.data.toList)],[])) Tryz.underlying59 Tryz.cellsRatio (by kernel_rfl) (by kernel_rfl) Tryz.cellsWide Tryz.cellsWide (k'ta hs) (k'ta ht)
end Go.Proofs.YtepddegphdlbeaaGreat
namespace Go.Proofs.YtepddegphdlbeaaGreat
open Go.ChangeShapes Go.WideShapes Go.ChangeAt Go.RowKit Go.Joins
open Go.ChangeMaps (open_string shut_string)
theorem k'tj (os : Os) (started : os.Started) (H : Type) (enc : TypeId × Value → H) :
 ReturnsInHanded {} Tryz.checked os 10 .any (Rows.polyHoldsSpec.pre6 enc Tryz.prog Tryz.f10 Rows.polyHoldsRow.domain false) (Rows.polyHoldsSpec.post enc Tryz.prog Tryz.f10 false true false false) := by
 refine returnsInHanded_of_change (C := Tryz.checked) Tryz.own started (by kernel_rfl) Tryz.func10
  (ChangeSpec.witness6 (enc := enc) (C := Tryz.checked) false ⟨#[],#[.slice none 0 0,.slice none 0 0,.agg #[.bool false,.string ⟨#[]⟩,.bool false,.string ⟨#[]⟩]],[]⟩ 8 (by kernel_rfl) (by kernel_rfl) (by kernel_rfl) (by kernel_rfl)) ?_
 intro W base args ds gs before hval0 hW hcnd _;have hval : ∀ (j : Nat) t v,Tryz.f10.params[j]? = some t → args[j]? = some v → Value.okWide Tryz.prog W .any base t v := hval0;have hW' := hW;obtain ⟨p,q,hA0,hV,rfl,hfz,hnd⟩ := hW;have hA : DataW.TrodAll enc Tryz.prog W 0 (fun _ => true) true Tryz.f10.params.toList args.toList ds p := hA0;rw [Tryz.params10] at hA hval;obtain ⟨v0,v1,v2,d0,d1,d2,p0,p1,p2,rfl,rfl,rfl,h0,h1,h2⟩ := trodAll_three hA;obtain ⟨rfl,rfl⟩ := trodVars_none hV;obtain ⟨L0,r0,z0,t0⟩ := k'tc (hval 0 23 v0 rfl rfl) h0;obtain ⟨L1,r1,z1,t1⟩ := k'tc (hval 1 23 v1 rfl rfl) h1;obtain ⟨b1,s1,b2,s2,rfl,rfl,rfl,hs1,hs2⟩ := k'th (hval 2 59 v2 rfl rfl) h2;clear hA0 hval0;refine (k't8 L0 L1 v0 v1 b1 b2 s1 s2 W r0 r1 z0 z1 (by unfold maxLen at hs1; omega) (by unfold maxLen at hs2; omega)).mono fun e W' ⟨he,bel⟩ => ?_
 subst he;exact ⟨_,rfl,_,_,_,[],_,[],hW',trodAll_mk1 (shut_bool Tryz.underlying4 _),trodAll_mk3 (t0 W' bel) (t1 W' bel) (k'ti hs1 hs2),rfl,bel.frame _,fun h => by cases h⟩
theorem pholds_holds : Rows.PolyHoldsSaid :=
 OpenClaim.holds_of_wide 10 Tryz.f10 rfl rfl rfl rfl rfl rfl rfl ⟨rfl,rfl,rfl,rfl,rfl⟩ rfl rfl rfl rfl rfl (by kernel_rfl) Tryz.func10 (by kernel_rfl)
  (of_decide_eq_true (by kernel_rfl)) (by unfold Func.isWrapper; first | (rw [if_pos (by decide +kernel)]; kernel_rfl) | (rw [if_neg (by decide +kernel)]; exact ⟨rfl,rfl⟩))
  (fun os started H enc _ => k'tj os started H enc)
end Go.Proofs.YtepddegphdlbeaaGreat
