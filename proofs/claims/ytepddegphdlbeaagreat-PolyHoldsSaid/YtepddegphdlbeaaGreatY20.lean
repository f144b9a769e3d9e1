/- What the theorem leans on, part Y20. -/
import Derived.Test.YtepddegphdlbeaaGreatY18
import Derived.Test.YtepddegphdlbeaaGreatY17
import Derived.Test.YtepddegphdlbeaaGreatY16
import Derived.Test.YtepddegphdlbeaaGreatY15
import Derived.Test.YtepddegphdlbeaaGreatY12
import Derived.Test.YtepddegphdlbeaaGreatY11
import Derived.Test.YtepddegphdlbeaaGreatY10
import Derived.Test.YtepddegphdlbeaaGreatY7
import Derived.Test.YtepddegphdlbeaaGreatY4
import Derived.Test.YtepddegphdlbeaaGreatY3
import Derived.Test.YtepddegphdlbeaaGreatY2
import Derived.Test.YtepddegphdlbeaaGreatY1
import Derived.Test.YtepddegphdlbeaaGreatY0
import Derived.Test.YtepddegphdlbeaaGreatProg
import Derived.WalkKit
import Derived.WalkSpells
import Derived.WalkLawsBesides
import Derived.Lib.Hide
import Derived.Deep.QuietTactic
import Derived.BigQuiet
import Derived.Shelf.Small.Bits
import Derived.Shelf.Small.Wraps
import Derived.Shelf.Strconv.Itoa0
import Derived.Shelf.Bits.Mul64
import Derived.Ground.Names2Prog
import Derived.Shelf.Slices.SearchI
import Derived.Shelf.Spec.BitsCarry
import Derived.Deep.LoopGhost
import Derived.Deep.RegionHeld3
import Derived.Deep.DeepCutAuto
import Derived.Test.YtepddegphdlbeaaGreatY6
import Derived.Test.YtepddegphdlbeaaGreatY5
import Derived.Laws.AppendOwnNone
import Derived.Test.YtepddegphdlbeaaGreatY8
import Derived.Test.YtepddegphdlbeaaGreatY9
import Derived.Below
import Derived.Test.YtepddegphdlbeaaGreatY13
import Derived.RangeFuncNested
import Derived.RangeFuncBound
import Derived.RangeFuncCalls
import Derived.RangeFuncLeaves
import Derived.Shelf.Abstract
import Derived.Shelf.RegionOpen
import Derived.OwnWalkIn
import Derived.TacticsInMore
import Derived.LoopNIn
import Derived.LoopIn
import Derived.OrdersIn
import Derived.Deep.RegionHeld
import Derived.Maps.AppendAt
import Derived.Lib.SliceRun
import Derived.IntWalk
import Derived.Test.YtepddegphdlbeaaGreatY14
import Derived.Laws.StructEq
import Derived.Test.YtepddegphdlbeaaGreatY19
set_option maxRecDepth 100000
set_option maxHeartbeats 16000000
set_option linter.all false
namespace Go.Proofs.YtepddegphdlbeaaGreat
open Go.RowKit
def iL (L : List Int) : Array Value := (L.map (Value.int .i64)).toArray
theorem k'mz (L : List Int) (y : World) : Rn (y.alloc (.cells (iL L) 3)) (.slice (some ⟨y.heap.size,0,none⟩) L.length L.length) L := by
 refine ⟨_,y.heap.size,0,L.length,rfl,fun _ => rfl,fun k h => ?_⟩;simp [go_sem,iL,h]
def okI (L : List Int) : Bool := decide (L.length ≤ 25) && (L.all fun a => decide (-1000 ≤ a ∧ a ≤ 1000))
theorem k'n0 {L : List Int} (h : okI L = true) : ∀ a ∈ L,-1000 ≤ a ∧ a ≤ 1000 := by
 simp only [okI,Bool.and_eq_true,List.all_eq_true,decide_eq_true_eq] at h;exact h.2
theorem k'n1 {L : List Int} (h : okI L = true) : L.length ≤ 25 := by
 simp only [okI,Bool.and_eq_true,List.all_eq_true,decide_eq_true_eq] at h;exact h.1
theorem k'n2 {L : List Int} (h : okI L = true) : ∀ a ∈ L,-9223372036854775808 ≤ a ∧ a ≤ 9223372036854775807 := fun a ha => by
 have := k'n0 h a ha; omega
theorem k'n3 {L : List Int} (h : okI L = true) (hn : Pl.trim L = L) : VP L := ⟨hn ▸ Pl.nrm_trim L,k'n1 h,fun a ha => k'll (k'n2 h a ha)⟩
theorem kb (L : List Int) (y : World) : Below y.heap.size y (y.alloc (.cells (iL L) 3)) := k'5u _ _
theorem k_p (L T : List Int) (h : okI L = true) (ht : Pl.trim L = T) (y : World) : Calls Tryz.prog 65 #[.slice (some ⟨y.heap.size,0,none⟩) L.length L.length] (y.alloc (.cells (iL L) 3)) (RpPost T y) := by
 subst ht;refine (k'lp L _ _ (k'mz L y) (by have := k'n1 h; omega) (k'n2 h)).mono ?_
 rintro e w' ⟨v,rfl,r,b⟩;exact ⟨v,rfl,r,k'4h (kb L y) b⟩
theorem k'n4 (L T : List Int) (h : okI L = true) (ht : Pl.trim L = T) (y : World) : Calls Tryz.prog 22 #[.slice (some ⟨y.heap.size,0,none⟩) L.length L.length] (y.alloc (.cells (iL L) 3)) (ResP T y) := by
 subst ht;refine (k'kn L _ _ (k'mz L y) (by have := k'n1 h; omega) (k'n2 h)).mono ?_
 intro e w' hr;have h25 : (Pl.trim L).length ≤ 25 := Nat.le_trans (Pl.trim_length L) (k'n1 h);simp only [h25,if_true] at hr;obtain ⟨v,rfl,r,b⟩ := hr;exact ⟨v,rfl,r,k'4h (kb L y) b⟩
theorem k'n5 (L T : List Int) (h : okI L = true) (ht : Pl.trim L = T) (y : World) (v : Value) (hv : Rp y v T) : Calls Tryz.prog 64 #[v,.int .i64 0,.slice (some ⟨y.heap.size,0,none⟩) L.length L.length] (y.alloc (.cells (iL L) 3)) (BPost true y) := by
 subst ht;refine (k'lq L v _ _ (hv.below (kb L y)) (k'mz L y) (by have := k'n1 h; omega) (k'n2 h)).mono ?_
 rintro e w' ⟨rfl,b⟩;exact ⟨rfl,k'4h (kb L y) b⟩
theorem k'n6 (L : List Int) (h : VP L) (y : World) (v : Value) (hv : Rp y v L) (n : Int) (hn : ((zl L).length : Int) - 1 = n) : Calls Tryz.prog 13 #[v] y (Ret (.tuple #[.int .i64 n,.int .i64 0]) y) := by
 subst hn; exact k'ie (zl L) v y hv (k'ey h.top) h.ok
theorem k'n7 (L : List Int) (h : VP L) (y : World) (v : Value) (hv : Rp y v L) (n : Int) (hn : glb (zl L) = n) : Calls Tryz.prog 14 #[v] y (Ret (.tuple #[.int .i64 n,.int .i64 0]) y) := by
 subst hn; exact k'ig (zl L) v y hv (k'ey h.top) h.ok
theorem k'n8 {L : List Int} (h : okI L = true) (k : Nat) : -1000 ≤ Pl.cf L k ∧ Pl.cf L k ≤ 1000 := by
 rcases Nat.lt_or_ge k L.length with g | g
 ·rw [Pl.cf_lt g]; exact k'n0 h _ (List.getElem_mem g)
 ·have : Pl.cf L k = 0 := by unfold Pl.cf; rw [List.getElem?_eq_none g]; rfl
  omega
theorem vp2 (L : List Int) (h : okI L = true := by rfl) (hn : Pl.trim L = L := by rfl) : VP L := k'n3 h hn
theorem tp (z : Int) (h : -9223372036854775808 ≤ z ∧ z ≤ 9223372036854775807 := by decide) : z.natAbs < Top := k'll h
theorem k'n9 (y : World) (v1 v2 : Value) (h1 : Rp y v1 [1,1]) (h2 : Rp y v2 [-1,1]) : Calls Tryz.prog 27 #[v1,v2] y (ResP [-1,0,1] y) :=
 k'ix [1,1] [-1,1] v1 v2 y h1 h2 (vp2 _) (vp2 _) (by rfl) (by decide) (by decide)
theorem k'na (y : World) (v1 v2 : Value) (h1 : Rp y v1 [1,2]) (h2 : Rp y v2 [3,2]) : Calls Tryz.prog 26 #[v1,v2] y (ResP [-2] y) := by
 refine (k'ic [1,2] [3,2] v1 v2 y h1 h2 (vp2 _) (vp2 _)).mono ?_;rintro e w' (⟨-,h⟩ | ⟨⟨k,hk⟩,-⟩)
 ·exact h
 ·have a1 := k'n8 (L := [1,2]) rfl k
  have a2 := k'n8 (L := [3,2]) rfl k;exact absurd (k'll (by omega)) hk
theorem k'nb (y : World) (v : Value) (h : Rp y v [5,4,3]) : Calls Tryz.prog 32 #[v] y (ResP [4,6] y) := by
 refine k'm9 [5,4,3] v y h (vp2 _) (by decide) ?_
 intro k hk;have h1 := k'n8 (L := [5,4,3]) rfl (k + 1);have h2 : k < 2 := hk;rcases (by omega : k = 0 ∨ k = 1) with rfl | rfl <;> exact k'll (by simp only [Int.natCast_zero,Int.natCast_one]; omega)
theorem k'nc (y : World) (v : Value) (h : Rp y v [1,0,2]) : Calls Tryz.prog 42 #[v,R 1 3] y (Ret (.tuple #[Z 11,.int .i64 0]) y) :=
 k'lf [1,0,2] v 1 3 y h (vp2 _) (tp 1) (tp 3) (by rfl)
theorem k'nd (y : World) (v : Value) (h : Rp y v [1,0,2]) : Calls Tryz.prog 43 #[v,R 1 3] y (Ret (.tuple #[R 11 9,.int .i64 0]) y) := by
 refine k'li [1,0,2] v 1 3 y h (vp2 _) (tp 1) (tp 3) (by rfl) (by decide) (tp 11) ?_
 intro j hj;have h2 : j ≤ 2 := hj;rcases (by omega : j = 0 ∨ j = 1 ∨ j = 2) with rfl | rfl | rfl
 ·exact tp 1
 ·exact tp 3
 ·exact tp 9
theorem k'ne (y : World) (v : Value) (h : Rp y v [-2,0,1]) : Calls Tryz.prog 44 #[v,R 7 5] y (Ret (.tuple #[.int .i64 (-1),.int .i64 0]) y) :=
 k'lg [-2,0,1] v 7 5 y h (vp2 _) (tp 7) (tp 5) (by rfl) (by have e : evl [-2,0,1] 7 5 = -1 := (by rfl); rw [e]; exact tp (-1))
theorem k'nf (y : World) (v : Value) (h : Rp y v [1,0,2]) : Calls Tryz.prog 51 #[v,Z 1,Z 1,Z 3] y (ResP [11,4,2] y) :=
 k'my [1,0,2] v 1 1 3 y h (vp2 _) (tp 1) (tp 1) (tp 3) (by rfl)
theorem k'ng (y : World) (v : Value) (h : Rp y v [6,-4]) : Calls Tryz.prog 33 #[v] y (Ret (.tuple #[Z 2,.int .i64 0]) y) :=
 k'm2 [6,-4] v y h (vp2 _)
theorem k'nh (y : World) (v : Value) (h : Rp y v [-6,-4]) : Calls Tryz.prog 34 #[v] y (ResP [-3,-2] y) :=
 k'm0 [-6,-4] v y h (vp2 _)
theorem k'ni (y : World) (v1 v2 : Value) (h1 : Rp y v1 [1,0,0,1]) (h2 : Rp y v2 [1,2]) : Calls Tryz.prog 53 #[v1,v2] y (ResP [7] y) :=
 k'hy [1,0,0,1] [1,2] v1 v2 y h1 h2 (vp2 _) (vp2 _) (by rfl)
theorem k'nj (y : World) (v1 v2 : Value) (h1 : Rp y v1 [-1,0,1]) (h2 : Rp y v2 [1,1]) : Calls Tryz.prog 54 #[v1,v2] y (ResP [-1,1] y) := by
 refine (k'ly [-1,0,1] [1,1] v1 v2 y h1 h2 (vp2 _) (vp2 _) (by rfl)).mono ?_
 rintro e w' (⟨t,ht,h⟩ | ⟨h,-⟩)
 ·have e1 : Pl.dvs [1,1] 2 [-1,0,1] = some [-1,1] := by rfl
  have e2 : some t = some [-1,1] := ht.symm.trans e1;injection e2 with e2;rwa [e2] at h
 ·exact absurd h (by decide)
theorem k'nk (y : World) (v1 v2 : Value) (h1 : Rp y v1 [1,0,1]) (h2 : Rp y v2 [1,1]) : Calls Tryz.prog 54 #[v1,v2] y (ResE 10 y) := by
 refine (k'ly [1,0,1] [1,1] v1 v2 y h1 h2 (vp2 _) (vp2 _) (by rfl)).mono ?_
 rintro e w' (⟨t,ht,h⟩ | ⟨-,h⟩)
 ·exact absurd ht (by have e1 : Pl.dvs [1, 1] 2 [1, 0, 1] = none := by rfl
                      intro h; have e2 := e1.symm.trans h; cases e2)
 ·exact h
def EuS (l : List (List Int × List Int)) (p q : List Int) : Prop := (p,q) ∈ l
def EuSok (l : List (List Int × List Int)) : Bool := l.all fun x => okI x.1 && okI x.2 && (if 1 < x.2.length ∧ x.2.length ≤ x.1.length then decide ((2 * Pl.mx x.2) ^ (x.1.length + 1 - x.2.length) * Pl.mx x.1 ≤ 1000000) && decide ((x.2,Pl.prim (Pl.rest x.1 x.2)) ∈ l) else true)
theorem k'nl (l : List (List Int × List Int)) (h : EuSok l = true) : Pl.Euk (EuS l) := by
 have hh : ∀ p q,EuS l p q → okI p = true ∧ okI q = true ∧ (1 < q.length ∧ q.length ≤ p.length → (2 * Pl.mx q) ^ (p.length + 1 - q.length) * Pl.mx p ≤ 1000000 ∧ (q,Pl.prim (Pl.rest p q)) ∈ l) := by
  intro p q hs;have := List.all_eq_true.1 h _ hs;simp only [Bool.and_eq_true] at this;refine ⟨this.1.1,this.1.2,fun hc => ?_⟩;have h2 := this.2;rw [if_pos hc] at h2;simpa only [Bool.and_eq_true,decide_eq_true_eq] using h2
 refine ⟨fun p q hs a ha => k'll (k'n2 (hh p q hs).1 a ha),fun p q hs a ha => k'll (k'n2 (hh p q hs).2.1 a ha),fun p q hs h1 h2 => ?_,fun p q hs h1 h2 => ((hh p q hs).2.2 ⟨h1,h2⟩).2⟩;have := ((hh p q hs).2.2 ⟨h1,h2⟩).1;have t : 1000000 < Top := tp 1000000;exact Nat.lt_of_le_of_lt this t
theorem k'nm (y : World) (v1 v2 : Value) (h1 : Rp y v1 [-1,0,1]) (h2 : Rp y v2 [2,4,2]) : Calls Tryz.prog 55 #[v1,v2] y (ResP [1,1] y) :=
 k'm4 [-1,0,1] [2,4,2] v1 v2 y h1 h2 (vp2 _) (vp2 _) (by rfl) (EuS [([-1,0,1],[1,2,1]),([1,2,1],[-1,-1]),([-1,-1],[])]) (k'nl _ (by rfl)) (fun _ => List.mem_cons_self) (fun h => absurd h (by decide))
theorem k'nn (y : World) : Rp y (.slice none 0 0) [] := Rw.nil y
theorem k'no (y : World) (v1 : Value) (h1 : Rp y v1 [1,1]) : Calls Tryz.prog 55 #[v1,.slice none 0 0] y (ResP [1,1] y) :=
 k'm4 [1,1] [] v1 _ y h1 (k'nn y) (vp2 _) (vp2 _) (by rfl) (EuS [([1,1],[])]) (k'nl _ (by rfl)) (fun _ => List.mem_cons_self) (fun h => absurd h (by decide))
theorem k'np (y : World) (v1 v2 : Value) (h1 : Rp y v1 [2]) (h2 : Rp y v2 [4]) : Calls Tryz.prog 55 #[v1,v2] y (ResP [1] y) :=
 k'm4 [2] [4] v1 v2 y h1 h2 (vp2 _) (vp2 _) (by rfl) (EuS [([1],[1])]) (k'nl _ (by rfl)) (fun _ => List.mem_cons_self) (fun h => absurd h (by decide))
theorem k'nq (w : World) : Calls Tryz.prog 12 #[] w (Ret (.bool true) w) := by
 have H_ofp1p0m2p0 : Hid (∀ y : World,Calls Tryz.prog 22 #[.slice (some ⟨y.heap.size,0,none⟩) 4 4] (y.alloc (.cells #[.int .i64 1,.int .i64 0,.int .i64 (-2),.int .i64 0] 3)) (ResP [1,0,-2] y)) := fun y => k'n4 [1,0,-2,0] [1,0,-2] (by rfl) (by rfl) y
 have H_ofp0p0 : Hid (∀ y : World,Calls Tryz.prog 22 #[.slice (some ⟨y.heap.size,0,none⟩) 2 2] (y.alloc (.cells #[.int .i64 0,.int .i64 0] 3)) (ResP [] y)) := fun y => k'n4 [0,0] [] (by rfl) (by rfl) y
 have H_pp1p1 : Hid (∀ y : World,Calls Tryz.prog 65 #[.slice (some ⟨y.heap.size,0,none⟩) 2 2] (y.alloc (.cells #[.int .i64 1,.int .i64 1] 3)) (RpPost [1,1] y)) := fun y => k_p [1,1] [1,1] (by rfl) (by rfl) y
 have H_pm1p1 : Hid (∀ y : World,Calls Tryz.prog 65 #[.slice (some ⟨y.heap.size,0,none⟩) 2 2] (y.alloc (.cells #[.int .i64 (-1),.int .i64 1] 3)) (RpPost [-1,1] y)) := fun y => k_p [-1,1] [-1,1] (by rfl) (by rfl) y
 have H_pp1p2 : Hid (∀ y : World,Calls Tryz.prog 65 #[.slice (some ⟨y.heap.size,0,none⟩) 2 2] (y.alloc (.cells #[.int .i64 1,.int .i64 2] 3)) (RpPost [1,2] y)) := fun y => k_p [1,2] [1,2] (by rfl) (by rfl) y
 have H_pp3p2 : Hid (∀ y : World,Calls Tryz.prog 65 #[.slice (some ⟨y.heap.size,0,none⟩) 2 2] (y.alloc (.cells #[.int .i64 3,.int .i64 2] 3)) (RpPost [3,2] y)) := fun y => k_p [3,2] [3,2] (by rfl) (by rfl) y
 have H_pp5p4p3 : Hid (∀ y : World,Calls Tryz.prog 65 #[.slice (some ⟨y.heap.size,0,none⟩) 3 3] (y.alloc (.cells #[.int .i64 5,.int .i64 4,.int .i64 3] 3)) (RpPost [5,4,3] y)) := fun y => k_p [5,4,3] [5,4,3] (by rfl) (by rfl) y
 have H_pp1p0p2 : Hid (∀ y : World,Calls Tryz.prog 65 #[.slice (some ⟨y.heap.size,0,none⟩) 3 3] (y.alloc (.cells #[.int .i64 1,.int .i64 0,.int .i64 2] 3)) (RpPost [1,0,2] y)) := fun y => k_p [1,0,2] [1,0,2] (by rfl) (by rfl) y
 have H_pm2p0p1 : Hid (∀ y : World,Calls Tryz.prog 65 #[.slice (some ⟨y.heap.size,0,none⟩) 3 3] (y.alloc (.cells #[.int .i64 (-2),.int .i64 0,.int .i64 1] 3)) (RpPost [-2,0,1] y)) := fun y => k_p [-2,0,1] [-2,0,1] (by rfl) (by rfl) y
 have H_pp6m4 : Hid (∀ y : World,Calls Tryz.prog 65 #[.slice (some ⟨y.heap.size,0,none⟩) 2 2] (y.alloc (.cells #[.int .i64 6,.int .i64 (-4)] 3)) (RpPost [6,-4] y)) := fun y => k_p [6,-4] [6,-4] (by rfl) (by rfl) y
 have H_pm6m4 : Hid (∀ y : World,Calls Tryz.prog 65 #[.slice (some ⟨y.heap.size,0,none⟩) 2 2] (y.alloc (.cells #[.int .i64 (-6),.int .i64 (-4)] 3)) (RpPost [-6,-4] y)) := fun y => k_p [-6,-4] [-6,-4] (by rfl) (by rfl) y
 have H_pp1p0p0p1 : Hid (∀ y : World,Calls Tryz.prog 65 #[.slice (some ⟨y.heap.size,0,none⟩) 4 4] (y.alloc (.cells #[.int .i64 1,.int .i64 0,.int .i64 0,.int .i64 1] 3)) (RpPost [1,0,0,1] y)) := fun y => k_p [1,0,0,1] [1,0,0,1] (by rfl) (by rfl) y
 have H_pm1p0p1 : Hid (∀ y : World,Calls Tryz.prog 65 #[.slice (some ⟨y.heap.size,0,none⟩) 3 3] (y.alloc (.cells #[.int .i64 (-1),.int .i64 0,.int .i64 1] 3)) (RpPost [-1,0,1] y)) := fun y => k_p [-1,0,1] [-1,0,1] (by rfl) (by rfl) y
 have H_pp1p0p1 : Hid (∀ y : World,Calls Tryz.prog 65 #[.slice (some ⟨y.heap.size,0,none⟩) 3 3] (y.alloc (.cells #[.int .i64 1,.int .i64 0,.int .i64 1] 3)) (RpPost [1,0,1] y)) := fun y => k_p [1,0,1] [1,0,1] (by rfl) (by rfl) y
 have H_pp2p4p2 : Hid (∀ y : World,Calls Tryz.prog 65 #[.slice (some ⟨y.heap.size,0,none⟩) 3 3] (y.alloc (.cells #[.int .i64 2,.int .i64 4,.int .i64 2] 3)) (RpPost [2,4,2] y)) := fun y => k_p [2,4,2] [2,4,2] (by rfl) (by rfl) y
 have H_pp2 : Hid (∀ y : World,Calls Tryz.prog 65 #[.slice (some ⟨y.heap.size,0,none⟩) 1 1] (y.alloc (.cells #[.int .i64 2] 3)) (RpPost [2] y)) := fun y => k_p [2] [2] (by rfl) (by rfl) y
 have H_pp4 : Hid (∀ y : World,Calls Tryz.prog 65 #[.slice (some ⟨y.heap.size,0,none⟩) 1 1] (y.alloc (.cells #[.int .i64 4] 3)) (RpPost [4] y)) := fun y => k_p [4] [4] (by rfl) (by rfl) y
 have H_isp1p0m2 : Hid (∀ (y : World) (v : Value),Rp y v [1,0,-2] → Calls Tryz.prog 64 #[v,.int .i64 0,.slice (some ⟨y.heap.size,0,none⟩) 3 3] (y.alloc (.cells #[.int .i64 1,.int .i64 0,.int .i64 (-2)] 3)) (BPost true y)) := fun y v h => k'n5 [1,0,-2] [1,0,-2] (by rfl) (by rfl) y v h
 have H_ism1p0p1 : Hid (∀ (y : World) (v : Value),Rp y v [-1,0,1] → Calls Tryz.prog 64 #[v,.int .i64 0,.slice (some ⟨y.heap.size,0,none⟩) 3 3] (y.alloc (.cells #[.int .i64 (-1),.int .i64 0,.int .i64 1] 3)) (BPost true y)) := fun y v h => k'n5 [-1,0,1] [-1,0,1] (by rfl) (by rfl) y v h
 have H_ism2 : Hid (∀ (y : World) (v : Value),Rp y v [-2] → Calls Tryz.prog 64 #[v,.int .i64 0,.slice (some ⟨y.heap.size,0,none⟩) 1 1] (y.alloc (.cells #[.int .i64 (-2)] 3)) (BPost true y)) := fun y v h => k'n5 [-2] [-2] (by rfl) (by rfl) y v h
 have H_isp4p6 : Hid (∀ (y : World) (v : Value),Rp y v [4,6] → Calls Tryz.prog 64 #[v,.int .i64 0,.slice (some ⟨y.heap.size,0,none⟩) 2 2] (y.alloc (.cells #[.int .i64 4,.int .i64 6] 3)) (BPost true y)) := fun y v h => k'n5 [4,6] [4,6] (by rfl) (by rfl) y v h
 have H_isp11p4p2 : Hid (∀ (y : World) (v : Value),Rp y v [11,4,2] → Calls Tryz.prog 64 #[v,.int .i64 0,.slice (some ⟨y.heap.size,0,none⟩) 3 3] (y.alloc (.cells #[.int .i64 11,.int .i64 4,.int .i64 2] 3)) (BPost true y)) := fun y v h => k'n5 [11,4,2] [11,4,2] (by rfl) (by rfl) y v h
 have H_ism3m2 : Hid (∀ (y : World) (v : Value),Rp y v [-3,-2] → Calls Tryz.prog 64 #[v,.int .i64 0,.slice (some ⟨y.heap.size,0,none⟩) 2 2] (y.alloc (.cells #[.int .i64 (-3),.int .i64 (-2)] 3)) (BPost true y)) := fun y v h => k'n5 [-3,-2] [-3,-2] (by rfl) (by rfl) y v h
 have H_isp7 : Hid (∀ (y : World) (v : Value),Rp y v [7] → Calls Tryz.prog 64 #[v,.int .i64 0,.slice (some ⟨y.heap.size,0,none⟩) 1 1] (y.alloc (.cells #[.int .i64 7] 3)) (BPost true y)) := fun y v h => k'n5 [7] [7] (by rfl) (by rfl) y v h
 have H_ism1p1 : Hid (∀ (y : World) (v : Value),Rp y v [-1,1] → Calls Tryz.prog 64 #[v,.int .i64 0,.slice (some ⟨y.heap.size,0,none⟩) 2 2] (y.alloc (.cells #[.int .i64 (-1),.int .i64 1] 3)) (BPost true y)) := fun y v h => k'n5 [-1,1] [-1,1] (by rfl) (by rfl) y v h
 have H_isp1p1 : Hid (∀ (y : World) (v : Value),Rp y v [1,1] → Calls Tryz.prog 64 #[v,.int .i64 0,.slice (some ⟨y.heap.size,0,none⟩) 2 2] (y.alloc (.cells #[.int .i64 1,.int .i64 1] 3)) (BPost true y)) := fun y v h => k'n5 [1,1] [1,1] (by rfl) (by rfl) y v h
 have H_isp1 : Hid (∀ (y : World) (v : Value),Rp y v [1] → Calls Tryz.prog 64 #[v,.int .i64 0,.slice (some ⟨y.heap.size,0,none⟩) 1 1] (y.alloc (.cells #[.int .i64 1] 3)) (BPost true y)) := fun y v h => k'n5 [1] [1] (by rfl) (by rfl) y v h
 have H_deg1 := i' (fun y v h => k'n6 [1,0,-2] (vp2 _) y v h 2 (by rfl))
 have H_deg2 := i' (fun y v h => k'n6 [] (vp2 _) y v h (-1) (by rfl))
 have H_bits := i' (fun y v h => k'n7 [1,0,-2] (vp2 _) y v h 2 (by rfl))
 have H_mul := i' k'n9;have H_sub := i' k'na;have H_der := i' k'nb;have H_eval := i' k'nc;have H_value := i' k'nd;have H_signat := i' k'ne;have H_comp := i' k'nf;have H_cont := i' k'ng;have H_prim := i' k'nh;have H_rest := i' k'ni;have H_div1 := i' k'nj;have H_div2 := i' k'nk;have H_gcd1 := i' k'nm;have H_gcd2 := i' k'no;have H_gcd3 := i' k'np;have H_w1 := i' (fun w => k'lj 1 w (by decide) (by decide))
 have H_w3 := i' (fun w => k'lj 3 w (by decide) (by decide))
 have H_w11 := i' (fun w => k'lj 11 w (by decide) (by decide))
 have H_w2 := i' (fun w => k'lj 2 w (by decide) (by decide))
 have H_q1_3 := i' (fun w => k'lk 1 3 w (by decide) (by decide) (by decide) (by decide))
 have H_q7_5 := i' (fun w => k'lk 7 5 w (by decide) (by decide) (by decide) (by decide))
 have H_q11_9 := i' (fun w => k'lk 11 9 w (by decide) (by decide) (by decide) (by decide))
 unfold ResP ResE Ret RpPost BPost ZPost QZPost Z R at *;unfold rat at *;generalize zb 1 = b1 at *;generalize zs 1 = s1 at *;generalize zb 3 = b3 at *;generalize zs 3 = s3 at *;generalize zb 7 = b7 at *;generalize zs 7 = s7 at *;generalize zb 5 = b5 at *;generalize zs 5 = s5 at *;generalize zb 11 = b11 at *;generalize zs 11 = s11 at *;generalize zb 9 = b9 at *;generalize zs 9 = s9 at *;generalize zb 2 = b2 at *;generalize zs 2 = s2 at *;go_enter Tryz.func12,Tryz.ntmps12;have TOT : Hid (Below w.heap.size w w) := Below.refl _ _;go_wp2_with fail;refine (H_ofp1p0m2p0.out _).mono ?_;rintro e x1 ⟨v1,rfl,r1,b1⟩;have E := i' b1;have Ra := i' r1;clear r1;clear b1;have TOT := i' (k'4h TOT.out E.out);clear E;go_wp2_with fail;refine (H_deg1.out _ _ Ra.out).mono ?_;rintro e x2 ⟨rfl,b2⟩;have E := i' b2;clear b2;have TOT := i' (k'4h TOT.out E.out);have Ra := i' (Ra.out.below E.out);clear E;go_wp2_with fail;refine (H_bits.out _ _ Ra.out).mono ?_;rintro e x3 ⟨rfl,b3⟩;have E := i' b3;clear b3;have TOT := i' (k'4h TOT.out E.out);have Ra := i' (Ra.out.below E.out);clear E;go_wp2_with fail;refine (H_ofp0p0.out _).mono ?_;rintro e x4 ⟨v4,rfl,r4,b4⟩;have E := i' b4;have Rz := i' r4;clear r4;clear b4;have TOT := i' (k'4h TOT.out E.out);have Ra := i' (Ra.out.below E.out);clear E;go_wp2_with fail;refine (H_deg2.out _ _ Rz.out).mono ?_;rintro e x5 ⟨rfl,b5⟩;have E := i' b5;clear b5;have TOT := i' (k'4h TOT.out E.out);have Ra := i' (Ra.out.below E.out);have Rz := i' (Rz.out.below E.out);clear E;obtain ⟨z1,z2,z3,z4,hz,-,-,-,-⟩ := Rp.open_ Rz.out;subst hz;simp only [List.length_nil] at Rz ⊢;go_wp2_with fail;refine (H_isp1p0m2.out _ _ Ra.out).mono ?_;rintro e x6 ⟨rfl,b6⟩;have E := i' b6;clear b6;have TOT := i' (k'4h TOT.out E.out);have Ra := i' (Ra.out.below E.out);have Rz := i' (Rz.out.below E.out);clear E;clear Ra;clear Rz;go_wp2_with fail;refine (H_pp1p1.out _).mono ?_;rintro e x7 ⟨v7,rfl,r7,b7⟩;have E := i' b7;have Rl1 := i' r7;clear r7;clear b7;go_wp2_with fail;refine (H_pm1p1.out _).mono ?_;rintro e x8 ⟨v8,rfl,r8,b8⟩;have Rl1 := i' (Rl1.out.below b8);have E := i' (k'4h E.out b8);have Rl2 := i' r8;clear r8;clear b8;go_wp2_with fail;refine (H_mul.out _ _ _ Rl1.out Rl2.out).mono ?_;rintro e x9 ⟨v9,rfl,r9,b9⟩;have Rl1 := i' (Rl1.out.below b9);have Rl2 := i' (Rl2.out.below b9);have E := i' (k'4h E.out b9);have Rm := i' r9;clear r9;clear b9;have TOT := i' (k'4h TOT.out E.out);clear Rl1;clear Rl2;clear E;go_wp2_with fail;refine (H_pp1p2.out _).mono ?_;rintro e x10 ⟨v10,rfl,r10,b10⟩;have E := i' b10;have Rl1 := i' r10;clear r10;clear b10;go_wp2_with fail;refine (H_pp3p2.out _).mono ?_;rintro e x11 ⟨v11,rfl,r11,b11⟩;have Rl1 := i' (Rl1.out.below b11);have E := i' (k'4h E.out b11);have Rl2 := i' r11;clear r11;clear b11;go_wp2_with fail
 refine (H_sub.out _ _ _ Rl1.out Rl2.out).mono ?_;rintro e x12 ⟨v12,rfl,r12,b12⟩;have Rl1 := i' (Rl1.out.below b12);have Rl2 := i' (Rl2.out.below b12);have E := i' (k'4h E.out b12);have Rs := i' r12;clear r12;clear b12;have TOT := i' (k'4h TOT.out E.out);have Rm := i' (Rm.out.below E.out);clear Rl1;clear Rl2;clear E;go_wp2_with fail;refine (H_pp5p4p3.out _).mono ?_;rintro e x13 ⟨v13,rfl,r13,b13⟩;have E := i' b13;have Rl1 := i' r13;clear r13;clear b13;go_wp2_with fail;refine (H_der.out _ _ Rl1.out).mono ?_;rintro e x14 ⟨v14,rfl,r14,b14⟩;have Rl1 := i' (Rl1.out.below b14);have E := i' (k'4h E.out b14);have Rt := i' r14;clear r14;clear b14;have TOT := i' (k'4h TOT.out E.out);have Rm := i' (Rm.out.below E.out);have Rs := i' (Rs.out.below E.out);clear Rl1;clear E;go_wp2_with fail;refine (H_ism1p0p1.out _ _ Rm.out).mono ?_;rintro e x15 ⟨rfl,b15⟩;have E := i' b15;clear b15;go_wp2_with fail;refine (H_ism2.out _ _ (Rs.out.below E.out)).mono ?_;rintro e x16 ⟨rfl,b16⟩;have E := i' (k'4h E.out b16);clear b16;go_wp2_with fail;refine (H_isp4p6.out _ _ (Rt.out.below E.out)).mono ?_;rintro e x17 ⟨rfl,b17⟩;have E := i' (k'4h E.out b17);clear b17;have TOT := i' (k'4h TOT.out E.out);have Rm := i' (Rm.out.below E.out);have Rs := i' (Rs.out.below E.out);have Rt := i' (Rt.out.below E.out);clear E;clear Rm;clear Rs;clear Rt;go_wp2_with fail;refine (H_pp1p0p2.out _).mono ?_;rintro e x18 ⟨v18,rfl,r18,b18⟩;have E := i' b18;have Rl1 := i' r18;clear r18;clear b18;go_wp2_with fail;refine (H_q1_3.out _).mono ?_;rintro e x19 ⟨rfl,b19⟩;have Rl1 := i' (Rl1.out.below b19);have E := i' (k'4h E.out b19);clear b19;go_wp2_with fail;refine (H_eval.out _ _ Rl1.out).mono ?_;rintro e x20 ⟨rfl,b20⟩;have Rl1 := i' (Rl1.out.below b20);have E := i' (k'4h E.out b20);clear b20;obtain ⟨u14,hu14⟩ : ∃ u : World,u = x20.alloc (.cells #[.bool b11,.string s11] 44) := ⟨_,rfl⟩;have N14 : Hid (ZC (.bool b11) (.string s11) u14 x20.heap.size) := by rw [hu14]; exact ZC.new rfl
 have B9 : Hid (Below x20.heap.size x20 u14) := by rw [hu14]; exact k'5u _ _
 have E := i' (k'4h E.out B9.out);clear B9;have TOT := i' (k'4h TOT.out E.out);clear Rl1;clear E;have T14 := N14;clear N14;go_upto_region 14 with (fail);rw [← hu14];clear hu14;go_wp2_with fail;refine (H_pp1p0p2.out _).mono ?_;rintro e x21 ⟨v21,rfl,r21,b21⟩;have E := i' b21;have Rl1 := i' r21;clear r21;clear b21;go_wp2_with fail;refine (H_q1_3.out _).mono ?_;rintro e x22 ⟨rfl,b22⟩;have Rl1 := i' (Rl1.out.below b22);have E := i' (k'4h E.out b22);clear b22;go_wp2_with fail;refine (H_value.out _ _ Rl1.out).mono ?_;rintro e x23 ⟨rfl,b23⟩;have Rl1 := i' (Rl1.out.below b23);have E := i' (k'4h E.out b23);clear b23;obtain ⟨u15,hu15⟩ : ∃ u : World,u = x23.alloc (.cells #[.bool b11,.string s11,.bool b9,.string s9] 59) := ⟨_,rfl⟩;have N15 : Hid (ZC4 (.bool b11) (.string s11) (.bool b9) (.string s9) u15 x23.heap.size) := by rw [hu15]; exact ZC4.made0 x23
 have B9 : Hid (Below x23.heap.size x23 u15) := by rw [hu15]; exact k'5u _ _
 have E := i' (k'4h E.out B9.out);clear B9;have TOT := i' (k'4h TOT.out E.out);have T14 := i' (T14.out.next E.out);clear Rl1;clear E;have T15 := N15;clear N15;go_upto_region 15 with (fail);rw [← hu15];clear hu15;go_wp2_with fail;refine (H_pm2p0p1.out _).mono ?_;rintro e x24 ⟨v24,rfl,r24,b24⟩;have E := i' b24;have Rl1 := i' r24;clear r24;clear b24;go_wp2_with fail;refine (H_q7_5.out _).mono ?_;rintro e x25 ⟨rfl,b25⟩;have Rl1 := i' (Rl1.out.below b25);have E := i' (k'4h E.out b25);clear b25;go_wp2_with fail;refine (H_signat.out _ _ Rl1.out).mono ?_;rintro e x26 ⟨rfl,b26⟩;have Rl1 := i' (Rl1.out.below b26);have E := i' (k'4h E.out b26);clear b26;have TOT := i' (k'4h TOT.out E.out);have T14 := i' (T14.out.next E.out);have T15 := i' (T15.out.next E.out);clear Rl1;clear E;go_wp2_with fail;refine (H_pp1p0p2.out _).mono ?_;rintro e x27 ⟨v27,rfl,r27,b27⟩;have E := i' b27;have Rl1 := i' r27;clear r27;clear b27;go_wp2_with fail;refine (H_w1.out _).mono ?_;rintro e x28 ⟨rfl,b28⟩;have Rl1 := i' (Rl1.out.below b28);have E := i' (k'4h E.out b28);clear b28;go_wp2_with fail;refine (H_w1.out _).mono ?_;rintro e x29 ⟨rfl,b29⟩;have Rl1 := i' (Rl1.out.below b29);have E := i' (k'4h E.out b29);clear b29;go_wp2_with fail;refine (H_w3.out _).mono ?_;rintro e x30 ⟨rfl,b30⟩;have Rl1 := i' (Rl1.out.below b30);have E := i' (k'4h E.out b30);clear b30;go_wp2_with fail;refine (H_comp.out _ _ Rl1.out).mono ?_;rintro e x31 ⟨v31,rfl,r31,b31⟩;have Rl1 := i' (Rl1.out.below b31);have E := i' (k'4h E.out b31);have Ro := i' r31;clear r31;clear b31;have TOT := i' (k'4h TOT.out E.out);have T14 := i' (T14.out.next E.out);have T15 := i' (T15.out.next E.out);clear Rl1;clear E;go_wp2_with fail;obtain ⟨k0,k1,_⟩ := T14.out;obtain ⟨⟨k2,k3,k4,k5⟩,_⟩ := T15.out;go_region_held3 (fun W' => W'.cell? ⟨x20.heap.size,0,none⟩ = some (.bool b11) ∧ W'.cell? ⟨x20.heap.size,1,none⟩ = some (.string s11) ∧ W'.cell? ⟨x23.heap.size,0,none⟩ = some (.bool b11) ∧ W'.cell? ⟨x23.heap.size,1,none⟩ = some (.string s11) ∧ W'.cell? ⟨x23.heap.size,2,none⟩ = some (.bool b9) ∧ W'.cell? ⟨x23.heap.size,3,none⟩ = some (.string s9)) (go_keep)
  (first
   | (go_at_call 63; (with_reducible refine (H_w11.out _).mono ?_); rintro e y ⟨rfl,b9⟩; have D := i' (show Below x31.heap.size x31 y by first | exact k'4h D.out b9 | exact k'4h ((Below.refl _ _).drew) b9); have p0 := k'4i D.out k0; have p1 := k'4i D.out k1; have p2 := k'4i D.out k2; have p3 := k'4i D.out k3; have p4 := k'4i D.out k4; have p5 := k'4i D.out k5; clear b9)
   | (go_at_call 66; (with_reducible refine (H_q11_9.out _).mono ?_); rintro e y ⟨rfl,b9⟩; have D := i' (show Below x31.heap.size x31 y by first | exact k'4h D.out b9 | exact k'4h ((Below.refl _ _).drew) b9); have p0 := k'4i D.out k0; have p1 := k'4i D.out k1; have p2 := k'4i D.out k2; have p3 := k'4i D.out k3; have p4 := k'4i D.out k4; have p5 := k'4i D.out k5; clear b9)
   | (go_at_call 64; (with_reducible refine (H_isp11p4p2.out _ _ (Ro.out.below ?hb2x31)).mono ?_); (first | exact D.out | exact (Below.refl _ _).drew); rintro e y ⟨rfl,b9⟩; have D := i' (show Below x31.heap.size x31 y by first | exact k'4h D.out b9 | exact k'4h ((Below.refl _ _).drew) b9); have p0 := k'4i D.out k0; have p1 := k'4i D.out k1; have p2 := k'4i D.out k2; have p3 := k'4i D.out k3; have p4 := k'4i D.out k4; have p5 := k'4i D.out k5; clear b9)
   | fail)
 have E := D;clear D k0 k1 k2 k3 k4 k5 p0 p1 p2 p3 p4 p5;clear T14;clear T15;have TOT := i' (k'4h TOT.out E.out);have Ro := i' (Ro.out.below E.out);clear E;clear Ro;go_wp2_with fail;refine (H_pp6m4.out _).mono ?_;rintro e x32 ⟨v32,rfl,r32,b32⟩;have E := i' b32;have Rl1 := i' r32;clear r32;clear b32;go_wp2_with fail;refine (H_cont.out _ _ Rl1.out).mono ?_;rintro e x33 ⟨rfl,b33⟩;have Rl1 := i' (Rl1.out.below b33);have E := i' (k'4h E.out b33);clear b33;obtain ⟨u18,hu18⟩ : ∃ u : World,u = x33.alloc (.cells #[.bool b2,.string s2] 44) := ⟨_,rfl⟩;have N18 : Hid (ZC (.bool b2) (.string s2) u18 x33.heap.size) := by rw [hu18]; exact ZC.new rfl
 have B9 : Hid (Below x33.heap.size x33 u18) := by rw [hu18]; exact k'5u _ _
 have E := i' (k'4h E.out B9.out);clear B9;have TOT := i' (k'4h TOT.out E.out);clear Rl1;clear E;have T18 := N18;clear N18;go_upto_region 20 with (fail);rw [← hu18];clear hu18;go_wp2_with fail;refine (H_pm6m4.out _).mono ?_;rintro e x34 ⟨v34,rfl,r34,b34⟩;have E := i' b34;have Rl1 := i' r34;clear r34;clear b34;go_wp2_with fail;refine (H_prim.out _ _ Rl1.out).mono ?_;rintro e x35 ⟨v35,rfl,r35,b35⟩;have Rl1 := i' (Rl1.out.below b35);have E := i' (k'4h E.out b35);have Ry1 := i' r35;clear r35;clear b35;have TOT := i' (k'4h TOT.out E.out);have T18 := i' (T18.out.next E.out);clear Rl1;clear E;go_wp2_with fail;refine (H_pp1p0p0p1.out _).mono ?_;rintro e x36 ⟨v36,rfl,r36,b36⟩;have E := i' b36;have Rl1 := i' r36;clear r36;clear b36;go_wp2_with fail;refine (H_pp1p2.out _).mono ?_;rintro e x37 ⟨v37,rfl,r37,b37⟩;have Rl1 := i' (Rl1.out.below b37);have E := i' (k'4h E.out b37);have Rl2 := i' r37;clear r37;clear b37;go_wp2_with fail;refine (H_rest.out _ _ _ Rl1.out Rl2.out).mono ?_;rintro e x38 ⟨v38,rfl,r38,b38⟩;have Rl1 := i' (Rl1.out.below b38);have Rl2 := i' (Rl2.out.below b38);have E := i' (k'4h E.out b38);have Ru1 := i' r38;clear r38;clear b38;have TOT := i' (k'4h TOT.out E.out);have Ry1 := i' (Ry1.out.below E.out);have T18 := i' (T18.out.next E.out);clear Rl1;clear Rl2;clear E;go_wp2_with fail;refine (H_pm1p0p1.out _).mono ?_;rintro e x39 ⟨v39,rfl,r39,b39⟩;have E := i' b39;have Rl1 := i' r39;clear r39;clear b39;go_wp2_with fail;refine (H_pp1p1.out _).mono ?_;rintro e x40 ⟨v40,rfl,r40,b40⟩;have Rl1 := i' (Rl1.out.below b40);have E := i' (k'4h E.out b40);have Rl2 := i' r40;clear r40;clear b40;go_wp2_with fail;refine (H_div1.out _ _ _ Rl1.out Rl2.out).mono ?_;rintro e x41 ⟨v41,rfl,r41,b41⟩;have Rl1 := i' (Rl1.out.below b41);have Rl2 := i' (Rl2.out.below b41);have E := i' (k'4h E.out b41);have Rk1 := i' r41;clear r41;clear b41;have TOT := i' (k'4h TOT.out E.out);have Ry1 := i' (Ry1.out.below E.out);have Ru1 := i' (Ru1.out.below E.out);have T18 := i' (T18.out.next E.out);clear Rl1;clear Rl2;clear E;go_wp2_with fail;refine (H_pp1p0p1.out _).mono ?_;rintro e x42 ⟨v42,rfl,r42,b42⟩;have E := i' b42;have Rl1 := i' r42;clear r42;clear b42;go_wp2_with fail;refine (H_pp1p1.out _).mono ?_;rintro e x43 ⟨v43,rfl,r43,b43⟩;have Rl1 := i' (Rl1.out.below b43);have E := i' (k'4h E.out b43);have Rl2 := i' r43;clear r43;clear b43;go_wp2_with fail;refine (H_div2.out _ _ _ Rl1.out Rl2.out).mono ?_;rintro e x44 ⟨rfl,b44⟩;have Rl1 := i' (Rl1.out.below b44);have Rl2 := i' (Rl2.out.below b44);have E := i' (k'4h E.out b44);clear b44;have TOT := i' (k'4h TOT.out E.out);have Ry1 := i' (Ry1.out.below E.out);have Ru1 := i' (Ru1.out.below E.out);have Rk1 := i' (Rk1.out.below E.out)
 have T18 := i' (T18.out.next E.out);clear Rl1;clear Rl2;clear E;go_wp2_with fail;obtain ⟨k0,k1,_⟩ := T18.out;go_region_held3 (fun W' => W'.cell? ⟨x33.heap.size,0,none⟩ = some (.bool b2) ∧ W'.cell? ⟨x33.heap.size,1,none⟩ = some (.string s2)) (go_keep)
  (first
   | (go_at_call 63; (with_reducible refine (H_w2.out _).mono ?_); rintro e y ⟨rfl,b9⟩; have D := i' (show Below x44.heap.size x44 y by first | exact k'4h D.out b9 | exact k'4h ((Below.refl _ _).drew) b9); have p0 := k'4i D.out k0; have p1 := k'4i D.out k1; clear b9)
   | (go_at_call 64; (with_reducible refine (H_ism3m2.out _ _ (Ry1.out.below ?hb1x44)).mono ?_); (first | exact D.out | exact (Below.refl _ _).drew); rintro e y ⟨rfl,b9⟩; have D := i' (show Below x44.heap.size x44 y by first | exact k'4h D.out b9 | exact k'4h ((Below.refl _ _).drew) b9); have p0 := k'4i D.out k0; have p1 := k'4i D.out k1; clear b9)
   | (go_at_call 64; (with_reducible refine (H_isp7.out _ _ (Ru1.out.below ?hb2x44)).mono ?_); (first | exact D.out | exact (Below.refl _ _).drew); rintro e y ⟨rfl,b9⟩; have D := i' (show Below x44.heap.size x44 y by first | exact k'4h D.out b9 | exact k'4h ((Below.refl _ _).drew) b9); have p0 := k'4i D.out k0; have p1 := k'4i D.out k1; clear b9)
   | (go_at_call 64; (with_reducible refine (H_ism1p1.out _ _ (Rk1.out.below ?hb3x44)).mono ?_); (first | exact D.out | exact (Below.refl _ _).drew); rintro e y ⟨rfl,b9⟩; have D := i' (show Below x44.heap.size x44 y by first | exact k'4h D.out b9 | exact k'4h ((Below.refl _ _).drew) b9); have p0 := k'4i D.out k0; have p1 := k'4i D.out k1; clear b9)
   | fail)
 have E := D;clear D k0 k1 p0 p1;clear T18;have TOT := i' (k'4h TOT.out E.out);have Ry1 := i' (Ry1.out.below E.out);have Ru1 := i' (Ru1.out.below E.out);have Rk1 := i' (Rk1.out.below E.out);clear E;clear Ry1;clear Ru1;clear Rk1;go_wp2_with fail;refine (H_pm1p0p1.out _).mono ?_;rintro e x45 ⟨v45,rfl,r45,b45⟩;have E := i' b45;have Rl1 := i' r45;clear r45;clear b45;go_wp2_with fail;refine (H_pp2p4p2.out _).mono ?_;rintro e x46 ⟨v46,rfl,r46,b46⟩;have Rl1 := i' (Rl1.out.below b46);have E := i' (k'4h E.out b46);have Rl2 := i' r46;clear r46;clear b46;go_wp2_with fail;refine (H_gcd1.out _ _ _ Rl1.out Rl2.out).mono ?_;rintro e x47 ⟨v47,rfl,r47,b47⟩;have Rl1 := i' (Rl1.out.below b47);have Rl2 := i' (Rl2.out.below b47);have E := i' (k'4h E.out b47);have Rj1 := i' r47;clear r47;clear b47;have TOT := i' (k'4h TOT.out E.out);clear Rl1;clear Rl2;clear E;go_wp2_with fail;refine (H_pp1p1.out _).mono ?_;rintro e x48 ⟨v48,rfl,r48,b48⟩;have E := i' b48;have Rl1 := i' r48;clear r48;clear b48;go_wp2_with fail;refine (H_gcd2.out _ _ Rl1.out).mono ?_;rintro e x49 ⟨v49,rfl,r49,b49⟩;have Rl1 := i' (Rl1.out.below b49);have E := i' (k'4h E.out b49);have Rl3 := i' r49;clear r49;clear b49;have TOT := i' (k'4h TOT.out E.out);have Rj1 := i' (Rj1.out.below E.out);clear Rl1;clear E;go_wp2_with fail;refine (H_pp2.out _).mono ?_;rintro e x50 ⟨v50,rfl,r50,b50⟩;have E := i' b50;have Rl1 := i' r50;clear r50;clear b50;go_wp2_with fail;refine (H_pp4.out _).mono ?_;rintro e x51 ⟨v51,rfl,r51,b51⟩;have Rl1 := i' (Rl1.out.below b51);have E := i' (k'4h E.out b51);have Rl2 := i' r51;clear r51;clear b51;go_wp2_with fail;refine (H_gcd3.out _ _ _ Rl1.out Rl2.out).mono ?_;rintro e x52 ⟨v52,rfl,r52,b52⟩;have Rl1 := i' (Rl1.out.below b52);have Rl2 := i' (Rl2.out.below b52);have E := i' (k'4h E.out b52);have Rone := i' r52;clear r52;clear b52;have TOT := i' (k'4h TOT.out E.out);have Rj1 := i' (Rj1.out.below E.out);have Rl3 := i' (Rl3.out.below E.out);clear Rl1;clear Rl2;clear E;go_wp2_with fail;refine (H_isp1p1.out _ _ Rj1.out).mono ?_;rintro e x53 ⟨rfl,b53⟩;have E := i' b53;clear b53;go_wp2_with fail;refine (H_isp1p1.out _ _ (Rl3.out.below E.out)).mono ?_;rintro e x54 ⟨rfl,b54⟩;have E := i' (k'4h E.out b54);clear b54;go_wp2_with fail;refine (H_isp1.out _ _ (Rone.out.below E.out)).mono ?_;rintro e x55 ⟨rfl,b55⟩;have E := i' (k'4h E.out b55);clear b55;have TOT := i' (k'4h TOT.out E.out);have Rj1 := i' (Rj1.out.below E.out);have Rl3 := i' (Rl3.out.below E.out);have Rone := i' (Rone.out.below E.out);clear E;go_wp2;go_ret;exact ⟨rfl,TOT.out⟩
theorem k'nr {L1 L2 : List (Bool × ByteArray)} {v1 v2 : Value} {w : World} (h1 : Rw w v1 L1) (h2 : Rw w v2 L2) (z1 : Lim L1) (z2 : Lim L2) (r : Bool) (hr : (shP L1 && shP L2) = r) :
 Calls Tryz.prog 11 #[.slice (some ⟨w.heap.size,0,none⟩) 2 2] (w.alloc (.cells #[v1,v2] 23)) (BPost r w) := by
 have h := k'fj [L1,L2] _ _ (k'ff w h1 h2) (by intro L hL; simp at hL; rcases hL with rfl | rfl <;> assumption) (by simp)
 have e : [L1,L2].all shP = r := by rw [← hr]; simp
 rw [e] at h;exact h.mono fun e w' ⟨h1,h2⟩ => ⟨h1,k'4h (k'5u _ _) h2⟩
theorem k'ns {L1 L2 : List (Bool × ByteArray)} {v1 v2 : Value} {w : World} (h1 : Rw w v1 L1) (h2 : Rw w v2 L2) (z1 : Small L1) (z2 : Small L2) (r : Bool) (hr : (vldP L1 && vldP L2) = r) :
 Calls Tryz.prog 19 #[.slice (some ⟨w.heap.size,0,none⟩) 2 2] (w.alloc (.cells #[v1,v2] 23)) (BPost r w) := by
 have h := k'fi [L1,L2] _ _ (k'ff w h1 h2) (by intro L hL; simp at hL; rcases hL with rfl | rfl <;> assumption) (by simp)
 have e : [L1,L2].all vldP = r := by rw [← hr]; simp
 rw [e] at h;exact h.mono fun e w' ⟨h1,h2⟩ => ⟨h1,k'4h (k'5u _ _) h2⟩
theorem k'nw (p : List Int) (v : Value) (a : Int) (w : World) (h : Rp w v p) (hp : VP p) (ha : a.natAbs < Top) (hb : Pl.sm p * a.natAbs < Top) :
 Calls Tryz.prog 31 #[v,Z a] w (ResP (Pl.trim (Pl.mul p [a])) w) := by
 obtain ⟨w0,hw0⟩ : ∃ w0 : World,w0 = w.alloc (.cells #[.bool (zb a),.string (zs a)] 44) := ⟨_,rfl⟩;have B0 : Hid (Below w.heap.size w w0) := by show Below _ _ _; rw [hw0]; exact (Below.refl _ _).alloc (Nat.le_refl _) _
 have HA0 : Hid (Aw w0 w.heap.size [a]) := by show Aw _ _ _; rw [hw0]; exact Aw.made w [a]
 have HV := i' (k'f0 p v w0 (h.below B0.out) hp);have HS := i' (fun w => k'4k (zb a) (zs a) w (Nat.le_trans (k'6m ha) (by decide)))
 rw [zvt ha] at HS;have hl := hp.len;have hmx : Pl.mx [a] = a.natAbs := by simp [Pl.mx]
 have HM : Hid (∀ c v2 w',Below w.heap.size w w' → Ck w' c 0 → Rp w' v2 [a] → Calls Tryz.prog 81 #[.pointer (some ⟨c,0,none⟩),v,v2] w' (RpPost (Pl.mul p [a]) w')) := fun c v2 w' hbw hck hr => by
  by_cases h0 : p = []
  ·refine (k'is c p [a] v v2 w' (h.below hbw) hr (Or.inl h0) (by omega)).mono ?_
   rintro e w1 ⟨rfl,b1⟩;exact ⟨_,rfl,by rw [h0]; exact Rw.nil _,b1⟩
  ·exact k'io c p [a] v v2 0 w' (h.below hbw) hr hck h0 (by simp) (by omega) (by simp) hp.top (by intro x hx; simp at hx; rw [hx]; exact ha) (by rw [hmx]; exact hb)
 have HT : Hid (∀ v' w',Rp w' v' (Pl.mul p [a]) → Calls Tryz.prog 86 #[v'] w' (RpPost (Pl.trim (Pl.mul p [a])) w')) := fun v' w' hr => by
  refine k'fo v' _ w' hr ?_;intro x hx;by_cases h0 : p = []
  ·subst h0; simp [Pl.mul] at hx
  ·obtain ⟨k,hk,rfl⟩ := List.mem_iff_getElem.1 hx
   rw [← Pl.cf_lt hk,Pl.cf_mul];have h5 := Pl.conv_le p [a] p.length k (Nat.le_refl _);rw [List.take_length,hmx] at h5;exact Nat.lt_of_le_of_lt h5 hb
 generalize Pl.trim (Pl.mul p [a]) = T at *;generalize Pl.mul p [a] = M at *;clear h hp ha hb hmx;unfold Z;go_enter Tryz.func31,Tryz.ntmps31;go_wp2_with fail;rw [← hw0];clear hw0;refine HV.out.mono ?_;rintro e w1 ⟨rfl,b1⟩;have HA1 := i' (HA0.out.below b1);have B1 := i' (k'4h B0.out b1);clear b1;obtain ⟨c0,c1⟩ := HA1.out.cell 0 (by simp)
 simp only [Nat.zero_mul,Nat.zero_add,List.getElem_cons_zero] at c0 c1;go_wp2_with fail;refine (HS.out _).mono ?_;rintro e w2 ⟨rfl,b2⟩;have HA2 := i' (HA1.out.below b2);have B2 := i' (k'4h B1.out b2);clear c0 c1 b2;obtain ⟨w3,hw3⟩ : ∃ w3 : World,w3 = w2.alloc (.cells #[.int .i64 0] 96) := ⟨_,rfl⟩;have HK : Hid (Ck w3 w2.heap.size 0) := by show Ck _ _ _; rw [hw3]; exact heap_alloc_new w2 _
 have B3 : Hid (Below w.heap.size w w3) := by show Below _ _ _; rw [hw3]; exact B2.out.alloc B2.out.size _
 have HA3 : Hid (Aw w3 w.heap.size [a]) := by rw [hw3]; exact HA2.out.alloc _
 go_upto_region 4 with (fail);rw [← hw3];clear hw3;obtain ⟨c0,c1⟩ := HA3.out.cell 0 (by simp)
 simp only [Nat.zero_mul,Nat.zero_add,List.getElem_cons_zero] at c0 c1;obtain ⟨w4,hw4⟩ : ∃ w4 : World,w4 = w3.alloc (.cells #[.bool (zb a),.string (zs a)] 44) := ⟨_,rfl⟩;have HK4 : Hid (Ck w4 w2.heap.size 0) := by rw [hw4]; exact HK.out.alloc _
 have B4 : Hid (Below w.heap.size w w4) := by show Below _ _ _; rw [hw4]; exact B3.out.alloc B3.out.size _
 have HA4 : Hid (Aw w4 w3.heap.size [a]) := by show Aw _ _ _; rw [hw4]; exact Aw.made w3 [a]
 go_wp2_with fail;rw [← hw4];clear hw4 c0 c1;refine (HM.out _ _ _ B4.out HK4.out (Rp.of_whole HA4.out 1 1 rfl (Nat.le_refl _) (by decide))).mono ?_
 rintro e w5 ⟨v5,rfl,r5,b5⟩;have HK5 := i' (HK4.out.below b5);have B5 := i' (k'4h B4.out b5);have R5 := i' r5;clear b5 r5;go_wp2_with fail;refine (HT.out _ _ R5.out).mono ?_;rintro e w6 ⟨v6,rfl,r6,b6⟩;obtain ⟨a6,bb6,o6,c6,rfl,-⟩ := r6.open_;have HK6 := i' (HK5.out.below b6);have B6 := i' (k'4h B5.out b6);have R6 := i' r6;clear b6 r6;go_wp2_with fail;refine (k'fp _ _ _ _ _ HK6.out).mono ?_;rintro en w9 ⟨rfl,b7⟩;have B7 := i' (k'4h B6.out b7);have R7 := i' (R6.out.below b7);clear b7;go_wp2;go_ret2;exact ⟨_,rfl,R7.out,B7.out⟩
theorem k'o2 (L1 L2 : List (Bool × ByteArray)) (v1 v2 : Value) (b1 b2 : Bool) (s1 s2 : ByteArray) (w : World) (h1 : Rw w v1 L1) (h2 : Rw w v2 L2) (z1 : s1.size ≤ 9223372036854775807) (z2 : s2.size ≤ 9223372036854775807)
 (HS : ∀ w',Below w.heap.size w w' → Calls Tryz.prog 11 #[.slice (some ⟨w'.heap.size,0,none⟩) 2 2] (w'.alloc (.cells #[v1,v2] 23)) (BPost false w')) :
 Calls Tryz.prog 10 #[v1,v2,.agg #[.bool b1,.string s1,.bool b2,.string s2]] w (Ret (.bool true) w) := by
 obtain ⟨w0,hw0⟩ : ∃ w0 : World,w0 = w.alloc (.cells #[.bool b1,.string s1,.bool b2,.string s2] 59) := ⟨_,rfl⟩;have I1 : Hid (ZC4 (.bool b1) (.string s1) (.bool b2) (.string s2) w0 w.heap.size) := by rw [hw0]; exact ZC4.made0 w
 have E : Hid (Below w.heap.size w w0) := by rw [hw0]; exact k'5u _ _
 have HK := i' k'nq;have HS := i' HS;have l1 := h1.len;have l2 := h2.len;obtain ⟨p1,a1,o1,c1x,rfl,-,-,-,-⟩ := h1;obtain ⟨p2,a2,o2,c2x,rfl,-,-,-,-⟩ := h2;clear z1 z2;generalize L1.length = n1 at *;generalize L2.length = n2 at *;unfold BPost at *;unfold Ret at *;go_enter Tryz.func10,Tryz.ntmps10;go_upto_region 1 with (fail);rw [← hw0];clear hw0;go_wp2_with fail;refine (HS.out _ E.out).mono ?_;rintro e x1 ⟨rfl,d1⟩;have I1 := i' (I1.out.next d1);have E := i' (k'4h E.out d1);clear d1;obtain ⟨⟨k0,k1,k2,k3⟩,_⟩ := I1.out;go_wp2_with fail;clear k0 k1 k2 k3;refine (HK.out _).mono ?_;rintro e x2 ⟨rfl,d2⟩;have I1 := i' (I1.out.next d2);have E := i' (k'4h E.out d2);clear d2;obtain ⟨⟨k0,k1,k2,k3⟩,_⟩ := I1.out;go_wp2;go_ret;exact ⟨rfl,E.out⟩
theorem k'o3 (L1 L2 : List (Bool × ByteArray)) (v1 v2 : Value) (b1 b2 : Bool) (s1 s2 : ByteArray) (w : World) (h1 : Rw w v1 L1) (h2 : Rw w v2 L2) (z1 : s1.size ≤ 9223372036854775807) (z2 : s2.size ≤ 9223372036854775807) (c1 : 8 < L1.length)
 (HS : ∀ w',Below w.heap.size w w' → Calls Tryz.prog 11 #[.slice (some ⟨w'.heap.size,0,none⟩) 2 2] (w'.alloc (.cells #[v1,v2] 23)) (BPost true w')) :
 Calls Tryz.prog 10 #[v1,v2,.agg #[.bool b1,.string s1,.bool b2,.string s2]] w (Ret (.bool true) w) := by
 obtain ⟨w0,hw0⟩ : ∃ w0 : World,w0 = w.alloc (.cells #[.bool b1,.string s1,.bool b2,.string s2] 59) := ⟨_,rfl⟩;have I1 : Hid (ZC4 (.bool b1) (.string s1) (.bool b2) (.string s2) w0 w.heap.size) := by rw [hw0]; exact ZC4.made0 w
 have E : Hid (Below w.heap.size w w0) := by rw [hw0]; exact k'5u _ _
 have HK := i' k'nq;have HS := i' HS;have l1 := h1.len;have l2 := h2.len;obtain ⟨p1,a1,o1,c1x,rfl,-,-,-,-⟩ := h1;obtain ⟨p2,a2,o2,c2x,rfl,-,-,-,-⟩ := h2;have q1 : (8 : Int) < (L1.length : Int) := by omega
 clear c1;clear z1 z2;generalize L1.length = n1 at *;generalize L2.length = n2 at *;unfold BPost at *;unfold Ret at *;go_enter Tryz.func10,Tryz.ntmps10;go_upto_region 1 with (fail);rw [← hw0];clear hw0;go_wp2_with fail;refine (HS.out _ E.out).mono ?_;rintro e x1 ⟨rfl,d1⟩;have I1 := i' (I1.out.next d1);have E := i' (k'4h E.out d1);clear d1;obtain ⟨⟨k0,k1,k2,k3⟩,_⟩ := I1.out;go_wp2_with fail;clear k0 k1 k2 k3;refine (HK.out _).mono ?_;rintro e x2 ⟨rfl,d2⟩;have I1 := i' (I1.out.next d2);have E := i' (k'4h E.out d2);clear d2;obtain ⟨⟨k0,k1,k2,k3⟩,_⟩ := I1.out;go_wp2;go_ret;exact ⟨rfl,E.out⟩
theorem k'o4 (L1 L2 : List (Bool × ByteArray)) (v1 v2 : Value) (b1 b2 : Bool) (s1 s2 : ByteArray) (w : World) (h1 : Rw w v1 L1) (h2 : Rw w v2 L2) (z1 : s1.size ≤ 9223372036854775807) (z2 : s2.size ≤ 9223372036854775807) (c1 : L1.length ≤ 8) (c2 : 8 < L2.length)
 (HS : ∀ w',Below w.heap.size w w' → Calls Tryz.prog 11 #[.slice (some ⟨w'.heap.size,0,none⟩) 2 2] (w'.alloc (.cells #[v1,v2] 23)) (BPost true w')) :
 Calls Tryz.prog 10 #[v1,v2,.agg #[.bool b1,.string s1,.bool b2,.string s2]] w (Ret (.bool true) w) := by
 obtain ⟨w0,hw0⟩ : ∃ w0 : World,w0 = w.alloc (.cells #[.bool b1,.string s1,.bool b2,.string s2] 59) := ⟨_,rfl⟩;have I1 : Hid (ZC4 (.bool b1) (.string s1) (.bool b2) (.string s2) w0 w.heap.size) := by rw [hw0]; exact ZC4.made0 w
 have E : Hid (Below w.heap.size w w0) := by rw [hw0]; exact k'5u _ _
 have HK := i' k'nq;have HS := i' HS;have l1 := h1.len;have l2 := h2.len;obtain ⟨p1,a1,o1,c1x,rfl,-,-,-,-⟩ := h1;obtain ⟨p2,a2,o2,c2x,rfl,-,-,-,-⟩ := h2;have q1 : ¬ (8 : Int) < (L1.length : Int) := by omega
 have q2 : (8 : Int) < (L2.length : Int) := by omega
 clear c1 c2;clear z1 z2;generalize L1.length = n1 at *;generalize L2.length = n2 at *;unfold BPost at *;unfold Ret at *;go_enter Tryz.func10,Tryz.ntmps10;go_upto_region 1 with (fail);rw [← hw0];clear hw0;go_wp2_with fail;refine (HS.out _ E.out).mono ?_;rintro e x1 ⟨rfl,d1⟩;have I1 := i' (I1.out.next d1);have E := i' (k'4h E.out d1);clear d1;obtain ⟨⟨k0,k1,k2,k3⟩,_⟩ := I1.out;go_wp2_with fail;clear k0 k1 k2 k3;refine (HK.out _).mono ?_;rintro e x2 ⟨rfl,d2⟩;have I1 := i' (I1.out.next d2);have E := i' (k'4h E.out d2);clear d2;obtain ⟨⟨k0,k1,k2,k3⟩,_⟩ := I1.out;go_wp2;go_ret;exact ⟨rfl,E.out⟩
theorem k'o5 (L1 L2 : List (Bool × ByteArray)) (v1 v2 : Value) (b1 b2 : Bool) (s1 s2 : ByteArray) (w : World) (h1 : Rw w v1 L1) (h2 : Rw w v2 L2) (z1 : s1.size ≤ 9223372036854775807) (z2 : s2.size ≤ 9223372036854775807) (c1 : L1.length ≤ 8) (c2 : L2.length ≤ 8)
 (HS : ∀ w',Below w.heap.size w w' → Calls Tryz.prog 11 #[.slice (some ⟨w'.heap.size,0,none⟩) 2 2] (w'.alloc (.cells #[v1,v2] 23)) (BPost true w'))
 (HV : ∀ w',Below w.heap.size w w' → Calls Tryz.prog 19 #[.slice (some ⟨w'.heap.size,0,none⟩) 2 2] (w'.alloc (.cells #[v1,v2] 23)) (BPost false w')) :
 Calls Tryz.prog 10 #[v1,v2,.agg #[.bool b1,.string s1,.bool b2,.string s2]] w (Ret (.bool true) w) := by
 obtain ⟨w0,hw0⟩ : ∃ w0 : World,w0 = w.alloc (.cells #[.bool b1,.string s1,.bool b2,.string s2] 59) := ⟨_,rfl⟩;have I1 : Hid (ZC4 (.bool b1) (.string s1) (.bool b2) (.string s2) w0 w.heap.size) := by rw [hw0]; exact ZC4.made0 w
 have E : Hid (Below w.heap.size w w0) := by rw [hw0]; exact k'5u _ _
 have HK := i' k'nq;have HS := i' HS;have HV := i' HV;have l1 := h1.len;have l2 := h2.len;obtain ⟨p1,a1,o1,c1x,rfl,-,-,-,-⟩ := h1;obtain ⟨p2,a2,o2,c2x,rfl,-,-,-,-⟩ := h2;have q1 : ¬ (8 : Int) < (L1.length : Int) := by omega
 have q2 : ¬ (8 : Int) < (L2.length : Int) := by omega
 clear c1 c2;clear z1 z2;generalize L1.length = n1 at *;generalize L2.length = n2 at *;unfold BPost at *;unfold Ret at *;go_enter Tryz.func10,Tryz.ntmps10;go_upto_region 1 with (fail);rw [← hw0];clear hw0;go_wp2_with fail;refine (HS.out _ E.out).mono ?_;rintro e x1 ⟨rfl,d1⟩;have I1 := i' (I1.out.next d1);have E := i' (k'4h E.out d1);clear d1;obtain ⟨⟨k0,k1,k2,k3⟩,_⟩ := I1.out;go_wp2_with fail;clear k0 k1 k2 k3;refine (HV.out _ E.out).mono ?_;rintro e x2 ⟨rfl,d2⟩;have I1 := i' (I1.out.next d2);have E := i' (k'4h E.out d2);clear d2;obtain ⟨⟨k0,k1,k2,k3⟩,_⟩ := I1.out;go_wp2_with fail;clear k0 k1 k2 k3;refine (HK.out _).mono ?_;rintro e x3 ⟨rfl,d3⟩;have I1 := i' (I1.out.next d3);have E := i' (k'4h E.out d3);clear d3;obtain ⟨⟨k0,k1,k2,k3⟩,_⟩ := I1.out;go_wp2;go_ret;exact ⟨rfl,E.out⟩
theorem k'o6 (L1 L2 : List (Bool × ByteArray)) (v1 v2 : Value) (b1 b2 : Bool) (s1 s2 : ByteArray) (w : World) (h1 : Rw w v1 L1) (h2 : Rw w v2 L2) (z1 : s1.size ≤ 9223372036854775807) (z2 : s2.size ≤ 9223372036854775807) (c1 : L1.length ≤ 8) (c2 : L2.length ≤ 8)
 (HS : ∀ w',Below w.heap.size w w' → Calls Tryz.prog 11 #[.slice (some ⟨w'.heap.size,0,none⟩) 2 2] (w'.alloc (.cells #[v1,v2] 23)) (BPost true w'))
 (HV : ∀ w',Below w.heap.size w w' → Calls Tryz.prog 19 #[.slice (some ⟨w'.heap.size,0,none⟩) 2 2] (w'.alloc (.cells #[v1,v2] 23)) (BPost true w'))
 (HW : ∀ w',Calls Tryz.prog 45 #[.agg #[.bool b1,.string s1,.bool b2,.string s2]] w' (BPost false w')) :
 Calls Tryz.prog 10 #[v1,v2,.agg #[.bool b1,.string s1,.bool b2,.string s2]] w (Ret (.bool true) w) := by
 obtain ⟨w0,hw0⟩ : ∃ w0 : World,w0 = w.alloc (.cells #[.bool b1,.string s1,.bool b2,.string s2] 59) := ⟨_,rfl⟩;have I1 : Hid (ZC4 (.bool b1) (.string s1) (.bool b2) (.string s2) w0 w.heap.size) := by rw [hw0]; exact ZC4.made0 w
 have E : Hid (Below w.heap.size w w0) := by rw [hw0]; exact k'5u _ _
 have HK := i' k'nq;have HS := i' HS;have HV := i' HV;have HW := i' HW;have l1 := h1.len;have l2 := h2.len;obtain ⟨p1,a1,o1,c1x,rfl,-,-,-,-⟩ := h1;obtain ⟨p2,a2,o2,c2x,rfl,-,-,-,-⟩ := h2;have q1 : ¬ (8 : Int) < (L1.length : Int) := by omega
 have q2 : ¬ (8 : Int) < (L2.length : Int) := by omega
 clear c1 c2;clear z1 z2;generalize L1.length = n1 at *;generalize L2.length = n2 at *;unfold BPost at *;unfold Ret at *;go_enter Tryz.func10,Tryz.ntmps10;go_upto_region 1 with (fail);rw [← hw0];clear hw0;go_wp2_with fail;refine (HS.out _ E.out).mono ?_;rintro e x1 ⟨rfl,d1⟩;have I1 := i' (I1.out.next d1);have E := i' (k'4h E.out d1);clear d1;obtain ⟨⟨k0,k1,k2,k3⟩,_⟩ := I1.out;go_wp2_with fail;clear k0 k1 k2 k3;refine (HV.out _ E.out).mono ?_;rintro e x2 ⟨rfl,d2⟩;have I1 := i' (I1.out.next d2);have E := i' (k'4h E.out d2);clear d2;obtain ⟨⟨k0,k1,k2,k3⟩,_⟩ := I1.out;go_wp2_with fail;clear k0 k1 k2 k3;refine (HW.out _).mono ?_;rintro e x3 ⟨rfl,d3⟩;have I1 := i' (I1.out.next d3);have E := i' (k'4h E.out d3);clear d3;obtain ⟨⟨k0,k1,k2,k3⟩,_⟩ := I1.out;go_wp2_with fail;clear k0 k1 k2 k3;refine (HK.out _).mono ?_;rintro e x4 ⟨rfl,d4⟩;have I1 := i' (I1.out.next d4);have E := i' (k'4h E.out d4);clear d4;obtain ⟨⟨k0,k1,k2,k3⟩,_⟩ := I1.out;go_wp2;go_ret;exact ⟨rfl,E.out⟩
theorem k'o7 (L1 L2 : List (Bool × ByteArray)) (v1 v2 : Value) (b1 b2 : Bool) (s1 s2 : ByteArray) (w : World) (h1 : Rw w v1 L1) (h2 : Rw w v2 L2) (z1 : s1.size ≤ 9223372036854775807) (z2 : s2.size ≤ 9223372036854775807) (c1 : L1.length ≤ 8) (c2 : L2.length ≤ 8) (c5 : 8 < s1.size)
 (HS : ∀ w',Below w.heap.size w w' → Calls Tryz.prog 11 #[.slice (some ⟨w'.heap.size,0,none⟩) 2 2] (w'.alloc (.cells #[v1,v2] 23)) (BPost true w'))
 (HV : ∀ w',Below w.heap.size w w' → Calls Tryz.prog 19 #[.slice (some ⟨w'.heap.size,0,none⟩) 2 2] (w'.alloc (.cells #[v1,v2] 23)) (BPost true w'))
 (HW : ∀ w',Calls Tryz.prog 45 #[.agg #[.bool b1,.string s1,.bool b2,.string s2]] w' (BPost true w')) :
 Calls Tryz.prog 10 #[v1,v2,.agg #[.bool b1,.string s1,.bool b2,.string s2]] w (Ret (.bool true) w) := by
 obtain ⟨w0,hw0⟩ : ∃ w0 : World,w0 = w.alloc (.cells #[.bool b1,.string s1,.bool b2,.string s2] 59) := ⟨_,rfl⟩;have I1 : Hid (ZC4 (.bool b1) (.string s1) (.bool b2) (.string s2) w0 w.heap.size) := by rw [hw0]; exact ZC4.made0 w
 have E : Hid (Below w.heap.size w w0) := by rw [hw0]; exact k'5u _ _
 have HK := i' k'nq;have HS := i' HS;have HV := i' HV;have HW := i' HW;have l1 := h1.len;have l2 := h2.len;obtain ⟨p1,a1,o1,c1x,rfl,-,-,-,-⟩ := h1;obtain ⟨p2,a2,o2,c2x,rfl,-,-,-,-⟩ := h2;have q1 : ¬ (8 : Int) < (L1.length : Int) := by omega
 have q2 : ¬ (8 : Int) < (L2.length : Int) := by omega
 have q5 : (8 : Int) < (s1.size : Int) := by omega
 clear c1 c2 c5;clear z1 z2;generalize L1.length = n1 at *;generalize L2.length = n2 at *;unfold BPost at *;unfold Ret at *;go_enter Tryz.func10,Tryz.ntmps10;go_upto_region 1 with (fail);rw [← hw0];clear hw0;go_wp2_with fail;refine (HS.out _ E.out).mono ?_;rintro e x1 ⟨rfl,d1⟩;have I1 := i' (I1.out.next d1);have E := i' (k'4h E.out d1);clear d1;obtain ⟨⟨k0,k1,k2,k3⟩,_⟩ := I1.out;go_wp2_with fail;clear k0 k1 k2 k3;refine (HV.out _ E.out).mono ?_;rintro e x2 ⟨rfl,d2⟩;have I1 := i' (I1.out.next d2);have E := i' (k'4h E.out d2);clear d2;obtain ⟨⟨k0,k1,k2,k3⟩,_⟩ := I1.out;go_wp2_with fail;clear k0 k1 k2 k3;refine (HW.out _).mono ?_;rintro e x3 ⟨rfl,d3⟩;have I1 := i' (I1.out.next d3);have E := i' (k'4h E.out d3);clear d3;obtain ⟨⟨k0,k1,k2,k3⟩,_⟩ := I1.out;go_wp2_with fail;clear k0 k1 k2 k3;refine (HK.out _).mono ?_;rintro e x4 ⟨rfl,d4⟩;have I1 := i' (I1.out.next d4);have E := i' (k'4h E.out d4);clear d4;obtain ⟨⟨k0,k1,k2,k3⟩,_⟩ := I1.out;go_wp2;go_ret;exact ⟨rfl,E.out⟩
theorem k'o8 (L1 L2 : List (Bool × ByteArray)) (v1 v2 : Value) (b1 b2 : Bool) (s1 s2 : ByteArray) (w : World) (h1 : Rw w v1 L1) (h2 : Rw w v2 L2) (z1 : s1.size ≤ 9223372036854775807) (z2 : s2.size ≤ 9223372036854775807) (c1 : L1.length ≤ 8) (c2 : L2.length ≤ 8) (c5 : s1.size ≤ 8) (c6 : 8 < s2.size)
 (HS : ∀ w',Below w.heap.size w w' → Calls Tryz.prog 11 #[.slice (some ⟨w'.heap.size,0,none⟩) 2 2] (w'.alloc (.cells #[v1,v2] 23)) (BPost true w'))
 (HV : ∀ w',Below w.heap.size w w' → Calls Tryz.prog 19 #[.slice (some ⟨w'.heap.size,0,none⟩) 2 2] (w'.alloc (.cells #[v1,v2] 23)) (BPost true w'))
 (HW : ∀ w',Calls Tryz.prog 45 #[.agg #[.bool b1,.string s1,.bool b2,.string s2]] w' (BPost true w')) :
 Calls Tryz.prog 10 #[v1,v2,.agg #[.bool b1,.string s1,.bool b2,.string s2]] w (Ret (.bool true) w) := by
 obtain ⟨w0,hw0⟩ : ∃ w0 : World,w0 = w.alloc (.cells #[.bool b1,.string s1,.bool b2,.string s2] 59) := ⟨_,rfl⟩;have I1 : Hid (ZC4 (.bool b1) (.string s1) (.bool b2) (.string s2) w0 w.heap.size) := by rw [hw0]; exact ZC4.made0 w
 have E : Hid (Below w.heap.size w w0) := by rw [hw0]; exact k'5u _ _
 have HK := i' k'nq;have HS := i' HS;have HV := i' HV;have HW := i' HW;have l1 := h1.len;have l2 := h2.len;obtain ⟨p1,a1,o1,c1x,rfl,-,-,-,-⟩ := h1;obtain ⟨p2,a2,o2,c2x,rfl,-,-,-,-⟩ := h2;have q1 : ¬ (8 : Int) < (L1.length : Int) := by omega
 have q2 : ¬ (8 : Int) < (L2.length : Int) := by omega
 have q5 : ¬ (8 : Int) < (s1.size : Int) := by omega
 have q6 : (8 : Int) < (s2.size : Int) := by omega
 clear c1 c2 c5 c6;clear z1 z2;generalize L1.length = n1 at *;generalize L2.length = n2 at *;unfold BPost at *;unfold Ret at *;go_enter Tryz.func10,Tryz.ntmps10;go_upto_region 1 with (fail);rw [← hw0];clear hw0;go_wp2_with fail;refine (HS.out _ E.out).mono ?_;rintro e x1 ⟨rfl,d1⟩;have I1 := i' (I1.out.next d1);have E := i' (k'4h E.out d1);clear d1;obtain ⟨⟨k0,k1,k2,k3⟩,_⟩ := I1.out;go_wp2_with fail;clear k0 k1 k2 k3;refine (HV.out _ E.out).mono ?_;rintro e x2 ⟨rfl,d2⟩;have I1 := i' (I1.out.next d2);have E := i' (k'4h E.out d2);clear d2;obtain ⟨⟨k0,k1,k2,k3⟩,_⟩ := I1.out;go_wp2_with fail;clear k0 k1 k2 k3;refine (HW.out _).mono ?_;rintro e x3 ⟨rfl,d3⟩;have I1 := i' (I1.out.next d3);have E := i' (k'4h E.out d3);clear d3;obtain ⟨⟨k0,k1,k2,k3⟩,_⟩ := I1.out;go_wp2_with fail;clear k0 k1 k2 k3;refine (HK.out _).mono ?_;rintro e x4 ⟨rfl,d4⟩;have I1 := i' (I1.out.next d4);have E := i' (k'4h E.out d4);clear d4;obtain ⟨⟨k0,k1,k2,k3⟩,_⟩ := I1.out;go_wp2;go_ret;exact ⟨rfl,E.out⟩
theorem k'of {m k : Nat} {x : Int} (h : x.natAbs < D9 ^ m) : (x ^ k).natAbs < D9 ^ (m * k + 1) := by
 rw [Int.natAbs_pow];have h1 : x.natAbs ^ k ≤ (D9 ^ m) ^ k := Nat.pow_le_pow_left (Nat.le_of_lt h) k;rw [← Nat.pow_mul] at h1;exact Nat.lt_of_le_of_lt h1 (Nat.pow_lt_pow_right (by decide) (Nat.lt_succ_self _))
def tm (p : List Int) (n d : Int) (i : Nat) : Int := Pl.cf p i * (n ^ i * d ^ (p.length - 1 - i))
theorem k'oh (p : List Int) (n d : Int) (i : Nat) : tm p n d i = Pl.cf (Pl.lev p d) i * n ^ i := by
 unfold tm;rw [Pl.cf_lev,Int.mul_assoc,Int.mul_comm (d ^ _)]
theorem k'oi {n m : Nat} {p : List Int} {x d : Int} (s : Sz n p) (hx : x.natAbs < D9 ^ m) (hd : d.natAbs < D9 ^ m) (i : Nat) (hi : i < p.length) : (tm p x d i).natAbs < D9 ^ (n + (m * p.length + 1 + (m * p.length + 1))) := by
 unfold tm;rw [Int.natAbs_mul,Int.natAbs_mul];refine k'jw (s i) (k'jw ?_ ?_)
 ·exact Nat.lt_of_lt_of_le (k'of hx) (Nat.pow_le_pow_right (by decide) (by have := Nat.mul_le_mul_left m (Nat.le_of_lt hi); omega))
 ·exact Nat.lt_of_lt_of_le (k'of hd) (Nat.pow_le_pow_right (by decide) (by have := Nat.mul_le_mul_left m (show p.length - 1 - i ≤ p.length by omega); omega))
theorem k'oj {n m : Nat} {p : List Int} {x d : Int} (s : Sz n p) (hx : x.natAbs < D9 ^ m) (hd : d.natAbs < D9 ^ m) (hl : p.length ≤ 100) (i : Nat) (hi : i ≤ p.length) : (Pl.evs (Pl.lev p d) x i).natAbs < D9 ^ (n + (m * p.length + 1 + (m * p.length + 1)) + 1) := by
 have h : (Pl.evs (Pl.lev p d) x i).natAbs ≤ i * D9 ^ (n + (m * p.length + 1 + (m * p.length + 1))) := by
  induction i with
  | zero => simp [Pl.evs]
  | succ i ih =>
   rw [Pl.evs,← k'oh];have h1 := k'oi s hx hd i (by omega)
   have h2 := ih (by omega)
   refine Nat.le_trans (Int.natAbs_add_le _ _) ?_;rw [Nat.succ_mul];omega
 refine Nat.lt_of_le_of_lt h ?_;rw [Nat.pow_succ,Nat.mul_comm i];exact Nat.mul_lt_mul_of_pos_left (by show i < 1000000000; omega) (Nat.pow_pos (by decide))
def Fresh (B : Nat) (v : Value) : Prop := ∃ (p : Option Addr) (n c : Nat),v = .slice p n c ∧ ∀ a,p = some a → B ≤ a.block
theorem Fresh.any {B : Nat} {p : Option Addr} {n c : Nat} (h : Fresh B (.slice p n c)) (m : Nat) : Fresh B (.slice p m c) := by
 obtain ⟨q,n',c',h1,h2⟩ := h;injection h1 with e1 e2 e3;subst e1;exact ⟨p,m,c,rfl,h2⟩
theorem Fresh.le {B B' : Nat} {v : Value} (h : Fresh B v) (hb : B' ≤ B) : Fresh B' v := by
 obtain ⟨q,n,c,h1,h2⟩ := h;exact ⟨q,n,c,h1,fun a ha => Nat.le_trans hb (h2 a ha)⟩
def NBk (v : Value) (g : Nat) : Prop := ∀ (a : Addr) (n c : Nat),v = .slice (some a) n c → a.block ≠ g
theorem RP.set4 {w : World} {g : Nat} {v : Value} {p : List Int} {b0 b1 : Bool} {q q' : Option Addr} {n c n' c' : Nat} (h : RP w v p) (hb : p ≠ [] → NBk v g) (z : ZC4 (.bool b0) (.slice q n c) (.bool b1) (.slice q' n' c') w g) (u0 u1 u2 u3 : Value) : RP ((((w.setCell ⟨g,0,none⟩ u0).setCell ⟨g,1,none⟩ u1).setCell ⟨g,2,none⟩ u2).setCell ⟨g,3,none⟩ u3) v p := by
 obtain ⟨a,b,off,cap,rfl,h2,h3,h4,h5⟩ := h;refine ⟨a,b,off,cap,rfl,h2,h3,h4,fun k hk => ?_⟩;obtain ⟨u,g1,g2,g3⟩ := h5 k hk;have hp0 : p ≠ [] := by intro e; rw [e] at hk; exact absurd hk (Nat.not_lt_zero _)
 obtain rfl := h4 hp0;have hn := hb hp0 ⟨b,off,none⟩ _ _ rfl;simp only at hn;have hn2 : ¬ g = b := fun e => hn e.symm;refine ⟨u,?_,?_,g3.set4 z _ _ _ _⟩
 ·simp [go_sem,g1,hn,hn2]
 ·simp [go_sem,g2,hn,hn2]
theorem RP.nb {w : World} {g : Nat} {v : Value} {p : List Int} (h : RP w v p) (hp : p ≠ []) (hg : w.heap.size ≤ g) : NBk v g := by
 obtain ⟨a,b,off,cap,rfl,h2,h3,h4,h5⟩ := h;obtain rfl := h4 hp;obtain ⟨u,g1,-,-⟩ := h5 0 (List.length_pos_iff.2 hp);have hbl := World.block_lt_of_cell? w _ g1;simp only at hbl;intro a n c e;injection e with e1 e2 e3;injection e1 with e1;subst e1;exact Nat.ne_of_lt (Nat.lt_of_lt_of_le hbl hg)
theorem Fresh.nb {B g : Nat} {v : Value} (h : Fresh B v) (hg : g < B) : NBk v g := by
 obtain ⟨q,n,c,rfl,h2⟩ := h;intro a n' c' e;injection e with e1 e2 e3;have := h2 a e1;omega
def CutV (vx : Value) (p : List Int) (x s y t : Value) (X Y : Int) (B : Nat) (wb wx : World) (g : Nat) : Prop := B ≤ g ∧ ZC4 x s y t wx g ∧ RP wx vx p ∧ Rz wx s X ∧ Rz wx t Y ∧ Below B wb wx
section
variable {vx x s y t : Value} {p : List Int} {X Y : Int} {B g : Nat} {wb w3 : World} {tt : TypeId} {b0 b1 : Bool} {q q' : Option Addr} {n c n' c' : Nat}
theorem CutV.k1 (hr : RP w3 vx p) (hs : Rz w3 s X) (ht : Rz w3 t Y) (b : Below B wb w3) (hB : B ≤ w3.heap.size) : CutV vx p x s y t X Y B wb (w3.alloc (.cells #[x,s,y,t] tt)) w3.heap.size :=
 have hb := k'5u w3 (.cells #[x,s,y,t] tt)
 ⟨hB,ZC4.made0 _,hr.below hb,hs.below hb,ht.below hb,b.alloc hB _⟩
theorem CutV.k2 (z : ZC4 (.bool b0) (.slice q n c) (.bool b1) (.slice q' n' c') w3 g) (hg : B ≤ g) (hr : RP w3 vx p) (hn : p ≠ [] → NBk vx g) (hs : Rz w3 s X) (ht : Rz w3 t Y) (b : Below B wb w3) :
 CutV vx p x s y t X Y B wb ((((w3.setCell ⟨g,0,none⟩ x).setCell ⟨g,1,none⟩ s).setCell ⟨g,2,none⟩ y).setCell ⟨g,3,none⟩ t) g :=
 ⟨hg,z.set,hr.set4 hn z _ _ _ _,hs.set4 z _ _ _ _,ht.set4 z _ _ _ _,k'65 b hg _ _ _ _⟩
end
def Ap (w : World) (g : Nat) (p : List Int) : Prop := ∃ us : List Value,us.length = p.length ∧ w.heap[g]? = some (.cells (rv p us).toArray 52 (0,0)) ∧ ∀ k (h : k < us.length) (h2 : k < p.length),Rz w us[k] p[k]
theorem Ap.lt {w : World} {g : Nat} {p : List Int} (h : Ap w g p) : g < w.heap.size := by obtain ⟨us,_,h,_⟩ := h; exact lt_of_block h
theorem Ap.cell {w : World} {g : Nat} {p : List Int} (h : Ap w g p) (k : Nat) (hk : k < p.length) : ∃ u,w.cell? ⟨g,k * 2,none⟩ = some (.bool (decide (p[k] < 0))) ∧ w.cell? ⟨g,k * 2 + 1,none⟩ = some u ∧ Rz w u p[k] := by
 obtain ⟨us,hl,h,hz⟩ := h;obtain ⟨h1,h2⟩ := k'f6 hl k hk;exact ⟨us[k],by rw [cell_of_row w g _ _ _ _ h,List.getElem?_toArray]; exact h1,by rw [cell_of_row w g _ _ _ _ h,List.getElem?_toArray]; exact h2,hz k (by omega) hk⟩
theorem Ap.free {w : World} {g : Nat} {p : List Int} (h : Ap w g p) (k : Nat) : w.frozen? ⟨g,k,none⟩ = false := by obtain ⟨us,_,h,_⟩ := h; exact frozen_of_row w g k _ _ h
theorem Ap.below {w w' : World} {g : Nat} {p : List Int} (h : Ap w g p) (hb : Below w.heap.size w w') : Ap w' g p := by
 obtain ⟨us,hl,h,hz⟩ := h;exact ⟨us,hl,(hb.block g (lt_of_block h)).trans h,fun k h1 h2 => (hz k h1 h2).below hb⟩
theorem Ap.row {w : World} {g B n : Nat} {p : List Int} (h : Ap w g p) (hB : B ≤ g) (hn : p.length = n) (hm : n ≤ maxLen) : RowP w B (.slice (some ⟨g,0,none⟩) n n) p := by
 obtain ⟨us,hl,h,hz⟩ := h;subst hn;refine ⟨us,hl,⟨k'f4 hl,Or.inr ⟨g,p.length,_,rfl,hB,h,Nat.le_refl _,hm,?_,?_⟩⟩,hz⟩
 ·simp [k'f4 hl]
 ·simp only [List.toList_toArray]
  rw [List.take_of_length_le (by rw [k'f4 hl]; exact Nat.le_refl _)]
theorem k'or {p : List Int} {us : List Value} (h : us.length = p.length) (k : Nat) (z : Int) (u : Value) : ((rv p us).set (k * 2) (.bool (decide (z < 0)))).set (k * 2 + 1) u = rv (p.set k z) (us.set k u) := by
 induction p generalizing us k with
 | nil => cases us with
  | nil => rfl
  | cons u us => simp at h
 | cons y p ih =>
  cases us with
  | nil => simp at h
  | cons x us =>
   cases k with
   | zero => rfl
   | succ k =>
    have h2 : us.length = p.length := by simpa using h
    rw [show (k + 1) * 2 = k * 2 + 1 + 1 by omega]
    simp only [rv,List.set_cons_succ];rw [ih h2]
theorem Rz.set {w : World} {v old u : Value} {z : Int} {p : Addr} (h : Rz w v z) (hp : w.cell? p = some old) (hno : ∀ n,old ≠ .int .i64 n) : Rz (w.setCell p u) v z := by
 obtain ⟨q,b,off,cap,h1,h2,h3,h4,h5,h6⟩ := h;refine ⟨q,b,off,cap,h1,h2,h3,h4,h5.imp id (fun g => ⟨g.1,g.2.set _ _⟩),fun k hk => ?_⟩;rw [World.cell?_setCell_other]
 ·exact h6 k hk
 ·intro e
  subst e;rw [h6 k hk] at hp;exact hno _ (Option.some.inj hp).symm
theorem Ap.set {w : World} {g : Nat} {p : List Int} {z : Int} {u : Value} (h : Ap w g p) (k : Nat) (hk : k < p.length) (hu : Rz w u z) : Ap ((w.setCell ⟨g,k * 2,none⟩ (.bool (decide (z < 0)))).setCell ⟨g,k * 2 + 1,none⟩ u) g (p.set k z) := by
 obtain ⟨u0,g0,g1,g2⟩ := h.cell k hk;obtain ⟨us,hl,h,hz⟩ := h;have h1 := heap_setCell_same w g (k * 2) _ _ (.bool (decide (z < 0))) h;have h2 := heap_setCell_same _ g (k * 2 + 1) _ _ u h1;have hs : ∀ {v' : Value} {z' : Int},Rz w v' z' → Rz ((w.setCell ⟨g,k * 2,none⟩ (.bool (decide (z < 0)))).setCell ⟨g,k * 2 + 1,none⟩ u) v' z' := fun h' =>
  (h'.set (u := .bool (decide (z < 0))) g0 (fun _ => by simp)).set (old := u0) ((World.cell?_setCell_other w ⟨g,k * 2,none⟩ ⟨g,k * 2 + 1,none⟩ (.bool (decide (z < 0))) (by simp)).trans g1) g2.noint
 refine ⟨us.set k u,by simp [hl],h2.trans ?_,fun j h3 h4 => ?_⟩
 ·rw [← k'or hl]
  simp
 ·by_cases e : j = k
  ·subst e
   have e1 : (us.set j u)[j]'h3 = u := by simp
   have e2 : (p.set j z)[j]'h4 = z := by simp
   rw [e1,e2];exact hs hu
  ·have e1 : (us.set k u)[j]'h3 = us[j]'(by simpa using h3) := by rw [List.getElem_set_ne (Ne.symm e)]
   have e2 : (p.set k z)[j]'h4 = p[j]'(by simpa using h4) := by rw [List.getElem_set_ne (Ne.symm e)]
   rw [e1,e2];exact hs (hz j _ _)
theorem Ap.stored {w : World} {g : Nat} {p : List Int} (h : Ap w g p) (k : Nat) (hk : k < p.length) {v : Value} {z : Int} (hv : Rz w v z) (x : Value) (u : Value) : Rz ((w.setCell ⟨g,k * 2,none⟩ x).setCell ⟨g,k * 2 + 1,none⟩ u) v z := by
 obtain ⟨u0,g0,g1,g2⟩ := h.cell k hk;exact (hv.set (u := x) g0 (fun _ => by simp)).set (old := u0) ((World.cell?_setCell_other w ⟨g,k * 2,none⟩ ⟨g,k * 2 + 1,none⟩ x (by simp)).trans g1) g2.noint
theorem Ap.made (w : World) (n : Nat) : Ap (w.alloc (.cells (rv (List.replicate n 0) (List.replicate n (.slice none 0 0))).toArray 52)) w.heap.size (List.replicate n 0) :=
 ⟨List.replicate n (.slice none 0 0),by simp,heap_alloc_new w _,fun k h1 h2 => by
  have e1 : (List.replicate n (Value.slice none 0 0))[k]'h1 = .slice none 0 0 := by simp
  have e2 : (List.replicate n (0 : Int))[k]'h2 = 0 := by simp
  rw [e1,e2];exact k'j4 _⟩
theorem Sz.prim {n : Nat} {p : List Int} (s : Sz n p) : Sz n (Pl.prim p) := fun k => by
 rw [Pl.cf_prim];exact Nat.lt_of_le_of_lt (Int.natAbs_ediv_le_natAbs _ _) (s k)
structure ESz (S : List Int → List Int → Prop) : Prop where
 fit : ∀ a b,S a b → ∃ x y,Sz x a ∧ Sz y b ∧ x ≤ 20000 ∧ y ≤ 20000 ∧ (b ≠ [] → (y + 1) * (a.length + 1 - b.length) + x ≤ 20000)
 step : ∀ a b,S a b → Pl.Nrm a → Pl.Nrm b → b ≠ [] → S b (Pl.prim (Pl.rest a b))
structure GInv (S : List Int → List Int → Prop) (G a b : List Int) : Prop where
 na : Pl.Nrm a
 nb : Pl.Nrm b
 la : a.length ≤ 100
 lb : b.length ≤ 100
 g : Pl.gcdP a b = G
 s : S a b
theorem GInv.step {S : List Int → List Int → Prop} (hS : ESz S) {G a b : List Int} (h : GInv S G a b) (hb : b ≠ []) : GInv S G b (Pl.prim (Pl.rest a b)) ∧ (Pl.prim (Pl.rest a b)).length < b.length := by
 have hr := Pl.rest_nrm a b;have hl := Pl.rest_length (p := a) (q := b) (List.length_pos_iff.2 hb);refine ⟨⟨h.nb,Pl.prim_nrm hr,h.lb,by rw [Pl.prim_length]; have := h.lb; omega,?_,hS.step a b h.s h.na h.nb hb⟩,by rw [Pl.prim_length]; exact hl⟩
 rw [Pl.gcdP_npr (p := b) (q := Pl.prim (Pl.rest a b)) (p' := b) (q' := Pl.rest a b) rfl (Pl.npr_prim hr),← Pl.gcdP_step h.na h.nb hb,h.g]
end Go.Proofs.YtepddegphdlbeaaGreat
