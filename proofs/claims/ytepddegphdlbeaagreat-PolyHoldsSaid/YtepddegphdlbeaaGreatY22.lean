/- What the theorem leans on, part Y22. -/
import Derived.Test.YtepddegphdlbeaaGreatY21
import Derived.Test.YtepddegphdlbeaaGreatY20
import Derived.Test.YtepddegphdlbeaaGreatY16
import Derived.Test.YtepddegphdlbeaaGreatY12
import Derived.Test.YtepddegphdlbeaaGreatY11
import Derived.Test.YtepddegphdlbeaaGreatY10
import Derived.Test.YtepddegphdlbeaaGreatY7
import Derived.Test.YtepddegphdlbeaaGreatY4
import Derived.Test.YtepddegphdlbeaaGreatY3
import Derived.Test.YtepddegphdlbeaaGreatY2
import Derived.Test.YtepddegphdlbeaaGreatY1
import Derived.Test.YtepddegphdlbeaaGreatY0
import Derived.Test.YtepddegphdlbeaaGreatProg
import Derived.WalkKit
import Derived.WalkSpells
import Derived.WalkLawsBesides
import Derived.Lib.Hide
import Derived.Deep.QuietTactic
import Derived.BigQuiet
import Derived.Shelf.Small.Bits
import Derived.Shelf.Small.Wraps
import Derived.Shelf.Strconv.Itoa0
import Derived.Shelf.Bits.Mul64
import Derived.Ground.Names2Prog
import Derived.Shelf.Slices.SearchI
import Derived.Shelf.Spec.BitsCarry
import Derived.Deep.LoopGhost
import Derived.Deep.RegionHeld3
import Derived.Deep.DeepCutAuto
import Derived.Test.YtepddegphdlbeaaGreatY6
import Derived.Test.YtepddegphdlbeaaGreatY5
import Derived.Laws.AppendOwnNone
import Derived.Test.YtepddegphdlbeaaGreatY8
import Derived.Test.YtepddegphdlbeaaGreatY9
import Derived.Below
import Derived.Test.YtepddegphdlbeaaGreatY15
import Derived.Test.YtepddegphdlbeaaGreatY13
import Derived.RangeFuncNested
import Derived.RangeFuncBound
import Derived.RangeFuncCalls
import Derived.RangeFuncLeaves
import Derived.Shelf.Abstract
import Derived.Shelf.RegionOpen
import Derived.OwnWalkIn
import Derived.TacticsInMore
import Derived.LoopNIn
import Derived.LoopIn
import Derived.OrdersIn
import Derived.Deep.RegionHeld
import Derived.Maps.AppendAt
import Derived.Lib.SliceRun
import Derived.IntWalk
import Derived.Test.YtepddegphdlbeaaGreatY14
import Derived.Test.YtepddegphdlbeaaGreatY18
import Derived.Test.YtepddegphdlbeaaGreatY17
import Derived.Laws.StructEq
import Derived.Test.YtepddegphdlbeaaGreatY19
import Derived.ProofKit
import Derived.OpenShut
import Derived.ShutString
import Derived.ChangeOld
import Derived.Lib.SmallJoins
import Derived.Deep.SlicePairs
set_option maxRecDepth 100000
set_option maxHeartbeats 16000000
set_option linter.all false
namespace Go.Proofs.YtepddegphdlbeaaGreat
open Go.RowKit
def PhF (L1 L2 : List (Bool × ByteArray)) (v1 v2 : Value) (b1 b2 : Bool) (s1 s2 : ByteArray) (w : World) : Prop :=
 ∃ (S M G T D : List Int) (X1 Y1 X2 Y2 X3 Y3 X4 Y4 XA YA XM YM : Int) (xa xb ya yb ua ub va vb ma : Bool) (xs xt ys yt us ut vs vt ms : ByteArray),
 (∀ w',Below w.heap.size w w' → Calls Tryz.prog 25 #[v1,v2] w' (ResP S w')) ∧
 (∀ w',Below w.heap.size w w' → Calls Tryz.prog 25 #[v2,v1] w' (ResP S w')) ∧
 (∀ w',Below w.heap.size w w' → Calls Tryz.prog 27 #[v1,v2] w' (ResP M w')) ∧
 (∀ w',Below w.heap.size w w' → Calls Tryz.prog 27 #[v2,v1] w' (ResP M w')) ∧
 (∀ w' v u,Rp w' v S → Rp w' u S → Calls Tryz.prog 18 #[v,u] w' (BPost true w')) ∧
 (∀ w' v u,Rp w' v M → Rp w' u M → Calls Tryz.prog 18 #[v,u] w' (BPost true w')) ∧
 (∀ w',Below w.heap.size w w' → Calls Tryz.prog 43 #[v1,.agg #[.bool b1,.string s1,.bool b2,.string s2]] w' (Ret (.tuple #[.agg #[.bool xa,.string xs,.bool xb,.string xt],.int .i64 0]) w')) ∧
 (∀ w',Below w.heap.size w w' → Calls Tryz.prog 43 #[v2,.agg #[.bool b1,.string s1,.bool b2,.string s2]] w' (Ret (.tuple #[.agg #[.bool ya,.string ys,.bool yb,.string yt],.int .i64 0]) w')) ∧
 (∀ w' v,Rp w' v S → Calls Tryz.prog 43 #[v,.agg #[.bool b1,.string s1,.bool b2,.string s2]] w' (Ret (.tuple #[.agg #[.bool ua,.string us,.bool ub,.string ut],.int .i64 0]) w')) ∧
 (∀ w' v,Rp w' v M → Calls Tryz.prog 43 #[v,.agg #[.bool b1,.string s1,.bool b2,.string s2]] w' (Ret (.tuple #[.agg #[.bool va,.string vs,.bool vb,.string vt],.int .i64 0]) w')) ∧
 (∀ w',Calls Tryz.prog 45 #[.agg #[.bool xa,.string xs,.bool xb,.string xt]] w' (BPost true w')) ∧
 (∀ w',Calls Tryz.prog 45 #[.agg #[.bool ya,.string ys,.bool yb,.string yt]] w' (BPost true w')) ∧
 (∀ w',Calls Tryz.prog 45 #[.agg #[.bool ua,.string us,.bool ub,.string ut]] w' (BPost true w')) ∧
 (∀ w',Calls Tryz.prog 45 #[.agg #[.bool va,.string vs,.bool vb,.string vt]] w' (BPost true w')) ∧
 (∀ w',Calls Tryz.prog 46 #[.agg #[.bool xa,.string xs,.bool xb,.string xt]] w' (RQPost X1 Y1 w')) ∧
 (∀ w',Calls Tryz.prog 46 #[.agg #[.bool ya,.string ys,.bool yb,.string yt]] w' (RQPost X2 Y2 w')) ∧
 (∀ w',Calls Tryz.prog 46 #[.agg #[.bool ua,.string us,.bool ub,.string ut]] w' (RQPost X3 Y3 w')) ∧
 (∀ w',Calls Tryz.prog 46 #[.agg #[.bool va,.string vs,.bool vb,.string vt]] w' (RQPost X4 Y4 w')) ∧
 (∀ w' v1 v2 v3 v4,Rz w' v1 X1 → Rz w' v2 Y1 → Rz w' v3 X2 → Rz w' v4 Y2 → Calls Tryz.prog 61 #[qV X1 Y1 v1 v2,qV X2 Y2 v3 v4] w' (RQPost XA YA w')) ∧
 (∀ w' v1 v2 v3 v4,Rz w' v1 XA → Rz w' v2 YA → Rz w' v3 X3 → Rz w' v4 Y3 → Calls Tryz.prog 60 #[qV XA YA v1 v2,qV X3 Y3 v3 v4] w' (SignPost 0 w')) ∧
 (∀ w' v1 v2 v3 v4,Rz w' v1 X1 → Rz w' v2 Y1 → Rz w' v3 X2 → Rz w' v4 Y2 → Calls Tryz.prog 62 #[qV X1 Y1 v1 v2,qV X2 Y2 v3 v4] w' (RQPost XM YM w')) ∧
 (∀ w' v1 v2 v3 v4,Rz w' v1 XM → Rz w' v2 YM → Rz w' v3 X4 → Rz w' v4 Y4 → Calls Tryz.prog 60 #[qV XM YM v1 v2,qV X4 Y4 v3 v4] w' (SignPost 0 w')) ∧
 (∀ w',Below w.heap.size w w' → Calls Tryz.prog 55 #[v1,v2] w' (ResP G w')) ∧
 (∀ w',Calls Tryz.prog 63 #[.int .i64 (-2)] w' (Ret (.agg #[.bool ma,.string ms]) w')) ∧
 (∀ w',Below w.heap.size w w' → Calls Tryz.prog 31 #[v1,.agg #[.bool ma,.string ms]] w' (ResP T w')) ∧
 (∀ w' v,Below w.heap.size w w' → Rp w' v T → Calls Tryz.prog 55 #[v,v2] w' (ResP G w')) ∧
 (∀ w' v u,Rp w' v G → Rp w' u G → Calls Tryz.prog 18 #[v,u] w' (BPost true w')) ∧
 (((L1.length = 0 ∧ L2.length = 0 ∧ G = [])) ∨ ((L2.length = 0 ∧ 0 < G.length ∧ (∀ w' v,Below w.heap.size w w' → Rp w' v G → Calls Tryz.prog 53 #[v1,v] w' (ResP [] w')) ∧ (∀ w' v,Below w.heap.size w w' → Rp w' v G → Calls Tryz.prog 53 #[v2,v] w' (ResP [] w')))) ∨ ((0 < L2.length ∧ 0 < G.length ∧ (∀ w' v,Below w.heap.size w w' → Rp w' v M → Calls Tryz.prog 54 #[v,v2] w' (ResP D w')) ∧ (∀ w' v,Rp w' v D → Below w.heap.size w w' → Calls Tryz.prog 18 #[v,v1] w' (BPost true w')) ∧ (∀ w' v,Below w.heap.size w w' → Rp w' v G → Calls Tryz.prog 53 #[v1,v] w' (ResP [] w')) ∧ (∀ w' v,Below w.heap.size w w' → Rp w' v G → Calls Tryz.prog 53 #[v2,v] w' (ResP [] w')))))
theorem k'pw (L1 L2 : List (Bool × ByteArray)) (v1 v2 : Value) (b1 b2 : Bool) (s1 s2 : ByteArray) (w : World) (h1 : Rw w v1 L1) (h2 : Rw w v2 L2) (z1 : s1.size ≤ 9223372036854775807) (z2 : s2.size ≤ 9223372036854775807) (c1 : L1.length ≤ 8) (c2 : L2.length ≤ 8) (c5 : s1.size ≤ 8) (c6 : s2.size ≤ 8) (y1 : Lim L1) (y2 : Lim L2)
 (HS : ∀ w',Below w.heap.size w w' → Calls Tryz.prog 11 #[.slice (some ⟨w'.heap.size,0,none⟩) 2 2] (w'.alloc (.cells #[v1,v2] 23)) (BPost true w'))
 (HV : ∀ w',Below w.heap.size w w' → Calls Tryz.prog 19 #[.slice (some ⟨w'.heap.size,0,none⟩) 2 2] (w'.alloc (.cells #[v1,v2] 23)) (BPost true w'))
 (HW : ∀ w',Calls Tryz.prog 45 #[.agg #[.bool b1,.string s1,.bool b2,.string s2]] w' (BPost true w'))
 (HH : sml L1 → sml L2 → PhF L1 L2 v1 v2 b1 b2 s1 s2 w) :
 Calls Tryz.prog 10 #[v1,v2,.agg #[.bool b1,.string s1,.bool b2,.string s2]] w (Ret (.bool true) w) := by
 obtain ⟨w0,hw0⟩ : ∃ w0 : World,w0 = w.alloc (.cells #[.bool b1,.string s1,.bool b2,.string s2] 59) := ⟨_,rfl⟩;have I1 : Hid (ZC4 (.bool b1) (.string s1) (.bool b2) (.string s2) w0 w.heap.size) := by rw [hw0]; exact ZC4.made0 w
 have E : Hid (Below w.heap.size w w0) := by rw [hw0]; exact k'5u _ _
 have HK := i' k'nq;have HS := i' HS;have HV := i' HV;have HW := i' HW;have l1 := h1.len;have l2 := h2.len;have HH := i' HH;have HRl : Hid (∀ x,Below w.heap.size w x → ∀ k (hk : k < [L1,L2].length),∃ u,(x.alloc (.cells #[v1,v2] 23)).cell? ⟨x.heap.size,0 + k,none⟩ = some u ∧ Rw (x.alloc (.cells #[v1,v2] 23)) u [L1,L2][k]) := by
  intro x hb k hk
  match k,hk with
  | 0,_ => exact ⟨v1,by simp [go_sem],(h1.below hb).below (k'5u _ _)⟩
  | 1,_ => exact ⟨v2,by simp [go_sem],(h2.below hb).below (k'5u _ _)⟩
 have HZ : Hid (∀ k (hk : k < [L1,L2].length),Lim [L1,L2][k]) := by
  intro k hk
  match k,hk with
  | 0,_ => exact y1
  | 1,_ => exact y2
 have HSA : Hid ((∀ k (hk : k < [L1,L2].length),k < 2 → sml [L1,L2][k]) → sml L1 ∧ sml L2) := fun h => ⟨h 0 (by simp) (by omega),h 1 (by simp) (by omega)⟩
 obtain ⟨Ls,hLs⟩ : ∃ Ls,Ls = [L1,L2] := ⟨_,rfl⟩;rw [← hLs] at HRl HZ HSA;have HLL : Hid (Ls.length = 2) := by show _ = _; rw [hLs]; rfl
 have HP : Hid (∀ w' v T,Rp w' v T → ∃ a c,v = .slice a T.length c) := fun w' v T h => by obtain ⟨a,b,o,c,h,-⟩ := h.open_; exact ⟨a,c,h⟩
 clear hLs y1 y2;obtain ⟨p1,a1,o1,c1x,rfl,-,-,-,-⟩ := h1;obtain ⟨p2,a2,o2,c2x,rfl,-,-,-,-⟩ := h2;have q1 : ¬ (8 : Int) < (L1.length : Int) := by omega
 have q2 : ¬ (8 : Int) < (L2.length : Int) := by omega
 have q5 : ¬ (8 : Int) < (s1.size : Int) := by omega
 have q6 : ¬ (8 : Int) < (s2.size : Int) := by omega
 clear c1 c2 c5 c6;clear z1 z2;obtain ⟨n1,hn1⟩ : ∃ n,n = L1.length := ⟨_,rfl⟩;obtain ⟨n2,hn2⟩ : ∃ n,n = L2.length := ⟨_,rfl⟩;rw [← hn1] at q1 l1 HS HV HRl ⊢;rw [← hn2] at q2 l2 HS HV HRl ⊢;have HN1 := i' hn1;have HN2 := i' hn2;rw [← hn1,← hn2] at HH;clear hn1 hn2;unfold BPost at HS HV HW;unfold Ret at *;go_enter Tryz.func10,Tryz.ntmps10;go_upto_region 1 with (fail);rw [← hw0];clear hw0;go_wp2_with fail;refine (HS.out _ E.out).mono ?_;rintro e x1 ⟨rfl,d1⟩;have I1 := i' (I1.out.next d1);have E := i' (k'4h E.out d1);clear d1;obtain ⟨⟨k0,k1,k2,k3⟩,_⟩ := I1.out;go_wp2_with fail;clear k0 k1 k2 k3;refine (HV.out _ E.out).mono ?_;rintro e x2 ⟨rfl,d2⟩;have I1 := i' (I1.out.next d2);have E := i' (k'4h E.out d2);clear d2;obtain ⟨⟨k0,k1,k2,k3⟩,_⟩ := I1.out;go_wp2_with fail;clear k0 k1 k2 k3;refine (HW.out _).mono ?_;rintro e x3 ⟨rfl,d3⟩;obtain ⟨u,hu⟩ : ∃ u : World,u = x3.alloc (.cells #[.slice p1 n1 c1x,.slice p2 n2 c2x] 23) := ⟨_,rfl⟩;have E := i' (k'4h E.out d3);have H5 := i' (HRl.out _ E.out);rw [← hu] at H5;have E : Hid (Below w.heap.size w u) := by rw [hu]; exact k'4h E.out (k'5u _ _)
 have J1 := i' (I1.out.next d3);have I1 : Hid (ZC4 (.bool b1) (.string s1) (.bool b2) (.string s2) u w.heap.size) := by rw [hu]; exact (I1.out.next d3).next (k'5u _ _)
 have Hu := i' hu;clear hu HRl;obtain ⟨⟨k0,k1,k2,k3⟩,_⟩ := J1.out;clear d3 J1;go_upto_region 4 with (fail);rw [← Hu.out];clear Hu k0 k1 k2 k3;go_loopw [8,78] (fun _ iv wr => ∃ (wz : World) (k : Nat),wz = wr ∧ k ≤ 2 ∧ iv = .int .i64 (k : Int) ∧ Hid (∀ j (hj : j < Ls.length),j < k → sml Ls[j]) ∧ Hid (Below w.heap.size w wz) ∧ Hid (Below u.heap.size u wz))
  (fun _ iv _ => 2 - (intOf iv).toNat)
 case atStart => exact ⟨u,0,rfl,by omega,rfl,fun j _ hj => absurd hj (Nat.not_lt_zero _),E.out,Below.refl _ _⟩
 case round =>
  obtain ⟨wz,k,rfl,hk,rfl,hall,hbl,hbu⟩ := hrel;have hk0 : (0 : Int) ≤ (k : Int) := by omega
  by_cases hlt : k < 2
  ·have hkl : k < Ls.length := by have h5 := HLL.out; omega
   have hkk : (k : Int) < 2 := by omega
   obtain ⟨uu,g0,g1⟩ := H5.out k hkl;have c0 := k'4i hbu.out g0;have c0' : wz.cell? ⟨x3.heap.size,k,none⟩ = some uu := by have := c0; rwa [Nat.zero_add] at this
   have HZk := i' (HZ.out k hkl);obtain ⟨L,hL⟩ : ∃ L,L = Ls[k] := ⟨_,rfl⟩;have hR : Hid (sml L → ∀ j (hj : j < Ls.length),j < k + 1 → sml Ls[j]) := by
    intro hs j hj hjk;rcases Nat.lt_or_ge j k with g | g
    ·exact hall.out j hj g
    ·obtain rfl : j = k := by omega
     rw [← hL]; exact hs
   rw [← hL] at g1 HZk;have hlen := g1.len;obtain ⟨pu,bu,ou,cu,rfl,-,-,g4,g5⟩ := g1;have G4 := i' g4;have G5 := i' g5;obtain ⟨ll,hll⟩ : ∃ ll,ll = L.length := ⟨_,rfl⟩;have HLk := i' hll;rw [← hll] at hlen c0 c0';have HB1 := i' (k'4h (Below.refl u.heap.size u) hbu.out);clear hall g0 hL g4 g5 hkl hll;go_wp2;go_loopw [10,84] (fun _ iv wq => ∃ (wy : World) (i : Nat),wy = wq ∧ i ≤ ll ∧ iv = .int .i64 (i : Int) ∧ Hid (∀ j (hj : j < L.length),j < i → L[j].2.size ≤ 8) ∧ Hid (Below w.heap.size w wy) ∧ Hid (Below u.heap.size u wy))
    (fun _ iv _ => ll - (intOf iv).toNat)
   case atStart => exact ⟨wz,0,rfl,Nat.zero_le _,rfl,fun j _ hj => absurd hj (Nat.not_lt_zero _),hbl.out,hbu.out⟩
   case round =>
    clear hbl c0 c0' HB1;obtain ⟨wy,i,rfl,hi,rfl,hsm,hbw,hbv⟩ := hrel;have hi0 : (0 : Int) ≤ (i : Int) := by omega
    by_cases hil : i < ll
    ·have hiL : i < L.length := by have h5 : ll = L.length := HLk.out; omega
     have hii : (i : Int) < (ll : Int) := by omega
     obtain rfl := G4.out (by intro e; rw [e] at hiL; exact absurd hiL (Nat.not_lt_zero _))
     have d0 := k'4i hbv.out (G5.out i hiL).1;have d1 := k'4i hbv.out (G5.out i hiL).2;have hsz := HZk.out _ (List.getElem_mem hiL);have HSn : Hid (L[i].2.size ≤ 8 → ∀ j (hj : j < L.length),j < i + 1 → L[j].2.size ≤ 8) := by
      intro hs j hj hjk;rcases Nat.lt_or_ge j i with g | g
      ·exact hsm.out j hj g
      ·obtain rfl : j = i := by omega
       exact hs
     generalize L[i].1 = bb at *;generalize L[i].2 = ss at *;have HB2 := i' (hbw.out.alloc hbw.out.size (.cells #[.bool bb,.string ss] 44));have HB3 := i' (hbv.out.alloc hbv.out.size (.cells #[.bool bb,.string ss] 44));clear hsm hiL;by_cases h16 : ss.size ≤ 8
     ·have HSn := i' (HSn.out h16)
      have h16i : (ss.size : Int) ≤ 8 := by omega
      clear h16;go_wp2;go_roundw
      case rel => exact ⟨_,i + 1,rfl,by omega,by go_num,HSn.out,HB2.out,HB3.out⟩
      case measure => simp [intOf]; omega
     ·have h16i : (8 : Int) < (ss.size : Int) := by omega
      clear h16 HSn;go_wp2_with fail;refine (HK.out _).mono ?_;rintro e x4 ⟨rfl,d4⟩;have E := i' (k'4h HB2.out d4);clear d4;go_wp2;go_ret;exact ⟨rfl,E.out⟩
    ·obtain rfl : i = ll := by omega
     have HR := i' (hR.out (fun j hj => hsm.out j hj (by have h5 : i = L.length := HLk.out; omega)))
     clear hsm;go_wp2;go_roundw
     case rel => exact ⟨_,k + 1,rfl,by omega,by go_num,HR.out,hbw.out,hbv.out⟩
     case measure => simp [intOf]; omega
  ·obtain rfl : k = 2 := by omega
   obtain ⟨sm1,sm2⟩ := HSA.out (fun j hj h => hall.out j hj h);obtain ⟨S,M,G,T,D,X1,Y1,X2,Y2,X3,Y3,X4,Y4,XA,YA,XM,YM,xa,xb,ya,yb,ua,ub,va,vb,ma,xs,xt,ys,yt,us,ut,vs,vt,ms,HA1,HA2,HM1,HM2,HSS,HSM,HV1,HV2,HV3,HV4,HR1,HR2,HR3,HR4,HF1,HF2,HF3,HF4,HAQ,HCA,HMQ,HCM,HG1,Hw,HSc,HG2,HSG,HK3⟩ := HH.out sm1 sm2;have E := i' hbl.out;have I1 := i' (I1.out.next hbu.out);clear hall hbl hbu H5 sm1 sm2 HSA HZ HLL HH;rw [← HN1.out,← HN2.out] at HK3;have HA1 := i' HA1;have HA2 := i' HA2;have HM1 := i' HM1;have HM2 := i' HM2;have HSS := i' HSS;have HSM := i' HSM;have HV1 := i' HV1;have HV2 := i' HV2;have HV3 := i' HV3;have HV4 := i' HV4;have HR1 := i' HR1;have HR2 := i' HR2;have HR3 := i' HR3;have HR4 := i' HR4;have HF1 := i' HF1;have HF2 := i' HF2;have HF3 := i' HF3;have HF4 := i' HF4;have HAQ := i' HAQ;have HCA := i' HCA;have HMQ := i' HMQ;have HCM := i' HCM;have HG1 := i' HG1;have Hw := i' Hw;have HSc := i' HSc;have HG2 := i' HG2;have HSG := i' HSG;have HK3 := i' HK3;unfold BPost at HSS HSM;unfold ResP at HA1 HA2 HM1 HM2;go_wp2_with fail;refine (HA1.out _ E.out).mono ?_;rintro e x11 ⟨y11,rfl,r11,d11⟩;have I1 := i' (I1.out.next d11);have E := i' (k'4h E.out d11);have RS := i' r11;clear r11;clear d11;go_wp2_with fail;refine (HA2.out _ E.out).mono ?_;rintro e x12 ⟨y12,rfl,r12,d12⟩;have RS := i' (RS.out.below d12);have I1 := i' (I1.out.next d12);have E := i' (k'4h E.out d12);have RS2 := i' r12;clear r12;clear d12;go_wp2_with fail;refine (HM1.out _ E.out).mono ?_;rintro e x13 ⟨y13,rfl,r13,d13⟩;have RS := i' (RS.out.below d13);have RS2 := i' (RS2.out.below d13);have I1 := i' (I1.out.next d13);have E := i' (k'4h E.out d13);have RM := i' r13;clear r13;clear d13;go_wp2_with fail;refine (HM2.out _ E.out).mono ?_;rintro e x14 ⟨y14,rfl,r14,d14⟩;have RS := i' (RS.out.below d14);have RS2 := i' (RS2.out.below d14);have RM := i' (RM.out.below d14);have I1 := i' (I1.out.next d14);have E := i' (k'4h E.out d14);have RM2 := i' r14;clear r14;clear d14;go_wp2_with fail;refine (HSS.out _ _ _ RS.out RS2.out).mono ?_;rintro e x15 ⟨rfl,d15⟩;have RS := i' (RS.out.below d15);have RS2 := i' (RS2.out.below d15);have RM := i' (RM.out.below d15);have RM2 := i' (RM2.out.below d15);have I1 := i' (I1.out.next d15);have E := i' (k'4h E.out d15);clear d15;clear RS2;go_wp2_with fail;refine (HSM.out _ _ _ RM.out RM2.out).mono ?_;rintro e x16 ⟨rfl,d16⟩;have RS := i' (RS.out.below d16);have RM := i' (RM.out.below d16);have RM2 := i' (RM2.out.below d16);have I1 := i' (I1.out.next d16);have E := i' (k'4h E.out d16);clear d16;clear RM2;go_upto_region 19 with (fail)
   exact k'pv (hK := by assumption) (l1 := l1) (l2 := l2) (I1 := I1.out) (E := E.out) (RS := RS.out) (RM := RM.out) (HV1 := HV1.out) (HV2 := HV2.out) (HV3 := HV3.out) (HV4 := HV4.out) (HR1 := HR1.out) (HR2 := HR2.out) (HR3 := HR3.out) (HR4 := HR4.out) (HF1 := HF1.out) (HF2 := HF2.out) (HF3 := HF3.out) (HF4 := HF4.out) (HAQ := HAQ.out) (HCA := HCA.out) (HMQ := HMQ.out) (HCM := HCM.out) (HG1 := HG1.out) (Hw := Hw.out) (HSc := HSc.out) (HG2 := HG2.out) (HSG := HSG.out) (HK3 := HK3.out)
theorem mul_nil (p : List Int) : Pl.trim (Pl.mul p []) = [] := by
 have key : ∀ (p : List Int) k,Pl.cf (Pl.mul p []) k = 0 := by
  intro p
  induction p with
  | nil => intro k; exact Pl.cf_nil k
  | cons a p ih =>
   intro k;rw [Pl.mul,Pl.cf_add,Pl.cf_scl,Pl.cf_nil]
   cases k with
   | zero => rw [Pl.cf_cons_zero]; omega
   | succ k => rw [Pl.cf_cons_succ,ih]; omega
 exact Pl.nrm_ext (Pl.nrm_trim _) Pl.nrm_nil fun k => by rw [Pl.cf_trim,key,Pl.cf_nil]
theorem k'qs {n : Nat} {p q : List Int} (h1 : Sz n p) (h2 : Sz n q) : Sz (n + 1) (Pl.add p q) := by
 have := h1.add h2;rwa [Nat.max_self] at this
theorem k'qu {z : Int} {n : Nat} (h : z.natAbs < D9 ^ n) (hn : n ≤ 2000) : z.natAbs < Top := (k'k8 h rfl).top (by omega)
theorem k'qv {p q : List Int} {v1 v2 : Value} {w : World} (h1 : Rp w v1 p) (h2 : Rp w v2 q) (hp : VP p) (hq : VP q) {n : Nat} (hn : n ≤ 1000) (s1 : Sz n p) (s2 : Sz n q) : Calls Tryz.prog 25 #[v1,v2] w (ResP (Pl.trim (Pl.add p q)) w) := by
 refine (k'i8 p q v1 v2 w h1 h2 hp hq).mono ?_;rintro e w' (⟨-,h⟩ | ⟨⟨k,hk⟩,-⟩)
 ·rwa [k'kc] at h
 ·refine absurd ?_ hk
  rw [← Pl.cf_add];exact k'qu (k'qs s1 s2 k) (by omega)
theorem k'r1 (p : List Int) (a : Int) (k : Nat) : Pl.cf (Pl.mul p [a]) k = a * Pl.cf p k := by
 induction p generalizing k with
 | nil => rw [Pl.mul,Pl.cf_nil,Int.mul_zero]
 | cons x p ih =>
  rw [Pl.mul,Pl.cf_add,Pl.cf_scl]
  cases k with
  | zero => rw [Pl.cf_cons_zero,Pl.cf_cons_zero,Pl.cf_cons_zero,Int.add_zero,Int.mul_comm]
  | succ k => rw [Pl.cf_cons_succ,Pl.cf_cons_succ,Pl.cf_cons_succ,Pl.cf_nil,ih,Int.mul_zero,Int.zero_add]
theorem k'r2 (p : List Int) (a : Int) : Pl.trim (Pl.mul p [a]) = Pl.trim (Pl.scl a p) :=
 Pl.nrm_ext (Pl.nrm_trim _) (Pl.nrm_trim _) fun k => by rw [Pl.cf_trim,Pl.cf_trim,k'r1,Pl.cf_scl]
theorem k'rb {b : Bool} {s : ByteArray} (hv : vld b s = true) (hl : s.size ≤ 16) {M : Nat} (hM : M = 16) : (sg b (bv s)).natAbs < D9 ^ M := by
 subst hM;have h1 := bvk (k := 16) rfl hl;have h2 : (sg b (bv s)).natAbs = bv s := by unfold sg; split <;> omega
 rw [h2];exact Nat.lt_of_lt_of_le h1 (Nat.pow_le_pow_left (by decide) 16)
theorem k'rg {p : List Int} (h : sml (zl p)) : Pl.mx p < 2 ^ 64 := by
 have h1 : Pl.mx p ≤ 2 ^ 64 - 1 := by
  refine Pl.mx_le fun k hk => ?_;have h2 := h k (by rw [k'e0]; exact hk)
  have e : (zl p)[k]'(by rw [k'e0]; exact hk) = (zb p[k],zs p[k]) := by simp [zl]
  rw [e] at h2;have h3 := bvk (k := 8) rfl h2;rw [k'6k] at h3;rw [Pl.cf_lt hk];have : (256 : Nat) ^ 8 = 2 ^ 64 := by decide
  omega
 have : 0 < 2 ^ 64 := by decide
 omega
theorem k'rh {p : List Int} (hp : VP p) (g : shP (zl p) = true) : glb (zl p) ≤ 200 := k'ki g hp
theorem k'rj {p q : List Int} (hp : VP p) (hq : VP q) (g1 : shP (zl p) = true) (g2 : shP (zl q) = true) (l1 : p.length ≤ 14) (l2 : q.length ≤ 14) : ckg (zl p) (zl q) = 0 := by
 have b1 := k'rh hp g1;have b2 := k'rh hq g2;have c1 := k'h9 (zl p);have c2 := k'h9 (zl q);unfold ckg;rw [hp.ok,hq.ok,show (true && true) = true from rfl,if_pos rfl,k'e0,k'e0,if_neg];intro ⟨h0,h1,h2⟩;obtain ⟨a,ha⟩ : ∃ a,a = max ((p.length : Int) - 1) ((q.length : Int) - 1) + 3 := ⟨_,rfl⟩;obtain ⟨b,hb⟩ : ∃ b,b = max (glb (zl p)) (glb (zl q)) + 8 := ⟨_,rfl⟩;rw [← ha,← hb] at h2;have ha1 : 0 ≤ a ∧ a ≤ 16 := by omega
 have hb1 : 0 ≤ b ∧ b ≤ 208 := by omega
 have h3 : a * a ≤ 16 * 16 := Int.mul_le_mul ha1.2 ha1.2 ha1.1 (by decide)
 have h4 : a * a * b ≤ 16 * 16 * 208 := Int.mul_le_mul h3 hb1.2 hb1.1 (by decide)
 omega
theorem k'rn {p q : List Int} (l1 : p.length ≤ 9) (l2 : q.length ≤ 9) (h1 : Pl.mx p < 2 ^ 64) (h2 : Pl.mx q < 2 ^ 64) : SE p q := by
 have key : ∀ n,64 ≤ b0 n := fun n => by unfold b0; split <;> omega
 exact ⟨l1,l2,Or.inl ⟨k'pe h1 (key _),k'pe h2 (key _)⟩⟩
theorem k'ro {p q : List Int} (hp : Pl.Nrm p) (hq : Pl.Nrm q) (l1 : p.length ≤ 9) (l2 : q.length ≤ 9) (h1 : Pl.mx p < 2 ^ 64) (h2 : Pl.mx q < 2 ^ 64) : SEk (Pl.prim p) (Pl.prim q) :=
 ⟨k'rn (by rw [Pl.prim_length]; exact l1) (by rw [Pl.prim_length]; exact l2) (Nat.lt_of_le_of_lt (Pl.mx_prim p) h1) (Nat.lt_of_le_of_lt (Pl.mx_prim q) h2),Pl.prim_prim hp,Pl.prim_prim hq,Pl.prim_nrm hp,Pl.prim_nrm hq⟩
theorem k'rp {p q : List Int} {v1 v2 : Value} {w : World} (h1 : Rp w v1 p) (h2 : Rp w v2 q) (hp : VP p) (hq : VP q) (hc : ckg (zl p) (zl q) = 0) (l1 : p.length ≤ 9) (l2 : q.length ≤ 9) (m1 : Pl.mx p < 2 ^ 64) (m2 : Pl.mx q < 2 ^ 64) :
 Calls Tryz.prog 55 #[v1,v2] w (ResP (Pl.gcdP p q) w) :=
 k'm4 p q v1 v2 w h1 h2 hp hq hc SEk k'ph (fun _ => k'ro hp.nrm hq.nrm l1 l2 m1 m2) (fun _ => k'ro hq.nrm hp.nrm l2 l1 m2 m1)
def S8 (p q : List Int) : Prop := p.length ≤ 8 ∧ q.length ≤ 8 ∧ ((Pl.mx p < 2 ^ 64 ∧ Pl.mx q < 2 ^ 64) ∨ (q.length < p.length ∧ Pl.mx p < 2 ^ Nt (p.length + 2) ∧ Pl.mx q < 2 ^ Nt (p.length + 1)))
theorem k'rx : ∀ i : Fin 9,∀ j : Fin 9,1 ≤ j.val → j.val ≤ i.val → 64 ≤ Nt (j.val + 2) ∧ 64 + (i.val + 1 - j.val) * (64 + 1) ≤ Nt (j.val + 1) := by decide
theorem k'ry : ∀ i : Fin 9,∀ j : Fin 9,1 ≤ j.val → j.val < i.val → Nt (i.val + 1) ≤ Nt (j.val + 2) ∧ Nt (i.val + 2) + (i.val + 1 - j.val) * (Nt (i.val + 1) + 1) ≤ Nt (j.val + 1) := by decide
theorem S8.step {p q : List Int} (h : S8 p q) (h1 : 1 ≤ q.length) (h2 : q.length ≤ p.length) : S8 q (Pl.prim (Pl.rest p q)) := by
 obtain ⟨l1,l2,h⟩ := h;have hl := Pl.rest_length (p := p) (q := q) (by omega)
 refine ⟨l2,by rw [Pl.prim_length]; omega,Or.inr ⟨by rw [Pl.prim_length]; exact hl,?_⟩⟩
 rcases h with ⟨a1,a2⟩ | ⟨a0,a1,a2⟩
 ·have := k'rx ⟨p.length,by omega⟩ ⟨q.length,by omega⟩ h1 h2
  exact ⟨k'pe a2 this.1,k'pd a1 a2 this.2⟩
 ·have := k'ry ⟨p.length,by omega⟩ ⟨q.length,by omega⟩ h1 a0
  exact ⟨k'pe a2 this.1,k'pd a1 a2 this.2⟩
theorem k'rz : Pl.Euk S8 := by
 refine ⟨fun p q h => ?_,fun p q h => ?_,fun p q h h1 h2 => ?_,fun p q h h1 h2 => h.step (by omega) h2⟩
 ·obtain ⟨l1,l2,h⟩ := h
  rcases h with ⟨a1,a2⟩ | ⟨a0,a1,a2⟩
  ·exact k'pf a1 (by omega)
  ·exact k'pf a1 (k'p9 ⟨p.length + 2,by omega⟩ (by simp))
 ·obtain ⟨l1,l2,h⟩ := h
  rcases h with ⟨a1,a2⟩ | ⟨a0,a1,a2⟩
  ·exact k'pf a2 (by omega)
  ·exact k'pf a2 (k'p9 ⟨p.length + 1,by omega⟩ (by simp; omega))
 ·obtain ⟨l1,l2,h⟩ := h
  have key : ∀ c,c ≤ 65000 → 2 ^ c ≤ Top := fun c hc => k'lb (by omega)
  rcases h with ⟨a1,a2⟩ | ⟨a0,a1,a2⟩
  ·have h3 := (k'rx ⟨p.length,by omega⟩ ⟨q.length,by omega⟩ (by simp; omega) h2).2
   exact Nat.lt_of_lt_of_le (k'pc a1 a2) (key _ (Nat.le_trans h3 (k'p9 ⟨q.length + 1,by omega⟩ (by simp; omega))))
  ·have h3 := (k'ry ⟨p.length,by omega⟩ ⟨q.length,by omega⟩ (by simp; omega) a0).2
   exact Nat.lt_of_lt_of_le (k'pc a1 a2) (key _ (Nat.le_trans h3 (k'p9 ⟨q.length + 1,by omega⟩ (by simp; omega))))
theorem k's0 {p q : List Int} (l1 : p.length ≤ 8) (l2 : q.length ≤ 8) (h1 : Pl.mx (Pl.prim p) < 2 ^ 64) (h2 : Pl.mx (Pl.prim q) < 2 ^ 64) : S8 (Pl.prim p) (Pl.prim q) :=
 ⟨by rw [Pl.prim_length]; exact l1,by rw [Pl.prim_length]; exact l2,Or.inl ⟨h1,h2⟩⟩
theorem k's1 {S : List Int → List Int → Prop} (hS : Pl.Euk S) {G : List Int} (n : Nat) : ∀ p q,q.length ≤ n → Pl.EInv S G p q → ∃ a b,Pl.EInv S G a b ∧ b.length ≤ 1 ∧ a.length ≤ p.length := by
 induction n with
 | zero => exact fun p q hq h => ⟨p,q,h,by omega,Nat.le_refl _⟩
 | succ n ih =>
  intro p q hq h;have hlen := h.len;rcases Nat.lt_or_ge 1 q.length with g | g
  ·have hl := Pl.rest_length (p := p) (q := q) (by omega)
   obtain ⟨a,b,h1,h2,h3⟩ := ih q (Pl.prim (Pl.rest p q)) (by rw [Pl.prim_length]; omega) (h.step hS g)
   exact ⟨a,b,h1,h2,by omega⟩
  ·exact ⟨p,q,h,g,Nat.le_refl _⟩
theorem k's2 (p : List Int) : Pl.mx (Pl.scl (-1) p) = Pl.mx p := by
 refine Nat.le_antisymm ?_ ?_
 ·have := Pl.mx_scl (-1) p; simpa using this
 ·have := Pl.mx_scl (-1) (Pl.scl (-1) p)
  rw [Pl.scl_scl] at this;simpa [Pl.scl_one] using this
theorem k's3 {G r : List Int} (h : Pl.ELast G r) : Pl.mx G = Pl.mx r ∧ G.length = r.length := by
 rcases Nat.eq_zero_or_pos r.length with h0 | h0
 ·rw [h.nil h0]; exact ⟨rfl,rfl⟩
 ·by_cases hs : Pl.cf r (r.length - 1) < 0
  ·rw [h.neg h0 hs,k's2]; exact ⟨rfl,Pl.scl_length _ _⟩
  ·rw [h.pos h0 hs]; exact ⟨rfl,rfl⟩
theorem k's4 {G r : List Int} (h : Pl.ELast G r) : Pl.prim G = G := by
 by_cases h0 : r = []
 ·have := h.nil (by rw [h0]; rfl)
  rw [this,h0]; rfl
 ·rw [← h.g]
  unfold Pl.npr;have hs := Pl.sign_ne (Pl.lead_ne h.np h0);rw [Pl.prim_scl hs,h.pp,h.pp,Int.sign_sign]
theorem k's5 {p q : List Int} (hp : Pl.Nrm p) (hq : Pl.Nrm q) (l1 : p.length ≤ 8) (l2 : q.length ≤ 8) (h1 : Pl.mx (Pl.prim p) < 2 ^ 64) (h2 : Pl.mx (Pl.prim q) < 2 ^ 64) :
 (Pl.gcdP p q).length ≤ 8 ∧ Pl.mx (Pl.gcdP p q) < 2 ^ Nt ((Pl.gcdP p q).length + 2) ∧ Pl.prim (Pl.gcdP p q) = Pl.gcdP p q := by
 have hg0 : Pl.gcdP (Pl.prim p) (Pl.prim q) = Pl.gcdP p q := Pl.gcdP_npr (Pl.npr_prim hp) (Pl.npr_prim hq);have key : ∃ a b,Pl.EInv S8 (Pl.gcdP p q) a b ∧ b.length ≤ 1 ∧ a.length ≤ 8 := by
  rcases Nat.lt_or_ge p.length q.length with g | g
  ·obtain ⟨a,b,x,y,z⟩ := k's1 k'rz (G := Pl.gcdP p q) (Pl.prim p).length (Pl.prim q) (Pl.prim p) (Nat.le_refl _)
    ⟨Pl.prim_nrm hq,Pl.prim_nrm hp,Pl.prim_prim hq,Pl.prim_prim hp,by rw [← Pl.gcdP_swap (Pl.prim_nrm hp) (Pl.prim_nrm hq) (by rw [Pl.prim_length,Pl.prim_length]; exact g)]; exact hg0,by rw [Pl.prim_length,Pl.prim_length]; exact Nat.le_of_lt g,by rw [Pl.prim_length]; omega,k's0 l2 l1 h2 h1⟩
   exact ⟨a,b,x,y,by rw [Pl.prim_length] at z; omega⟩
  ·obtain ⟨a,b,x,y,z⟩ := k's1 k'rz (G := Pl.gcdP p q) (Pl.prim q).length (Pl.prim p) (Pl.prim q) (Nat.le_refl _)
    ⟨Pl.prim_nrm hp,Pl.prim_nrm hq,Pl.prim_prim hp,Pl.prim_prim hq,hg0,by rw [Pl.prim_length,Pl.prim_length]; exact g,by rw [Pl.prim_length]; omega,k's0 l1 l2 h1 h2⟩
   exact ⟨a,b,x,y,by rw [Pl.prim_length] at z; omega⟩
 obtain ⟨a,b,h,hb,ha⟩ := key;have big : ∀ i : Fin 9,64 ≤ Nt (i.val + 2) := by decide
 rcases Nat.eq_zero_or_pos b.length with h0 | h0
 ·obtain ⟨e1,e2⟩ := k's3 (h.zero k'rz h0)
  have e3 := k's4 (h.zero k'rz h0);refine ⟨by rw [e2]; exact ha,?_,e3⟩
  rw [e1,e2];obtain ⟨-,-,hs⟩ := h.s;rcases hs with ⟨a1,a2⟩ | ⟨a0,a1,a2⟩
  ·exact k'pe a1 (big ⟨a.length,by omega⟩)
  ·exact a1
 ·have h1 : b.length = 1 := by omega
  have hl := h.one k'rz h1;obtain ⟨e1,e2⟩ := k's3 hl;refine ⟨by omega,?_,k's4 hl⟩
  rw [e1,e2];exact k'pe (k'pg h1 hl.np hl.pp) (big ⟨b.length,by omega⟩)
theorem k's6 (n d : Int) (hc : Nat.gcd n.natAbs d.natAbs = 1) (p : List Int) (hp : Pl.Nrm p) (h0 : p ≠ []) (h : Pl.hv n d p p.length = 0) : n.natAbs ≤ Pl.mx p := by
 induction p with
 | nil => exact absurd rfl h0
 | cons a p ih =>
  have h1 : a * d ^ p.length + n * Pl.hv n d p p.length = 0 := h;by_cases ha : a = 0
  ·have hpne : p ≠ [] := by
    intro e;subst e ha;exact hp (by simp) rfl
   have hpn : Pl.Nrm p := by
    intro hl;have := hp (by simp)
    have e : (a :: p).length - 1 = (p.length - 1) + 1 := by simp; omega
    simp only [e,List.getElem_cons_succ] at this;exact this
   rw [ha,Int.zero_mul,Int.zero_add] at h1;rcases Int.mul_eq_zero.1 h1 with g | g
   ·rw [g]; simp
   ·have := ih hpn hpne g
    refine Nat.le_trans this ?_;exact Pl.mx_le fun k hk => by
     have := Pl.mx_cf (a :: p) (k + 1);rwa [Pl.cf_cons_succ] at this
  ·have hd : n ∣ a * d ^ p.length := ⟨-Pl.hv n d p p.length,by rw [Int.mul_neg]; omega⟩
   have hn := Int.natAbs_dvd_natAbs.2 hd;rw [Int.natAbs_mul,Int.natAbs_pow] at hn;have hcop : Nat.Coprime n.natAbs (d.natAbs ^ p.length) := Nat.Coprime.pow_right _ hc;have hna := hcop.dvd_of_dvd_mul_right hn;have h3 := Nat.le_of_dvd (by omega) hna
   have h4 := Pl.mx_cf (a :: p) 0;rw [Pl.cf_cons_zero] at h4;omega
theorem k's7 (n d : Int) (p : List Int) (h0 : p ≠ []) : ∃ z,Pl.hv n d p p.length = Pl.lead p * n ^ (p.length - 1) + d * z := by
 induction p with
 | nil => exact absurd rfl h0
 | cons a p ih =>
  have e : Pl.hv n d (a :: p) (a :: p).length = a * d ^ p.length + n * Pl.hv n d p p.length := rfl;by_cases hp : p = []
  ·subst hp
   refine ⟨0,?_⟩;rw [e];simp [Pl.lead,Pl.hv,Pl.cf]
  ·obtain ⟨z,hz⟩ := ih hp
   have hl := List.length_pos_iff.2 hp;obtain ⟨m,hm⟩ : ∃ m,p.length = m + 1 := ⟨p.length - 1,by omega⟩
   refine ⟨a * d ^ m + n * z,?_⟩;have e2 : Pl.lead (a :: p) = Pl.lead p := by
    unfold Pl.lead;rw [show (a :: p).length - 1 = (p.length - 1) + 1 by simp; omega,Pl.cf_cons_succ]
   rw [e,hz,e2,hm,show (a :: p).length - 1 = m + 1 by simp [hm],Int.pow_succ,Int.pow_succ]
   simp only [Nat.add_sub_cancel]
   grind
theorem k's8 (n d : Int) (hc : Nat.gcd n.natAbs d.natAbs = 1) (p : List Int) (hp : Pl.Nrm p) (h0 : p ≠ []) (h : Pl.hv n d p p.length = 0) : d.natAbs ≤ Pl.mx p := by
 obtain ⟨z,hz⟩ := k's7 n d p h0;rw [h] at hz;have hd : d ∣ Pl.lead p * n ^ (p.length - 1) := ⟨-z,by rw [Int.mul_neg]; omega⟩
 have hn := Int.natAbs_dvd_natAbs.2 hd;rw [Int.natAbs_mul,Int.natAbs_pow] at hn;have hcop : Nat.Coprime d.natAbs (n.natAbs ^ (p.length - 1)) := Nat.Coprime.pow_right _ (by rw [Nat.Coprime,Nat.gcd_comm]; exact hc)
 have h3 := Nat.le_of_dvd (by have := Pl.lead_ne hp h0; omega) (hcop.dvd_of_dvd_mul_right hn)
 exact Nat.le_trans h3 (Pl.mx_cf p _)
theorem k's9 {p q : List Int} (h : ∀ x : Int,Pl.ev p x = Pl.ev q x) (n d : Int) (M : Nat) : Pl.hv n d p M = Pl.hv n d q M := Pl.hv_cf (Pl.ev_inj fun x _ => h x) n d M
theorem k'sa {p G : List Int} (hp : Pl.Nrm p) (h0 : p ≠ []) (hg : G.length = 2) (hG : Pl.prim G = G) (hgn : Pl.Nrm G) (hd : Pl.Dv G p) : Pl.mx G ≤ Pl.mx p := by
 obtain ⟨a,b,rfl⟩ : ∃ a b,G = [a,b] := by
  match G,hg with
  | [a,b],_ => exact ⟨a,b,rfl⟩
 have hb : b ≠ 0 := by have := hgn (by simp); simpa using this
 have hcn : Pl.cont [a,b] = Nat.gcd a.natAbs b.natAbs := by simp [Pl.cont]
 have hc : Nat.gcd (-a).natAbs b.natAbs = 1 := by
  rw [Int.natAbs_neg,← hcn];have h1 := congrArg (fun l => Pl.cf l 1) hG;simp only [Pl.cf_prim] at h1;have e : Pl.cf [a,b] 1 = b := by simp [Pl.cf]
  rw [e] at h1;have h2 := Pl.cont_dvd_cf [a,b] 1;rw [e] at h2;have h3 := Int.ediv_mul_cancel h2;rw [h1] at h3;have h4 : ((Pl.cont [a,b] : Nat) : Int) = 1 := by
   have h5 : b * ((Pl.cont [a,b] : Nat) : Int) = b * 1 := by omega
   exact Int.eq_of_mul_eq_mul_left hb h5
  omega
 have hr : Pl.hv (-a) b p p.length = 0 := by
  obtain ⟨c,hc0,t,ht⟩ := hd;have h1 := k's9 (p := Pl.scl c p) (q := Pl.mul t [a,b]) (fun x => by rw [Pl.ev_scl,Pl.ev_mul]; exact ht x) (-a) b (max p.length t.length + 1 + 1)
  rw [Pl.hv_scl,Pl.hv_mul t [a,b] (-a) b (max p.length t.length) 1 (by omega) (by simp)] at h1
  have e2 : Pl.hv (-a) b [a,b] (1 + 1) = 0 := by
   simp only [Pl.hv,Int.pow_one,Int.pow_zero,Int.mul_one,Int.mul_zero,Int.add_zero];rw [Int.neg_mul]; omega
  rw [e2,Int.mul_zero] at h1;have h3 := (Int.mul_eq_zero.1 h1).resolve_left hc0;rw [show max p.length t.length + 1 + 1 = p.length + (max p.length t.length + 2 - p.length) by omega,Pl.hv_ups _ _ _ _ _ (Nat.le_refl _)] at h3
  exact (Int.mul_eq_zero.1 h3).resolve_left (Int.pow_ne_zero hb)
 have hnum := k's6 (-a) b hc p hp h0 hr;have hden := k's8 (-a) b hc p hp h0 hr;refine Pl.mx_le fun k hk => ?_
 match k,hk with
 | 0,_ => simpa [Pl.cf] using hnum
 | 1,_ => simpa [Pl.cf] using hden
theorem k'sb {a b : Bool} {s t : ByteArray} (h : vldR a s b t = true) : vld a s = true ∧ vld b t = true ∧ 0 < sg b (bv t) := by
 unfold vldR at h;rw [Bool.and_eq_true,decide_eq_true_eq] at h;obtain ⟨h1,h2⟩ := h;have h3 : vld b t = true := by
  cases hv : vld b t with
  | true => rfl
  | false => unfold sgV at h2; rw [hv] at h2; simp at h2
 rw [k'ak h3] at h2;refine ⟨h1,h3,?_⟩;rcases Int.lt_trichotomy (sg b (bv t)) 0 with g | g | g
 ·rw [Int.sign_eq_neg_one_of_neg g] at h2; omega
 ·rw [g] at h2; exact absurd h2 (by decide)
 ·exact g
theorem k'sc {a b : Int} {B : Int} (h1 : lenV (zb a) (zs a) ≤ B) (h2 : lenV (zb b) (zs b) ≤ B) (hB : 0 ≤ B) : glb [(zb a,zs a),(zb b,zs b)] ≤ B := by
 refine k'kh _ B hB ?_;intro x hx;simp only [List.mem_cons,List.mem_nil_iff,or_false] at hx;rcases hx with rfl | rfl <;> assumption
theorem k'sf {n m : Nat} {p : List Int} {x d : Int} (s : Sz n p) (hx : x.natAbs < D9 ^ m) (hd : d.natAbs < D9 ^ m) (hl : p.length ≤ 100) : (evl p x d).natAbs < D9 ^ (n + (m * p.length + 1 + (m * p.length + 1)) + 1) := by
 have h := k'oj s hx hd hl p.length (Nat.le_refl _);have e : Pl.ev (Pl.lev p d) x = Pl.evs (Pl.lev p d) x p.length := by rw [← Pl.evs_all,Pl.lev_length]
 unfold evl;rw [e];exact h
theorem k'sh {a b : Int} {n : Nat} (h : a.natAbs < D9 ^ n) : (a / b).natAbs < D9 ^ n := Nat.lt_of_le_of_lt (Int.natAbs_ediv_le_natAbs _ _) h
theorem k'sk {z : Int} {m : Nat} (h : z.natAbs < 2 ^ m) (ht : z.natAbs < Top) : lenV (zb z) (zs z) ≤ m := by
 have hv := k'6j ht;rw [k'an hv];rcases Nat.eq_zero_or_pos (zs z).size with g | g
 ·unfold lenB; rw [dif_neg (by omega)]; omega
 ·obtain ⟨l,h1,h2,h3,h4⟩ := k'4z (k'4l hv) g
  rw [k'6k] at h3;rw [h1];have : l - 1 < m := (Nat.pow_lt_pow_iff_right (by decide : 1 < 2)).1 (Nat.lt_of_le_of_lt h3 h)
  omega
theorem k'sl {p : List Int} {m : Nat} (ht : ∀ a ∈ p,a.natAbs < Top) (h : Pl.mx p < 2 ^ m) : glb (zl p) ≤ m := by
 refine k'kh _ _ (by omega) ?_
 intro x hx;obtain ⟨z,hz,rfl⟩ := List.mem_map.1 hx;exact k'sk (Nat.lt_of_le_of_lt (Pl.mx_mem hz) h) (ht z hz)
theorem k'sm {p : List Int} {x y : Int} (hp : VP p) (l1 : p.length ≤ 15) (hgp : glb (zl p) ≤ 1000) (hv : vldR (zb x) (zs x) (zb y) (zs y) = true) (hx : (zs x).size ≤ 16) (hy : (zs y).size ≤ 16) (tx : x.natAbs < Top) (ty : y.natAbs < Top) : ckv (zl p) (zb x) (zs x) (zb y) (zs y) = 0 := by
 have hg2 := k'sc (k'kg hx tx) (k'kg hy ty) (by decide)
 unfold ckv;rw [hp.ok,hv,if_pos (show (true && true) = true from rfl),if_neg];unfold tlg;rw [k'e0];simp only [decide_eq_true_eq];intro ⟨_,h2⟩;have hb1 := k'h9 [(zb x,zs x),(zb y,zs y)];have h3 : ((p.length : Int) - 1) * glb [(zb x,zs x),(zb y,zs y)] ≤ 15 * glb [(zb x,zs x),(zb y,zs y)] := Int.mul_le_mul_of_nonneg_right (by omega) (by omega)
 omega
theorem k'sn {x y : Int} (tx : x.natAbs < Top) (ty : y.natAbs < Top) (hy : 0 < y) : vldR (zb x) (zs x) (zb y) (zs y) = true := by
 unfold vldR;rw [k'6j tx,k'ak (k'6j ty),k'dk,Int.sign_eq_one_of_pos hy];rfl
theorem k'so (a : Bool) (s : ByteArray) (w : World) (hs : s.size ≤ 9223372036854775807) : Calls Tryz.prog 35 #[.agg #[.bool a,.string s]] w (BPost (vld a s) w) := by
 rcases Nat.eq_zero_or_pos s.size with h0 | h0
 ·have E : Hid (vld a s = !a) := by show _ = _; unfold vld; rw [dif_neg (by omega)]
  have h1 : ((s.size : Int) == 0) = true := beq_iff_eq.2 (by omega)
  have hb : Hid (Below w.heap.size w (w.alloc (.cells #[.bool a,.string s] 44))) := (Below.refl _ _).alloc (Nat.le_refl _) _;clear h0;go_enter Tryz.func35,Tryz.ntmps35;go_wp2;go_ret;exact ⟨by rw [E.out]; rfl,hb.out⟩
 ·have E : Hid (vld a s = (decide (s.size ≤ 8192) && (s[0] != 0))) := by show _ = _; unfold vld; rw [dif_pos h0]
  have h1 : ((s.size : Int) == 0) = false := beq_eq_false_iff_ne.2 (by omega)
  have hb : Hid (Below w.heap.size w (w.alloc (.cells #[.bool a,.string s] 44))) := (Below.refl _ _).alloc (Nat.le_refl _) _;by_cases h2 : s.size ≤ 8192
  ·have e2 : Hid (((s[0].toNat : Int) != 0) = (s[0] != 0)) := by
    show _ = _;by_cases hz : s[0] = 0
    ·simp [hz]
    ·have : s[0].toNat ≠ 0 := fun h => hz (UInt8.toNat_inj.1 h)
     have h3 : ((s[0].toNat : Int) != 0) = true := by simp; omega
     rw [h3]; symm; simpa using hz
   have hd : Hid (decide (s.size ≤ 8192) = true) := decide_eq_true h2;go_enter Tryz.func35,Tryz.ntmps35;go_wp2;go_ret;exact ⟨by rw [E.out,hd.out,Bool.true_and,← e2.out]; rfl,hb.out⟩
  ·have hd : Hid (decide (s.size ≤ 8192) = false) := decide_eq_false h2
   go_enter Tryz.func35,Tryz.ntmps35;go_wp2;go_ret;exact ⟨by rw [E.out,hd.out,Bool.false_and]; rfl,hb.out⟩
theorem k'sp (a b : Bool) (s t : ByteArray) (w : World) (hs : s.size ≤ 9223372036854775807) (ht : t.size ≤ 9223372036854775807) :
 Calls Tryz.prog 45 #[rat a s b t] w (BPost (vldR a s b t) w) := by
 rw [k'j9];have HA := i' (fun w => k'so a s w hs);have HB := i' (fun w => k'so b t w ht);unfold BPost at *;unfold rat;obtain ⟨w0,hw0⟩ : ∃ w0 : World,w0 = w.alloc (.cells #[.bool a,.string s,.bool b,.string t] 59) := ⟨_,rfl⟩;have hb0 : Hid (Below w.heap.size w w0) := by rw [hw0]; exact k'5u _ _
 have I1 : Hid (ZC4 (.bool a) (.string s) (.bool b) (.string t) w0 w.heap.size) := by rw [hw0]; exact ZC4.made0 w
 have Hw0 := i' hw0;clear hw0;generalize vld a s = va at *;generalize vld b t = vb at *;go_enter Tryz.func45,Tryz.ntmps45;go_wp2_with fail;rw [← Hw0.out];refine (HA.out _).mono ?_;rintro e wa ⟨rfl,ba⟩;obtain ⟨⟨k0,k1,k2,k3⟩,_⟩ := I1.out.next ba;have BA := i' ba;have HZ := i' (k'4h hb0.out ba);clear ba
 cases va with
 | false =>
  go_wp2;go_ret;exact ⟨rfl,HZ.out⟩
 | true =>
  go_wp2_with fail;refine (HB.out _).mono ?_;rintro e wb ⟨rfl,bb⟩;have c := k'4h BA.out bb;obtain ⟨⟨k0,k1,k2,k3⟩,_⟩ := I1.out.next c;have HZ := i' (k'4h hb0.out c);clear bb c
  cases vb with
  | false =>
   go_wp2;go_ret;exact ⟨rfl,HZ.out⟩
  | true =>
   cases b with
   | true =>
    go_wp2;go_ret;exact ⟨rfl,HZ.out⟩
   | false =>
    by_cases h0 : 0 < t.size
    ·have e0 : decide (0 < t.size) = true := decide_eq_true h0
     have E0 := i' e0;clear e0;go_wp2;go_ret;exact ⟨by rw [E0.out]; rfl,HZ.out⟩
    ·have e0 : decide (0 < t.size) = false := decide_eq_false h0
     have E0 := i' e0;clear e0;go_wp2;go_ret;exact ⟨by rw [E0.out]; rfl,HZ.out⟩
def kB : Nat := 1000
structure VF (T : List Int) (X Y N D : Int) : Prop where
 sn : N.natAbs < D9 ^ kB
 sd : D.natAbs < D9 ^ kB
 pos : 0 < D
 cr : N * Y ^ (T.length - 1) = evl T X Y * D
theorem k'sq (e : Int) {d : Int} (hd : 0 < d) : 0 < lg e d ∧ lg e d ∣ e ∧ lg e d ∣ d := by
 unfold lg;rw [if_neg (by omega)]
 have := Nat.gcd_pos_of_pos_right e.natAbs (show 0 < d.natAbs by omega)
 exact ⟨by omega,Int.ofNat_dvd_left.2 (Nat.gcd_dvd_left _ _),Int.ofNat_dvd_left.2 (Nat.gcd_dvd_right _ _)⟩
theorem k'sr {T : List Int} {X Y : Int} {N : Nat} (hY : 0 < Y) (s : Sz N T) (hN : N ≤ 50) (hl : T.length ≤ 15) (sx : X.natAbs < D9 ^ 16) (sy : Y.natAbs < D9 ^ 16) : VF T X Y (evl T X Y / lg (evl T X Y) (Y ^ (T.length - 1))) (Y ^ (T.length - 1) / lg (evl T X Y) (Y ^ (T.length - 1))) := by
 obtain ⟨m,hm⟩ : ∃ m : Nat,m = 16 := ⟨_,rfl⟩;rw [← hm] at sx sy;have hd : 0 < Y ^ (T.length - 1) := Int.pow_pos hY;obtain ⟨h1,h2,h3⟩ := k'sq (evl T X Y) hd;have m1 : m * T.length ≤ 16 * 15 := by rw [hm]; exact Nat.mul_le_mul_left 16 hl
 have m2 : m * (T.length - 1) ≤ 16 * 15 := by rw [hm]; exact Nat.mul_le_mul_left 16 (by omega)
 have e2 := Int.ediv_mul_cancel h2;have e3 := Int.ediv_mul_cancel h3;refine ⟨k'sh (Nat.lt_of_lt_of_le (k'sf s sx sy (by omega)) (Nat.pow_le_pow_right (by decide) (by unfold kB; omega))),k'sh (Nat.lt_of_lt_of_le (k'of sy) (Nat.pow_le_pow_right (by decide) (by unfold kB; omega))),?_,?_⟩
 ·generalize Y ^ (T.length - 1) / lg (evl T X Y) (Y ^ (T.length - 1)) = D at *
  rcases Int.lt_trichotomy D 0 with g | g | g
  ·have := Int.mul_neg_of_neg_of_pos g h1; omega
  ·rw [g,Int.zero_mul] at e3; omega
  ·exact g
 ·generalize lg (evl T X Y) (Y ^ (T.length - 1)) = g at *
  generalize Y ^ (T.length - 1) / g = D at *;generalize evl T X Y / g = M at *;rw [← e3,← e2]
  grind
theorem VF.hv {T : List Int} {X Y N D : Int} (h : VF T X Y N D) (hY : 0 < Y) (M : Nat) (hM : T.length ≤ M + 1) : N * Y ^ M = Pl.hv X Y T (M + 1) * D := by
 have h1 : evl T X Y * Y ^ M = Pl.hv X Y T (M + 1) * Y ^ (T.length - 1) := Pl.vlu_over T X Y M hM;have h2 := h.cr;have hd : Y ^ (T.length - 1) ≠ 0 := Int.pow_ne_zero (by omega)
 refine Int.eq_of_mul_eq_mul_right hd ?_;generalize Y ^ (T.length - 1) = d at *;generalize Y ^ M = y at *;generalize evl T X Y = e at *;generalize Pl.hv X Y T (M + 1) = v at *
 grind
theorem k'ss {np nq ns dp dq ds hp hq dm g xa ya : Int} (h1 : np * dm = hp * dp) (h2 : nq * dm = hq * dq) (h3 : ns * dm = (hp + hq) * ds) (h4 : xa * g = np * dq + nq * dp) (h5 : ya * g = dp * dq) (h6 : dm ≠ 0) (h7 : g ≠ 0) : xa * ds - ns * ya = 0 := by
 have h8 : g * dm ≠ 0 := Int.mul_ne_zero h7 h6;have : (xa * ds) * (g * dm) = (ns * ya) * (g * dm) := by grind
 have := Int.eq_of_mul_eq_mul_right h8 this;omega
theorem k'st {np nq ns dp dq ds hp hq dm g xa ya : Int} (h1 : np * dm = hp * dp) (h2 : nq * dm = hq * dq) (h3 : ns * (dm * dm) = (hp * hq) * ds) (h4 : xa * g = np * nq) (h5 : ya * g = dp * dq) (h6 : dm ≠ 0) (h7 : g ≠ 0) : xa * ds - ns * ya = 0 := by
 have h8 : g * (dm * dm) ≠ 0 := Int.mul_ne_zero h7 (Int.mul_ne_zero h6 h6);have : (xa * ds) * (g * (dm * dm)) = (ns * ya) * (g * (dm * dm)) := by grind
 have := Int.eq_of_mul_eq_mul_right h8 this;omega
theorem k'su (T : List Int) (v u : Value) (w : World) (hv : Rp w v T) (hu : Rp w u T) : Calls Tryz.prog 18 #[v,u] w (BPost true w) := by
 have h := k'kv (zl T) (zl T) v u w hv hu;rwa [k'lo] at h
theorem k'sv {z : Int} (h : z.natAbs < D9 ^ kB) : z.natAbs < Top := k'qu h (by unfold kB; omega)
theorem k'sw {T : List Int} {X Y : Int} {N : Nat} (hT : VP T) (hl : T.length ≤ 15) (hg : glb (zl T) ≤ 1000) (s : Sz N T) (hN : N ≤ 50) (hY : 0 < Y) (vr : vldR (zb X) (zs X) (zb Y) (zs Y) = true) (hx : (zs X).size ≤ 16) (hy : (zs Y).size ≤ 16) (sx : X.natAbs < D9 ^ 16) (sy : Y.natAbs < D9 ^ 16) (w : World) (v : Value) (h : Rp w v T) :
 Calls Tryz.prog 43 #[v,R X Y] w (Ret (.tuple #[R (evl T X Y / lg (evl T X Y) (Y ^ (T.length - 1))) (Y ^ (T.length - 1) / lg (evl T X Y) (Y ^ (T.length - 1))),.int .i64 0]) w) := by
 obtain ⟨m,hm⟩ : ∃ m : Nat,m = 16 := ⟨_,rfl⟩;rw [← hm] at sx sy;have m1 : m * T.length ≤ 16 * 15 := by rw [hm]; exact Nat.mul_le_mul_left 16 hl
 refine k'li T v X Y w h hT (k'qu sx (by omega)) (k'qu sy (by omega)) (k'sm hT hl hg vr hx hy (k'qu sx (by omega)) (k'qu sy (by omega))) (by omega) (k'qu (k'sf s sx sy (by omega)) (by omega)) (fun j hj => k'qu (k'of sy) ?_)
 have := Nat.mul_le_mul_left m (show j ≤ T.length by omega)
 omega
theorem k'sx {N D : Int} (sn : N.natAbs < D9 ^ kB) (sd : D.natAbs < D9 ^ kB) (hD : 0 < D) (w : World) : Calls Tryz.prog 45 #[R N D] w (BPost true w) := by
 have h := k'jh (zb N) (zb D) (zs N) (zs D) w (by have := k'6m (k'sv sn); omega) (by have := k'6m (k'sv sd); omega)
 rwa [k'sn (k'sv sn) (k'sv sd) hD] at h
theorem k'sy {N D : Int} (sn : N.natAbs < D9 ^ kB) (sd : D.natAbs < D9 ^ kB) (w : World) : Calls Tryz.prog 46 #[R N D] w (RQPost N D w) := by
 have h := k'ja (zb N) (zb D) (zs N) (zs D) w (by have := k'6m (k'sv sn); omega) (by have := k'6m (k'sv sd); omega)
 rwa [k'dk,k'dk] at h
theorem k'sz {z : Int} {a b : Nat} (h : z.natAbs < D9 ^ a) (hab : a ≤ b) : z.natAbs < D9 ^ b := Nat.lt_of_lt_of_le h (Nat.pow_le_pow_right (by decide) hab)
theorem k't0 {a b : Int} (ha : a.natAbs < D9 ^ kB) (hb : b.natAbs < D9 ^ kB) : (a * b).natAbs < D9 ^ (kB + kB) := by
 rw [Int.natAbs_mul]; exact k'jw ha hb
theorem k't1 {a b : Int} {k : Nat} (ha : a.natAbs < D9 ^ k) (hb : b.natAbs < D9 ^ k) : (a + b).natAbs < D9 ^ (k + 1) := by
 have := k'jv ha hb;rw [Nat.max_self] at this;omega
theorem k't2 {p q : List Int} {v1 v2 : Value} {w : World} (h1 : Rp w v1 p) (h2 : Rp w v2 q) (hp : VP p) (hq : VP q) (g1 : shP (zl p) = true) (g2 : shP (zl q) = true) (l1 : p.length ≤ 8) (l2 : q.length ≤ 8) : Calls Tryz.prog 27 #[v1,v2] w (ResP (Pl.trim (Pl.mul p q)) w) := by
 by_cases hp0 : p = []
 ·rw [show Pl.trim (Pl.mul p q) = [] by rw [hp0]; rfl]
  exact k'iw p q v1 v2 w h1 h2 hp hq (Or.inl hp0)
 ·by_cases hq0 : q = []
  ·rw [show Pl.trim (Pl.mul p q) = [] by rw [hq0]; exact mul_nil p]
   exact k'iw p q v1 v2 w h1 h2 hp hq (Or.inr hq0)
  ·rw [Pl.trim_nrm (k'kf hp.nrm hq.nrm hp0 hq0)]
   exact k'ix p q v1 v2 w h1 h2 hp hq (k'kj g1 g2 hp hq (by omega)) hp0 hq0
theorem k't3 {p q : List Int} (hp : Pl.Nrm p) (hq : Pl.Nrm q) (h0 : q ≠ []) : Pl.dvs q ((Pl.trim (Pl.mul p q)).length + 1 - q.length) (Pl.trim (Pl.mul p q)) = some p := by
 have hl := List.length_pos_iff.2 h0;by_cases hp0 : p = []
 ·subst hp0
  have e : Pl.trim (Pl.mul [] q) = [] := rfl;rw [e,show ([] : List Int).length + 1 - q.length = 0 by simp; omega]
  rfl
 ·have hpl := List.length_pos_iff.2 hp0
  rw [Pl.trim_nrm (k'kf hp hq hp0 h0)];have e := Pl.mul_length p q hp0 h0;rw [show (Pl.mul p q).length + 1 - q.length = p.length by omega]
  exact Pl.dvs_mul q hq h0 p (Pl.mul p q) (by omega) (fun k => rfl)
theorem k't4 : ∀ j : Fin 9,3 ≤ j.val → 64 + (9 - j.val) * (Nt (j.val + 2) + 1) ≤ 65536 := by decide
theorem k't5 {p G : List Int} (hp : VP p) (hG : VP G) (l1 : p.length ≤ 8) (l2 : G.length ≤ 8) (h0 : G ≠ []) (x1 : Pl.mx p < 2 ^ 64) (hb : Pl.mx G < 2 ^ Nt (G.length + 2)) (hpr : Pl.prim G = G) (hd : Pl.Dv G p) : ckd (zl p) (zl G) = 0 := by
 have b1 := k'sl hp.top x1;have hl := List.length_pos_iff.2 h0;unfold ckd;rw [hp.ok,hG.ok,show (true && true) = true from rfl,if_pos rfl,k'e0,k'e0,if_neg (by omega),if_neg]
 intro ⟨h1,h2⟩;have hp0 : p ≠ [] := by intro e; subst e; simp at h1; omega
 have key : ∀ B : Nat,glb (zl G) ≤ B → 64 + (9 - G.length) * (B + 1) ≤ 65536 → False := by
  intro B hB hle;have c2 := k'h9 (zl G);obtain ⟨a,ha⟩ : ∃ a : Nat,(a : Int) = (p.length : Int) - (G.length : Int) + 1 := ⟨p.length + 1 - G.length,by omega⟩
  rw [← ha] at h2;have h3 : (a : Int) * (glb (zl G) + 1) ≤ (a : Int) * ((B : Int) + 1) := Int.mul_le_mul_of_nonneg_left (by omega) (by omega)
  have h4 : a * (B + 1) ≤ (9 - G.length) * (B + 1) := Nat.mul_le_mul_right _ (by omega)
  have h5 : (a : Int) * ((B : Int) + 1) = ((a * (B + 1) : Nat) : Int) := by simp
  omega
 rcases Nat.lt_or_ge G.length 3 with g | g
 ·have hm : Pl.mx G < 2 ^ 64 := by
   rcases Nat.lt_or_ge G.length 2 with g2 | g2
   ·exact k'pg (by omega) hG.nrm hpr
   ·exact Nat.lt_of_le_of_lt (k'sa hp.nrm hp0 (by omega) hpr hG.nrm hd) x1
  refine key 64 (k'sl hG.top hm) ?_;have : (9 - G.length) * (64 + 1) ≤ 9 * (64 + 1) := Nat.mul_le_mul_right _ (by omega)
  omega
 ·exact key _ (k'sl hG.top hb) (k't4 ⟨G.length,by omega⟩ g)
theorem k't6 {p q : List Int} (hp : VP p) (hq : VP q) (l1 : p.length ≤ 8) (l2 : q.length ≤ 8) (b1 : glb (zl p) ≤ 65) (b2 : glb (zl q) ≤ 65) : ckg (zl p) (zl q) = 0 := by
 have c1 := k'h9 (zl p);have c2 := k'h9 (zl q);unfold ckg;rw [hp.ok,hq.ok,show (true && true) = true from rfl,if_pos rfl,k'e0,k'e0,if_neg];intro ⟨h0,h1,h2⟩;obtain ⟨a,ha⟩ : ∃ a,a = max ((p.length : Int) - 1) ((q.length : Int) - 1) + 3 := ⟨_,rfl⟩;obtain ⟨b,hb⟩ : ∃ b,b = max (glb (zl p)) (glb (zl q)) + 8 := ⟨_,rfl⟩;rw [← ha,← hb] at h2;have ha1 : 0 ≤ a ∧ a ≤ 10 := by omega
 have hb1 : 0 ≤ b ∧ b ≤ 73 := by omega
 have h3 : a * a ≤ 10 * 10 := Int.mul_le_mul ha1.2 ha1.2 ha1.1 (by decide)
 have h4 : a * a * b ≤ 10 * 10 * 73 := Int.mul_le_mul h3 hb1.2 hb1.1 (by decide)
 omega
theorem k't7 (p q : List Int) (v1 v2 : Value) (X Y : Int) (w : World) (h1 : Rp w v1 p) (h2 : Rp w v2 q) (hp : VP p) (hq : VP q) (g1 : shP (zl p) = true) (g2 : shP (zl q) = true) (l1 : p.length ≤ 8) (l2 : q.length ≤ 8) (x1 : Pl.mx p < 2 ^ 64) (x2 : Pl.mx q < 2 ^ 64)
 (vr : vldR (zb X) (zs X) (zb Y) (zs Y) = true) (hY : 0 < Y) (zx : (zs X).size ≤ 16) (zy : (zs Y).size ≤ 16) (sx : X.natAbs < D9 ^ 16) (sy : Y.natAbs < D9 ^ 16) :
 PhF (zl p) (zl q) v1 v2 (zb X) (zb Y) (zs X) (zs Y) w := by
 have s1 := k'ka g1;have s2 := k'ka g2;have sS := (k'qs s1 s2).trim;have sM := ((s1.mul s2 (by omega)).mono (show _ ≤ 50 by omega)).trim
 have b1 := k'sl hp.top x1;have b2 := k'sl hq.top x2;have hSl : (Pl.trim (Pl.add p q)).length ≤ 8 := Nat.le_trans (Pl.trim_length _) (by rw [Pl.add_length]; omega)
 have hMl : (Pl.trim (Pl.mul p q)).length ≤ 15 := by
  by_cases hp0 : p = []
  ·rw [show Pl.trim (Pl.mul p q) = [] by rw [hp0]; rfl]; simp
  ·by_cases hq0 : q = []
   ·rw [show Pl.trim (Pl.mul p q) = [] by rw [hq0]; exact mul_nil p]; simp
   ·exact Nat.le_trans (Pl.trim_length _) (by rw [Pl.mul_length p q hp0 hq0]; omega)
 have vS : VP (Pl.trim (Pl.add p q)) := ⟨Pl.nrm_trim _,by omega,sS.top (by omega)⟩
 have vM : VP (Pl.trim (Pl.mul p q)) := ⟨Pl.nrm_trim _,by omega,sM.top (by omega)⟩
 have bS : glb (zl (Pl.trim (Pl.add p q))) ≤ 65 := k'sl vS.top (m := 65) (by
  have : Pl.mx (Pl.trim (Pl.add p q)) ≤ 2 ^ 65 - 1 := Pl.mx_le fun k _ => by
   rw [Pl.cf_trim,Pl.cf_add];have := Pl.mx_cf p k;have := Pl.mx_cf q k;omega
  omega)
 have bM : glb (zl (Pl.trim (Pl.mul p q))) ≤ 131 := k'sl vM.top (m := 131) (by
  have e2 := Pl.sm_le p;have e3 : Pl.sm p * Pl.mx q < 2 ^ 67 * 2 ^ 64 := by
   refine Nat.mul_lt_mul_of_le_of_lt ?_ x2 (by decide)
   have : p.length * Pl.mx p ≤ 8 * 2 ^ 64 := Nat.mul_le_mul l1 (by omega)
   omega
  have : Pl.mx (Pl.trim (Pl.mul p q)) ≤ 2 ^ 131 - 1 := Pl.mx_le fun k _ => by
   rw [Pl.cf_trim];have := Pl.mul_le p q k;omega
  omega)
 have fp := k'sr (T := p) hY s1 (by omega) (by omega) sx sy
 have fq := k'sr (T := q) hY s2 (by omega) (by omega) sx sy
 have fS := k'sr (T := Pl.trim (Pl.add p q)) hY sS (by omega) (by omega) sx sy
 have fM := k'sr (T := Pl.trim (Pl.mul p q)) hY sM (by omega) (by omega) sx sy
 have wp := fun w' v h => k'sw (T := p) hp (by omega) (by omega) s1 (by omega) hY vr zx zy sx sy w' v h
 have wq := fun w' v h => k'sw (T := q) hq (by omega) (by omega) s2 (by omega) hY vr zx zy sx sy w' v h
 have wS := fun w' v h => k'sw (T := Pl.trim (Pl.add p q)) vS (by omega) (by omega) sS (by omega) hY vr zx zy sx sy w' v h
 have wM := fun w' v h => k'sw (T := Pl.trim (Pl.mul p q)) vM (by omega) (by omega) sM (by omega) hY vr zx zy sx sy w' v h
 generalize evl p X Y / lg (evl p X Y) (Y ^ (p.length - 1)) = N1 at fp wp;generalize Y ^ (p.length - 1) / lg (evl p X Y) (Y ^ (p.length - 1)) = D1 at fp wp;generalize evl q X Y / lg (evl q X Y) (Y ^ (q.length - 1)) = N2 at fq wq;generalize Y ^ (q.length - 1) / lg (evl q X Y) (Y ^ (q.length - 1)) = D2 at fq wq;have hvS : Pl.hv X Y (Pl.trim (Pl.add p q)) (7 + 1) = Pl.hv X Y p (7 + 1) + Pl.hv X Y q (7 + 1) := by
  rw [← Pl.hv_add]; exact Pl.hv_cf (Pl.cf_trim _) _ _ _
 have hvM : Pl.hv X Y (Pl.trim (Pl.mul p q)) (7 + 7 + 1) = Pl.hv X Y p (7 + 1) * Pl.hv X Y q (7 + 1) := by
  rw [← Pl.hv_mul p q X Y 7 7 (by omega) (by omega)]; exact Pl.hv_cf (Pl.cf_trim _) _ _ _
 have hSc : Pl.trim (Pl.add q p) = Pl.trim (Pl.add p q) := Pl.trim_ext fun k => by rw [Pl.cf_add,Pl.cf_add,Int.add_comm]
 have hMc : Pl.trim (Pl.mul q p) = Pl.trim (Pl.mul p q) := Pl.trim_ext fun k => Pl.mul_comm_cf q p k;generalize hTs : Pl.trim (Pl.add p q) = S at *;have hMd := fun h0 => k't3 hp.nrm hq.nrm (q := q) h0;have kM := fun w' (hb : Below w.heap.size w w') => k't2 (h1.below hb) (h2.below hb) hp hq g1 g2 l1 l2;have kM2 := fun w' (hb : Below w.heap.size w w') => k't2 (h2.below hb) (h1.below hb) hq hp g2 g1 l2 l1;rw [hMc] at kM2;generalize hTm : Pl.trim (Pl.mul p q) = M at *;generalize evl S X Y / lg (evl S X Y) (Y ^ (S.length - 1)) = N3 at fS wS;generalize Y ^ (S.length - 1) / lg (evl S X Y) (Y ^ (S.length - 1)) = D3 at fS wS;generalize evl M X Y / lg (evl M X Y) (Y ^ (M.length - 1)) = N4 at fM wM;generalize Y ^ (M.length - 1) / lg (evl M X Y) (Y ^ (M.length - 1)) = D4 at fM wM;have hdm : Y ^ 7 ≠ 0 := Int.pow_ne_zero (by omega)
 have i1 := fp.hv hY 7 (by omega)
 have i2 := fq.hv hY 7 (by omega)
 have i3 := fS.hv hY 7 (by omega)
 have i4 := fM.hv hY 14 (by omega)
 rw [hvS] at i3;rw [show (14 : Nat) + 1 = 7 + 7 + 1 from rfl,hvM,show (14 : Nat) = 7 + 7 from rfl,Int.pow_add] at i4;have hDD : 0 < D1 * D2 := Int.mul_pos fp.pos fq.pos;obtain ⟨a1,a2,a3⟩ := k'sq (N1 * D2 + N2 * D1) hDD;obtain ⟨c1,c2,c3⟩ := k'sq (N1 * N2) hDD;have e1 := k'ss i1 i2 i3 (Int.ediv_mul_cancel a2) (Int.ediv_mul_cancel a3) hdm (by omega)
 have e2 := k'st i1 i2 i4 (Int.ediv_mul_cancel c2) (Int.ediv_mul_cancel c3) hdm (by omega)
 obtain ⟨k,hk⟩ : ∃ k,k = kB := ⟨_,rfl⟩;obtain ⟨k2,hk2⟩ : ∃ k2,k2 = kB + kB + 1 := ⟨_,rfl⟩;have hkl : k ≤ 20000 ∧ k2 ≤ 20000 ∧ k ≤ k2 := by rw [hk,hk2]; unfold kB; omega
 have zA : ((N1 * D2 + N2 * D1) / lg (N1 * D2 + N2 * D1) (D1 * D2)).natAbs < D9 ^ k2 := by rw [hk2]; exact k'sh (k't1 (k't0 fp.sn fq.sd) (k't0 fq.sn fp.sd))
 have zB : (D1 * D2 / lg (N1 * D2 + N2 * D1) (D1 * D2)).natAbs < D9 ^ k2 := by rw [hk2]; exact k'sh (k'sz (k't0 fp.sd fq.sd) (Nat.le_succ _))
 have zC : (N1 * N2 / lg (N1 * N2) (D1 * D2)).natAbs < D9 ^ k2 := by rw [hk2]; exact k'sh (k'sz (k't0 fp.sn fq.sn) (Nat.le_succ _))
 have zD : (D1 * D2 / lg (N1 * N2) (D1 * D2)).natAbs < D9 ^ k2 := by rw [hk2]; exact k'sh (k'sz (k't0 fp.sd fq.sd) (Nat.le_succ _))
 have o1 := fp.sn;have o2 := fp.sd;have o3 := fq.sn;have o4 := fq.sd;have o5 := fS.sn;have o6 := fS.sd;have o7 := fM.sn;have o8 := fM.sd;rw [← hk] at o1 o2 o3 o4 o5 o6 o7 o8;have hT : Pl.trim (Pl.mul p [-2]) = Pl.scl (-2) p := by rw [k'r2,Pl.trim_scl (by decide),Pl.trim_nrm hp.nrm]
 have hTn : Pl.Nrm (Pl.scl (-2) p) := Pl.scl_nrm (by decide) hp.nrm
 have mT : Pl.mx (Pl.scl (-2) p) < 2 ^ 65 := by have := Pl.mx_scl (-2) p; simp at this; omega
 have vT : VP (Pl.scl (-2) p) := ⟨hTn,by rw [Pl.scl_length]; omega,k'pf mT (by omega)⟩
 have pT : Pl.mx (Pl.prim (Pl.scl (-2) p)) < 2 ^ 64 := by
  rw [Pl.prim_scl (by decide),show (-2 : Int).sign = -1 from rfl,k's2]
  exact Nat.lt_of_le_of_lt (Pl.mx_prim p) x1
 have pq : Pl.mx (Pl.prim q) < 2 ^ 64 := Nat.lt_of_le_of_lt (Pl.mx_prim q) x2;have pp : Pl.mx (Pl.prim p) < 2 ^ 64 := Nat.lt_of_le_of_lt (Pl.mx_prim p) x1;have hG2 : Pl.gcdP (Pl.scl (-2) p) q = Pl.gcdP p q := Pl.gcdP_npr (Pl.npr_scl (by decide)) rfl
 have kG := fun w' (hb : Below w.heap.size w w') => k'rp (h1.below hb) (h2.below hb) hp hq (k'rj hp hq g1 g2 (by omega) (by omega)) (by omega) (by omega) x1 x2
 have kG2 := fun w' v (hb : Below w.heap.size w w') (hv : Rp w' v (Pl.scl (-2) p)) => k'm4 (Pl.scl (-2) p) q v v2 w' hv (h2.below hb) vT hq (k't6 vT hq (by rw [Pl.scl_length]; exact l1) l2 (k'sl vT.top mT) (by omega)) S8 k'rz
  (fun _ => k's0 (by rw [Pl.scl_length]; exact l1) l2 pT pq) (fun _ => k's0 l2 (by rw [Pl.scl_length]; exact l1) pq pT)
 rw [hG2] at kG2;obtain ⟨lG,mG,rG⟩ := k's5 hp.nrm hq.nrm l1 l2 pp pq;have nG := Pl.gcdP_nrm hp.nrm hq.nrm;obtain ⟨dG1,dG2⟩ := Pl.gcdP_dv hp.nrm hq.nrm;have hRest := fun h0 => Pl.gcdP_rest hp.nrm hq.nrm h0;have hNil := fun h0 => Pl.gcdP_ne (p := p) (q := q) h0 hp.nrm hq.nrm;generalize Pl.gcdP p q = G at *;have vG : VP G := ⟨nG,by omega,by
  rcases Nat.eq_zero_or_pos G.length with h0 | h0
  ·obtain rfl := List.eq_nil_of_length_eq_zero h0
   intro a ha; cases ha
  ·exact k'pf mG (k'p9 ⟨G.length + 2,by omega⟩ (by simp))⟩
 refine ⟨S,M,G,Pl.scl (-2) p,p,N1,D1,N2,D2,N3,D3,N4,D4,(N1 * D2 + N2 * D1) / lg (N1 * D2 + N2 * D1) (D1 * D2),D1 * D2 / lg (N1 * D2 + N2 * D1) (D1 * D2),N1 * N2 / lg (N1 * N2) (D1 * D2),D1 * D2 / lg (N1 * N2) (D1 * D2),zb N1,zb D1,zb N2,zb D2,zb N3,zb D3,zb N4,zb D4,zb (-2),zs N1,zs D1,zs N2,zs D2,zs N3,zs D3,zs N4,zs D4,zs (-2),?_⟩;refine ⟨fun w' hb => ?_,fun w' hb => ?_,kM,kM2,fun w' v u => k'su S v u w',fun w' v u => k'su M v u w',fun w' hb => wp w' v1 (h1.below hb),fun w' hb => wq w' v2 (h2.below hb),wS,wM,
  k'sx fp.sn fp.sd fp.pos,k'sx fq.sn fq.sd fq.pos,k'sx fS.sn fS.sd fS.pos,k'sx fM.sn fM.sd fM.pos,k'sy fp.sn fp.sd,k'sy fq.sn fq.sd,k'sy fS.sn fS.sd,k'sy fM.sn fM.sd,
  fun w' u1 u2 u3 u4 r1 r2 r3 r4 => k'jg N1 D1 N2 D2 u1 u2 u3 u4 w' k hkl.1 o1 o2 o3 o4 fp.pos fq.pos r1 r2 r3 r4,fun w' u1 u2 u3 u4 r1 r2 r3 r4 => ?_,
  fun w' u1 u2 u3 u4 r1 r2 r3 r4 => k'jf N1 D1 N2 D2 u1 u2 u3 u4 w' k hkl.1 o1 o2 o3 o4 fp.pos fq.pos r1 r2 r3 r4,fun w' u1 u2 u3 u4 r1 r2 r3 r4 => ?_,
  kG,fun w' => k'lj (-2) w' (by decide) (by decide),fun w' hb => ?_,kG2,fun w' v u => k'su G v u w',?_⟩
 ·have := k'qv (h1.below hb) (h2.below hb) hp hq (n := 16) (by omega) s1 s2
  rwa [hTs] at this
 ·have := k'qv (h2.below hb) (h1.below hb) hq hp (n := 16) (by omega) s2 s1
  rwa [hSc] at this
 ·have := k'je _ _ N3 D3 u1 u2 u3 u4 w' k2 hkl.2.1 zA zB (k'sz o5 hkl.2.2) (k'sz o6 hkl.2.2) r1 r2 r3 r4
  rwa [e1] at this
 ·have := k'je _ _ N4 D4 u1 u2 u3 u4 w' k2 hkl.2.1 zC zD (k'sz o7 hkl.2.2) (k'sz o8 hkl.2.2) r1 r2 r3 r4
  rwa [e2] at this
 ·have := k'nw p v1 (-2) w' (h1.below hb) hp (k'll ⟨by decide,by decide⟩) (by
   have := Pl.sm_le p;have : p.length * Pl.mx p ≤ 8 * 2 ^ 64 := Nat.mul_le_mul l1 (by omega)
   refine Nat.lt_of_lt_of_le (m := 2 ^ 70) ?_ (k'lb (by decide))
   have : (-2 : Int).natAbs = 2 := rfl;rw [this];omega)
  rwa [hT] at this
 ·have kR1 := fun (h0 : G ≠ []) w' v (hb : Below w.heap.size w w') (hv : Rp w' v G) => k'hy p G v1 v w' (h1.below hb) hv hp vG (k't5 hp vG l1 lG h0 x1 mG rG dG1)
  have kR2 := fun (h0 : G ≠ []) w' v (hb : Below w.heap.size w w') (hv : Rp w' v G) => k'hy q G v2 v w' (h2.below hb) hv hq vG (k't5 hq vG l2 lG h0 x2 mG rG dG2);by_cases h0 : G = []
  ·obtain ⟨rfl,rfl⟩ := hNil h0
   exact Or.inl ⟨rfl,rfl,h0⟩
  ·obtain ⟨t1,t2⟩ := hRest h0
   rw [t1] at kR1;rw [t2] at kR2;have hgl := List.length_pos_iff.2 h0;by_cases hq0 : q = []
   ·exact Or.inr (Or.inl ⟨by rw [hq0]; rfl,hgl,kR1 h0,kR2 h0⟩)
   ·refine Or.inr (Or.inr ⟨by rw [k'e0]; exact List.length_pos_iff.2 hq0,hgl,fun w' v hb hv => ?_,fun w' v hv hb => k'su p v v1 w' hv (h1.below hb),kR1 h0,kR2 h0⟩)
    have hcd : ckd (zl M) (zl q) = 0 := by
     have c2 := k'h9 (zl q);unfold ckd;rw [vM.ok,hq.ok,show (true && true) = true from rfl,if_pos rfl,k'e0,k'e0,if_neg (by have := List.length_pos_iff.2 hq0; omega),if_neg]
     intro ⟨x,y⟩;have : ((M.length : Int) - (q.length : Int) + 1) * (glb (zl q) + 1) ≤ 16 * (glb (zl q) + 1) := Int.mul_le_mul_of_nonneg_right (by omega) (by omega)
     omega
    refine (k'ly M q v v2 w' hv (h2.below hb) vM hq hcd).mono fun e w'' h => ?_;have hd := hMd hq0;rcases h with ⟨t,ht,h⟩ | ⟨ht,-⟩
    ·have := ht.symm.trans hd
     injection this with this;rwa [this] at h
    ·exact absurd (ht.symm.trans hd) (by simp)
theorem k't8 (L1 L2 : List (Bool × ByteArray)) (v1 v2 : Value) (b1 b2 : Bool) (s1 s2 : ByteArray) (w : World) (h1 : Rw w v1 L1) (h2 : Rw w v2 L2) (y1 : Lim L1) (y2 : Lim L2) (z1 : s1.size ≤ 9223372036854775807) (z2 : s2.size ≤ 9223372036854775807) :
 Calls Tryz.prog 10 #[v1,v2,.agg #[.bool b1,.string s1,.bool b2,.string s2]] w (Ret (.bool true) w) := by
 have HS := fun w' (hb : Below w.heap.size w w') => k'nr (h1.below hb) (h2.below hb) y1 y2 _ rfl
 cases hs : (shP L1 && shP L2) with
 | false =>
  rw [hs] at HS;exact k'o2 L1 L2 v1 v2 b1 b2 s1 s2 w h1 h2 z1 z2 HS
 | true =>
  rw [hs] at HS;have hs' := hs;rw [Bool.and_eq_true] at hs';obtain ⟨g1,g2⟩ := hs';by_cases c1 : L1.length ≤ 8
  ·by_cases c2 : L2.length ≤ 8
   ·have HV := fun w' (hb : Below w.heap.size w w') => k'ns (h1.below hb) (h2.below hb) (k'fk g1) (k'fk g2) _ rfl
    cases hv : (vldP L1 && vldP L2) with
    | false =>
     rw [hv] at HV;exact k'o5 L1 L2 v1 v2 b1 b2 s1 s2 w h1 h2 z1 z2 c1 c2 HS HV
    | true =>
     rw [hv] at HV;by_cases c5 : s1.size ≤ 8
     ·by_cases c6 : s2.size ≤ 8
      ·have HW := fun w' => k'jh b1 b2 s1 s2 w' (by omega) (by omega)
       cases hr : vldR b1 s1 b2 s2 with
       | false =>
        rw [hr] at HW;exact k'o6 L1 L2 v1 v2 b1 b2 s1 s2 w h1 h2 z1 z2 c1 c2 HS HV HW
       | true =>
        rw [hr] at HW;refine k'pw L1 L2 v1 v2 b1 b2 s1 s2 w h1 h2 z1 z2 c1 c2 c5 c6 y1 y2 HS HV HW (fun m1 m2 => ?_);rw [Bool.and_eq_true] at hv;obtain ⟨p,hp,rfl⟩ := VP.of hv.1;obtain ⟨q,hq,rfl⟩ := VP.of hv.2;rw [k'e0] at c1 c2;obtain ⟨u1,u2,u3⟩ := k'sb hr;have e1 := k'ac u1;have e2 := k'ac u2;have f1 := k'rb u1 (by omega) rfl
        have f2 := k'rb u2 (by omega) rfl
        generalize sg b1 (bv s1) = X at *;generalize sg b2 (bv s2) = Y at *;obtain ⟨rfl,rfl⟩ := e1;obtain ⟨rfl,rfl⟩ := e2;exact k't7 p q v1 v2 X Y w h1 h2 hp hq g1 g2 c1 c2 (k'rg m1) (k'rg m2) hr u3 (by omega) (by omega) f1 f2
      ·have HW := fun w' => k'sp b1 b2 s1 s2 w' z1 z2
       cases hr : vldR b1 s1 b2 s2 with
       | false =>
        rw [hr] at HW;exact k'o6 L1 L2 v1 v2 b1 b2 s1 s2 w h1 h2 z1 z2 c1 c2 HS HV HW
       | true =>
        rw [hr] at HW;exact k'o8 L1 L2 v1 v2 b1 b2 s1 s2 w h1 h2 z1 z2 c1 c2 c5 (by omega) HS HV HW
     ·have HW := fun w' => k'sp b1 b2 s1 s2 w' z1 z2
      cases hr : vldR b1 s1 b2 s2 with
      | false =>
       rw [hr] at HW;exact k'o6 L1 L2 v1 v2 b1 b2 s1 s2 w h1 h2 z1 z2 c1 c2 HS HV HW
      | true =>
       rw [hr] at HW;exact k'o7 L1 L2 v1 v2 b1 b2 s1 s2 w h1 h2 z1 z2 c1 c2 (by omega) HS HV HW
   ·exact k'o4 L1 L2 v1 v2 b1 b2 s1 s2 w h1 h2 z1 z2 c1 (by omega) HS
  ·exact k'o3 L1 L2 v1 v2 b1 b2 s1 s2 w h1 h2 z1 z2 (by omega) HS
end Go.Proofs.YtepddegphdlbeaaGreat
namespace Go.Proofs.YtepddegphdlbeaaGreat
open Go.ChangeShapes Go.WideShapes Go.ChangeAt Go.RowKit Go.Joins
open Go.ChangeMaps (open_string shut_string)
theorem Tryz.own : ownKnob Tryz.prog.godebug = none := by kernel_rfl
theorem Tryz.cellsWide : Tryz.prog.cellsOf 44 = 2 := by kernel_rfl
theorem k'ta {H : Type} {enc : TypeId × Value → H} {w : World} {base : Nat} {spare : Nat → Bool} {held : Bool} {a : Bool} {s : ByteArray} (hs : s.size ≤ maxLen) :
 DataW.Trod enc Tryz.prog w base spare held 44 (.agg #[.bool a,.string s]) (.agg [.lit (.bool a),.lit (.string s.data.toList)]) [] :=
 shut_agg2 (y0 := (.lit (.bool a),[])) (y1 := (.lit (.string s.data.toList),[])) Tryz.underlying44 (by kernel_rfl) Tryz.cellsWide ⟨1,by simp [DataW.trod,Tryz.underlying4]⟩ ⟨1,by simp [DataW.trod,Tryz.underlying9,hs]⟩
theorem Tryz.cellsRatio : Tryz.prog.cellsOf 59 = 4 := by kernel_rfl
end Go.Proofs.YtepddegphdlbeaaGreat
namespace Go.Proofs.YtepddegphdlbeaaGreat
open Go.ChangeShapes Go.WideShapes Go.ChangeAt Go.RowKit Go.Joins Go.Deep
open Go.ChangeMaps (open_string shut_string)
theorem k'tb {α : Type} [Inhabited α] {m : Nat} {P : Nat → α → Prop} (h : ∀ i,i < m → ∃ x,P i x) : ∃ f : Nat → α,∀ i,i < m → P i (f i) :=
 ⟨fun i => if hi : i < m then (h i hi).choose else default,fun i hi => by show P i (dite _ _ _); rw [dif_pos hi]; exact (h i hi).choose_spec⟩
theorem k'tc {H : Type} {enc : TypeId × Value → H} {W : World} {b0 : Nat} {r : Reach} {v : Value} {d : DataW H} {p : List MemPlace}
 (hv : Value.okWide Tryz.prog W r b0 23 v) (h : DataW.Trod enc Tryz.prog W 0 (fun _ => true) true 23 v d p) :
 ∃ L : List (Bool × ByteArray),Rw W v L ∧ Lim L ∧ ∀ W',Below W.heap.size W W' → DataW.Trod enc Tryz.prog W' 0 (fun b => decide (b < W.heap.size)) true 23 v d p := by
 have hu := Tryz.underlying23;have he := Tryz.underlying44;have c2 : Tryz.prog.cellsOf 44 = 2 := Tryz.cellsWide;have cb : Tryz.prog.cellsOf 4 = 1 := by kernel_rfl
 have cs : Tryz.prog.cellsOf 9 = 1 := by kernel_rfl
 obtain ⟨a0,len0,cap0,rfl⟩ := okWide_slice hu hv;obtain ⟨fuel,hf⟩ := h;rcases open_slice_pairs hu he c2 rfl rfl cb cs hf with ⟨hcs,hx⟩ | ⟨a,len,cap,m,n,V0,V1,D0,D1,P0,P1,hcs,hb,hl,hm,hmm,hx,hall⟩
 ·simp [Value.cells] at hcs
  obtain ⟨rfl,rfl,rfl⟩ := hcs;simp only [Prod.mk.injEq] at hx;obtain ⟨rfl,rfl⟩ := hx;exact ⟨[],Rw.nil W,fun x hx => (nomatch hx),fun W' _ => shut_slice_nil hu⟩
 ·simp [Value.cells] at hcs
  obtain ⟨rfl,rfl,rfl⟩ := hcs;simp only [if_true] at hmm;subst hmm;simp only [Prod.mk.injEq] at hx;obtain ⟨rfl,rfl⟩ := hx;rcases Nat.eq_zero_or_pos m with h0 | h0
  ·subst h0
   have hl0 : len0 = 0 := by omega
   subst hl0;refine ⟨[],⟨some a,0,0,0,rfl,Nat.le_refl _,hm,fun h => absurd rfl h,fun k h => absurd h (by simp)⟩,fun x hx => (nomatch hx),fun W' _ => ?_⟩
   have hno : ∀ i,i < 0 → False := fun i hi => absurd hi (Nat.not_lt_zero _)
   cases hsp : decide (a.block < W.heap.size) with
   | true =>
    obtain ⟨n,key⟩ := shut_slice_whole_cells (enc := enc) (w := W') (base := 0) (spare := fun b => decide (b < W.heap.size)) (held := true) (a := a) (len := 0) (cap := 0) hu (Nat.zero_le _) (Nat.le_refl _) hm hsp (fun i => .agg [D0 i,D1 i]) (fun i => P0 i ++ P1 i) (fun i hi => (hno i hi).elim);exact ⟨n,by simpa [Value.cells,MemPlace.row] using key⟩
   | false =>
    obtain ⟨n,key⟩ := shut_slice_cells (enc := enc) (w := W') (base := 0) (spare := fun b => decide (b < W.heap.size)) (held := true) (a := a) (len := 0) (cap := 0) hu (Nat.zero_le _) (Nat.le_refl _) hm hsp (fun i => .agg [D0 i,D1 i]) (fun i => P0 i ++ P1 i) (fun i hi => (hno i hi).elim);exact ⟨n,by simpa [Value.cells,MemPlace.row] using key⟩
  ·obtain ⟨ab,ao,spot⟩ := a
   have hspot : spot = none := by simpa [Addr.add] using World.cell?_spot (hall 0 h0).1
   subst hspot;have hboth : ∀ i,i < m → ∃ q : Bool × ByteArray,V0 i = .bool q.1 ∧ V1 i = .string q.2 ∧ D0 i = .lit (.bool q.1) ∧ D1 i = .lit (.string q.2.data.toList) ∧ P0 i = [] ∧ P1 i = [] ∧ q.2.size ≤ maxLen := fun i hi => by
    obtain ⟨x,e0,e1⟩ := DataW.trod_bool Tryz.underlying4 (hall i hi).2.2.1;obtain ⟨s,e2,e3,hs⟩ := DataW.trod_string Tryz.underlying9 (hall i hi).2.2.2;simp at e0 e2;simp only [Prod.mk.injEq] at e1 e3;exact ⟨(x,s),e0,e2,e1.1,e3.1,e1.2,e3.2,hs⟩
   obtain ⟨q,hq⟩ := k'tb hboth;have hlt : ab < W.heap.size := by
    have := World.block_lt_of_cell? W _ (hall 0 h0).1;simpa [Addr.add] using this
   refine ⟨(List.range len0).map q,⟨some ⟨ab,ao,none⟩,ab,ao,m,by simp,by simpa using hl,hm,fun _ => rfl,fun k hk => ?_⟩,fun x hx => ?_,fun W' hb' => ?_⟩
   ·have hk' : k < len0 := by simpa using hk
    have h1 := (hall k (by omega)).1
    have h2 := (hall k (by omega)).2.1
    rw [(hq k (by omega)).1] at h1
    rw [(hq k (by omega)).2.1] at h2
    rw [add_plain] at h1 h2;simp only [List.getElem_map,List.getElem_range];exact ⟨h1,by simpa [Nat.add_assoc] using h2⟩
   ·obtain ⟨i,hi,rfl⟩ := List.mem_map.1 hx
    have hi' := List.mem_range.1 hi;have := (hq i (by omega)).2.2.2.2.2.2
    unfold maxLen at this;omega
   ·have key := shut_slice_pairs_whole (enc := enc) (w := W') (base := 0) (spare := fun b => decide (b < W.heap.size)) (held := true) hu he c2 rfl rfl cb cs (b := ab) (off := ao) (len := len0) (cap := m) (Nat.zero_le _) hl hm (by simpa using hlt)
     V0 V1 D0 D1 P0 P1
     (fun i hi => by have h1 := (hall i hi).1; rw [add_plain] at h1; exact k'e hb' h1)
     (fun i hi => by have h1 := (hall i hi).2.1; rw [add_plain] at h1; exact k'e hb' (by simpa [Nat.add_assoc] using h1))
     (fun i hi => by
      obtain ⟨e1,e2,e3,e4,e5,e6,e7⟩ := hq i hi;exact ⟨1,by rw [e1,e3,e5]; simp [DataW.trod,Tryz.underlying4]⟩)
     (fun i hi => by
      obtain ⟨e1,e2,e3,e4,e5,e6,e7⟩ := hq i hi;exact ⟨1,by rw [e2,e4,e6]; simp [DataW.trod,Tryz.underlying9,e7]⟩)
    obtain ⟨n,key⟩ := key;exact ⟨n,by simpa [Value.cells] using key⟩
end Go.Proofs.YtepddegphdlbeaaGreat
