/- What the theorem leans on, part Y10. -/
import Derived.Test.YtepddegphdlbeaaGreatY9
import Derived.Test.YtepddegphdlbeaaGreatY3
import Derived.Test.YtepddegphdlbeaaGreatY2
import Derived.Test.YtepddegphdlbeaaGreatY1
import Derived.Test.YtepddegphdlbeaaGreatY0
import Derived.Test.YtepddegphdlbeaaGreatProg
import Derived.WalkKit
import Derived.WalkSpells
import Derived.WalkLawsBesides
import Derived.Lib.Hide
import Derived.Deep.QuietTactic
import Derived.BigQuiet
import Derived.Shelf.Small.Bits
import Derived.Shelf.Small.Wraps
import Derived.Shelf.Strconv.Itoa0
import Derived.Shelf.Bits.Mul64
import Derived.Ground.Names2Prog
import Derived.Shelf.Slices.SearchI
import Derived.Shelf.Spec.BitsCarry
import Derived.Deep.LoopGhost
import Derived.Deep.RegionHeld3
import Derived.Test.YtepddegphdlbeaaGreatY8
import Derived.Deep.DeepCutAuto
import Derived.Test.YtepddegphdlbeaaGreatY7
import Derived.Test.YtepddegphdlbeaaGreatY4
import Derived.Test.YtepddegphdlbeaaGreatY6
import Derived.Test.YtepddegphdlbeaaGreatY5
import Derived.Laws.AppendOwnNone
set_option maxRecDepth 100000
set_option maxHeartbeats 16000000
set_option linter.all false
namespace Go.Proofs.YtepddegphdlbeaaGreat
open Go.RowKit
def SB (w : World) (g u0 v0 u1 v1 : Nat) (ev : Bool) : Prop := w.heap[g]? = some (.cells #[.int .u64 (u0 : Int),.int .u64 (v0 : Int),.int .u64 (u1 : Int),.int .u64 (v1 : Int),.bool ev] 177 (0,0))
theorem SB.set {w : World} {g u0 v0 u1 v1 : Nat} {ev : Bool} (h : SB w g u0 v0 u1 v1 ev) (a b c d : Nat) (e : Bool) :
 SB (((((w.setCell ⟨g,0,none⟩ (.int .u64 (a : Int))).setCell ⟨g,2,none⟩ (.int .u64 (b : Int))).setCell ⟨g,1,none⟩ (.int .u64 (c : Int))).setCell ⟨g,3,none⟩ (.int .u64 (d : Int))).setCell ⟨g,4,none⟩ (.bool e)) g a c b d e := by
 have h1 := heap_setCell_same w g 0 _ _ (.int .u64 (a : Int)) h;have h2 := heap_setCell_same _ g 2 _ _ (.int .u64 (b : Int)) h1;have h3 := heap_setCell_same _ g 1 _ _ (.int .u64 (c : Int)) h2;have h4 := heap_setCell_same _ g 3 _ _ (.int .u64 (d : Int)) h3;have h5 := heap_setCell_same _ g 4 _ _ (.bool e) h4;exact h5.trans (by simp)
theorem SB.cells {w : World} {g u0 v0 u1 v1 : Nat} {ev : Bool} (h : SB w g u0 v0 u1 v1 ev) :
 w.cell? ⟨g,0,none⟩ = some (.int .u64 (u0 : Int)) ∧ w.cell? ⟨g,1,none⟩ = some (.int .u64 (v0 : Int)) ∧ w.cell? ⟨g,2,none⟩ = some (.int .u64 (u1 : Int)) ∧ w.cell? ⟨g,3,none⟩ = some (.int .u64 (v1 : Int)) ∧ w.cell? ⟨g,4,none⟩ = some (.bool ev) :=
 ⟨by rw [cell_of_row w g 0 _ _ _ h]; rfl,by rw [cell_of_row w g 1 _ _ _ h]; rfl,by rw [cell_of_row w g 2 _ _ _ h]; rfl,by rw [cell_of_row w g 3 _ _ _ h]; rfl,by rw [cell_of_row w g 4 _ _ _ h]; rfl⟩
theorem SB.free {w : World} {g u0 v0 u1 v1 : Nat} {ev : Bool} (h : SB w g u0 v0 u1 v1 ev) (k : Nat) : w.frozen? ⟨g,k,none⟩ = false := frozen_of_row w g k _ _ h
theorem SB.other {w : World} {g u0 v0 u1 v1 : Nat} {ev : Bool} (h : SB w g u0 v0 u1 v1 ev) (a : Addr) (v : Value) (hn : g ≠ a.block) : SB (w.setCell a v) g u0 v0 u1 v1 ev := (heap_setCell_other w a g v hn).trans h
theorem SB.lt {w : World} {g u0 v0 u1 v1 : Nat} {ev : Bool} (h : SB w g u0 v0 u1 v1 ev) : g < w.heap.size := lt_of_block h
def SPost (x y : Nat) (w : World) (e : Ending) (w' : World) : Prop :=
 ∃ (ev : Bool) (u0 v0 u1 v1 : Nat),e = .returned (.agg #[.int .u64 (u0 : Int),.int .u64 (v0 : Int),.int .u64 (u1 : Int),.int .u64 (v1 : Int),.bool ev]) ∧ (v0 = 0 ∨ LPost x y ev u0 v0 u1 v1) ∧ u0 < W ∧ v0 < W ∧ u1 < W ∧ v1 < W ∧ Below w.heap.size w w'
theorem k'cx {a b : Nat} (h : b ≤ a) (ha : a < W) : IntKind.u64.wrap ((a : Int) - (b : Int)) = ((a - b : Nat) : Int) := by
 rw [← k'1x (a - b) (by omega)]
 congr 1
 omega
theorem k'cy {a b : Nat} (h : a + b < W) : IntKind.u64.wrap ((a : Int) + (b : Int)) = ((a + b : Nat) : Int) := by
 rw [← k'1x (a + b) h]
 congr 1
theorem k'cz {a b : Nat} (h : a * b < W) : IntKind.u64.wrap ((a : Int) * (b : Int)) = ((a * b : Nat) : Int) := by
 rw [← k'1x (a * b) h]
 congr 1
theorem k'd0 (X Y : List Nat) (p1 : Option Addr) (b1 o1 c1 : Nat) (p2 : Option Addr) (b2 o2 c2 m : Nat) (w : World) (hX : X.length = m + 2) (lX : X.length ≤ 1000000000)
 (hp1 : X ≠ [] → p1 = some ⟨b1,o1,none⟩) (hp2 : Y ≠ [] → p2 = some ⟨b2,o2,none⟩)
 (hx : ∀ k (h : k < X.length),w.cell? ⟨b1,o1 + k,none⟩ = some (.int .u64 (X[k] : Int))) (hy : ∀ k (h : k < Y.length),w.cell? ⟨b2,o2 + k,none⟩ = some (.int .u64 (Y[k] : Int)))
 (dX : Nm.Dig W X) (dY : Nm.Dig W Y) (nX : Nm.Nrm X) (nY : Nm.Nrm Y) (hle : Nm.val W Y ≤ Nm.val W X) :
 Calls Tryz.prog 169 #[.slice p1 X.length c1,.slice p2 Y.length c2] w (SPost (Nm.val W X) (Nm.val W Y) w) := by
 have HH := i' (fun w' (b : Below w.heap.size w w') => k'cw X Y p1 b1 o1 c1 p2 b2 o2 c2 m w' hX lX hp1 hp2 (fun k hk => k'e b (hx k hk)) (fun k hk => k'e b (hy k hk)) dX dY nX nY hle);generalize hvx : Nm.val W X = x at *;generalize hvy : Nm.val W Y = y at *;have HLE := i' hle;clear hx hy hp1 hp2 dX dY nX nY hX hvx hvy hle;generalize X.length = nx at *;generalize Y.length = ny at *;obtain ⟨w1,hw1⟩ : ∃ w1 : World,w1 = w.alloc (.cells #[.int .u64 0,.int .u64 0,.int .u64 0,.int .u64 0,.bool false] 177) := ⟨_,rfl⟩;have hb1 : Hid (Below w.heap.size w w1) := by rw [hw1]; exact (Below.refl _ _).alloc (Nat.le_refl _) _
 have hs1 : Hid (w1.heap.size = w.heap.size + 1) := by rw [hw1]; show _ = _; simp
 have hR : Hid (SB w1 w.heap.size 0 0 0 0 false) := by rw [hw1]; exact heap_alloc_new w _
 have Hw1 := i' hw1;clear hw1;go_enter Tryz.func169,Tryz.ntmps169;go_wp2_with fail;rw [← Hw1.out];refine (HH.out _ hb1.out).mono ?_;rintro e w' ⟨⟨nq,rfl⟩,A,B,H,al,be,rfl,hx1,hy1,ha1,hb2,hAW⟩;have hBA := k'cq hx1 hy1 ha1 HLE.out;have HF := i' (And.intro hx1 (And.intro hy1 (And.intro ha1 (And.intro hb2 hBA))));clear hx1 hy1 ha1 hb2 hBA;obtain ⟨wq,hwq⟩ : ∃ wq : World,wq = w1.drewN nq := ⟨_,rfl⟩;have hq1 : Hid (wq.heap.size = w.heap.size + 1) := by rw [hwq]; exact hs1.out
 have hq2 : Hid (Below w.heap.size w wq) := by rw [hwq]; exact k'2w hb1.out nq
 have hq3 : Hid (SB wq w.heap.size 0 0 0 0 false) := by rw [hwq]; exact hR.out
 rw [← hwq];have Hwq := i' hwq;clear hwq;obtain ⟨w2,hw2⟩ : ∃ w2 : World,w2 = wq.alloc (.cells #[.int .u64 0,.int .u64 0,.int .u64 1,.int .u64 0,.bool false] 177) := ⟨_,rfl⟩;have hB2 : Hid (Below w.heap.size w w2) := by rw [hw2]; exact hq2.out.alloc (by have := hq1.out; omega) _
 have hS2 : Hid (SB w2 wq.heap.size 0 0 1 0 false) := by rw [hw2]; exact heap_alloc_new _ _
 have hR2 : Hid (SB w2 w.heap.size 0 0 0 0 false) := by
  rw [hw2];exact (Below.heap_alloc wq _ w.heap.size hq3.out.lt).trans hq3.out
 have Hw2 := i' hw2;clear hw2;go_wp2_with fail;rw [← Hw2.out];clear Hw2 hq2 hq3 hR hs1 hb1 Hwq;obtain ⟨g,hg⟩ : ∃ g,wq.heap.size = g := ⟨_,rfl⟩;obtain ⟨r,hr⟩ : ∃ r,w.heap.size = r := ⟨_,rfl⟩;rw [hg,hr] at hq1;rw [hg] at hS2 ⊢;rw [hr] at hR2 hB2 ⊢;have Hr := i' hr;clear hg hr;go_loopw [5,6,8,9] (fun hv lv uv2 vv2 wr => ∃ (wz : World) (hi lo u0 v0 u1 v1 u2 v2 : Nat) (ev : Bool),wz = wr ∧ hv = .int .u64 (hi : Nat) ∧ lv = .int .u64 (lo : Nat) ∧ uv2 = .int .u64 (u2 : Nat) ∧ vv2 = .int .u64 (v2 : Nat) ∧
  Hid (LInvS x y A B hi lo ev u0 v0 u1 v1 u2 v2) ∧ Hid (u0 < W ∧ v0 < W ∧ u1 < W ∧ v1 < W ∧ u2 < W ∧ v2 < W ∧ hi < W) ∧ Hid (SB wz g u0 v0 u1 v1 ev) ∧ Hid (SB wz r 0 0 0 0 false) ∧ Hid (Below r w wz))
  (fun _ lv _ _ _ => (intOf lv).toNat)
 case atStart =>
  exact ⟨_,A,B,0,0,1,0,0,1,false,rfl,rfl,rfl,rfl,rfl,LInvS.start HF.out.2.2.2.2,⟨by decide,by decide,by decide,by decide,by decide,by decide,hAW⟩,hS2,hR2,hB2⟩
 case round =>
  clear hS2 hR2 hB2;obtain ⟨wz,hi,lo,u0,v0,u1,v1,u2,v2,ev,rfl,rfl,rfl,rfl,rfl,hinv,hbd,hsb,hrb,hbl⟩ := hrel;obtain ⟨k0,k1,k2,k3,k4⟩ := hsb.out.cells;have f0 := hsb.out.free 0;have f1 := hsb.out.free 1;have f2 := hsb.out.free 2;have f3 := hsb.out.free 3;have f4 := hsb.out.free 4;have hlh := hinv.out.2.2.2.2.2.2.2;have hhW := hbd.out.2.2.2.2.2.2;have hrg : r ≠ g := by have := hq1.out; omega
  have hrg2 : r ≤ g := by have := hq1.out; omega
  have hend : Hid (SPost x y w (.returned (.agg #[.int .u64 (u0 : Int),.int .u64 (v0 : Int),.int .u64 (u1 : Int),.int .u64 (v1 : Int),.bool ev])) (((((wz.setCell ⟨r,0,none⟩ (.int .u64 (u0 : Int))).setCell ⟨r,1,none⟩ (.int .u64 (v0 : Int))).setCell ⟨r,2,none⟩ (.int .u64 (u1 : Int))).setCell ⟨r,3,none⟩ (.int .u64 (v1 : Int))).setCell ⟨r,4,none⟩ (.bool ev))) := by
   refine ⟨ev,u0,v0,u1,v1,rfl,hinv.out.1,hbd.out.1,hbd.out.2.1,hbd.out.2.2.1,hbd.out.2.2.2.1,?_⟩;rw [Hr.out];exact (((((hbl.out.setCell (p := ⟨r,0,none⟩) (Nat.le_refl _) _).setCell (p := ⟨r,1,none⟩) (Nat.le_refl _) _).setCell (p := ⟨r,2,none⟩) (Nat.le_refl _) _).setCell (p := ⟨r,3,none⟩) (Nat.le_refl _) _).setCell (p := ⟨r,4,none⟩) (Nat.le_refl _) _)
  have HRC := i' hrb.out.cells;have HRF := i' hrb.out.free;by_cases c1 : v2 ≤ lo
  ·obtain ⟨q1,q2,q3,q4⟩ := hinv.out.small c1 HF.out.2.2.2.2
   obtain ⟨d,hd⟩ : ∃ d,hi - lo = d := ⟨_,rfl⟩;obtain ⟨sv,hsv⟩ : ∃ sv,v1 + v2 = sv := ⟨_,rfl⟩;have m1 := k'cx hlh hhW;have m2 := k'cy (a := v1) (b := v2) (by omega)
   rw [hd] at m1;rw [hsv] at m2;have c1' : (v2 : Int) ≤ (lo : Int) := by omega
   by_cases c2 : v1 + v2 ≤ hi - lo
   ·have c2' : (sv : Int) ≤ (d : Int) := by omega
    have HS := i' (hinv.out.step HF.out.1 HF.out.2.1 HF.out.2.2.1 HF.out.2.2.2.1 c1 c2);have hv2 := hinv.out.2.2.2.2.2.2.1;have h1 : ¬ (lo : Int) = 0 := by omega
    have h2 : 1 ≤ (lo : Int) := by omega
    have h3 : ((lo : Int) == 0) = false := by simp; omega
    have h4 : ((lo : Int) != 0) = true := by simp; omega
    have hlt : Hid (hi % lo < lo) := Nat.mod_lt _ (by omega)
    obtain ⟨q,hq⟩ : ∃ q,hi / lo = q := ⟨_,rfl⟩;obtain ⟨rr,hrr⟩ : ∃ rr,hi % lo = rr := ⟨_,rfl⟩;have hqi : (hi : Int) / (lo : Int) = (q : Int) := by rw [← hq]; simp
    have hri : (hi : Int) % (lo : Int) = (rr : Int) := by rw [← hrr]; simp
    rw [hq,hrr] at HS;rw [hq] at q3 q4;rw [hrr] at hlt;have m0 := k'1x q (by rw [← hq]; exact Nat.lt_of_le_of_lt (Nat.div_le_self _ _) hhW)
    have m3 := k'cz (a := q) (b := u2) (by omega)
    have m4 := k'cz (a := q) (b := v2) (by omega)
    have m5 := k'cy (a := u1) (b := q * u2) (by omega)
    have m6 := k'cy (a := v1) (b := q * v2) (by omega)
    obtain ⟨qu,hqu⟩ : ∃ qu,q * u2 = qu := ⟨_,rfl⟩;obtain ⟨qv,hqv⟩ : ∃ qv,q * v2 = qv := ⟨_,rfl⟩;obtain ⟨nu,hnu⟩ : ∃ nu,u1 + qu = nu := ⟨_,rfl⟩;obtain ⟨nv,hnv⟩ : ∃ nv,v1 + qv = nv := ⟨_,rfl⟩;rw [hqu] at m3 m5 HS q3;rw [hqv] at m4 m6 HS q4;rw [hnu] at m5 HS q3;rw [hnv] at m6 HS q4;have HBD : Hid (u1 < W ∧ v1 < W ∧ u2 < W ∧ v2 < W ∧ nu < W ∧ nv < W ∧ lo < W) := ⟨hbd.out.2.2.1,hbd.out.2.2.2.1,hbd.out.2.2.2.2.1,hbd.out.2.2.2.2.2.1,by omega,by omega,by omega⟩
    clear hqu hqv hnu hnv q1 q2 q3 q4 hd hsv c1 c2 hq hrr;go_wp2_with fail;go_quiet (fail);go_wp2;go_roundw
    case rel =>
     exact ⟨_,lo,rr,u1,v1,u2,v2,nu,nv,!ev,rfl,rfl,by first | rfl | simp only [m0,m3,m4,m5,m6,hri],by first | rfl | simp only [m0,m3,m4,m5,m6,hri],by first | rfl | simp only [m0,m3,m4,m5,m6,hri],HS.out,HBD.out,SB.set (w := wz.drewN nq) hsb.out u1 u2 v1 v2 (!ev),
      ((((SB.other (w := wz.drewN nq) hrb.out _ _ hrg).other _ _ hrg).other _ _ hrg).other _ _ hrg).other _ _ hrg,
      (((((k'2w hbl.out nq).setCell (p := ⟨g,0,none⟩) hrg2 _).setCell (p := ⟨g,2,none⟩) hrg2 _).setCell (p := ⟨g,1,none⟩) hrg2 _).setCell (p := ⟨g,3,none⟩) hrg2 _).setCell (p := ⟨g,4,none⟩) hrg2 _⟩
    case measure => simp only [intOf,hri]; have := hlt.out; omega
   ·have c2' : ¬ (sv : Int) ≤ (d : Int) := by omega
    clear q1 q2 q3 q4 hd hsv c2;obtain ⟨y0,y1,y2,y3,y4⟩ := HRC.out;have z0 := HRF.out 0;have z1 := HRF.out 1;have z2 := HRF.out 2;have z3 := HRF.out 3;have z4 := HRF.out 4;go_wp2;exact bodyPost_ret (v := .agg #[.int .u64 (u0 : Int),.int .u64 (v0 : Int),.int .u64 (u1 : Int),.int .u64 (v1 : Int),.bool ev]) (by simp [results,Tryz.results169,go_sem,y0,y1,y2,y3,y4]) rfl hend.out
  ·have c1' : ¬ (v2 : Int) ≤ (lo : Int) := by omega
   clear c1;obtain ⟨y0,y1,y2,y3,y4⟩ := HRC.out;have z0 := HRF.out 0;have z1 := HRF.out 1;have z2 := HRF.out 2;have z3 := HRF.out 3;have z4 := HRF.out 4;go_wp2;exact bodyPost_ret (v := .agg #[.int .u64 (u0 : Int),.int .u64 (v0 : Int),.int .u64 (u1 : Int),.int .u64 (v1 : Int),.bool ev]) (by simp [results,Tryz.results169,go_sem,y0,y1,y2,y3,y4]) rfl hend.out
theorem Arr.setCells {g : Nat} (xs : List Nat) : ∀ (o : Nat) (w : World) (l : List Nat),Arr w g l → o + xs.length ≤ l.length →
 Arr (w.setCells g o (uv xs)) g (l.take o ++ (xs ++ l.drop (o + xs.length))) ∧ Only g w (w.setCells g o (uv xs)) := by
 induction xs with
 | nil =>
  intro o w l h _;refine ⟨?_,Only.refl g w⟩;show Arr w g _;simpa using h
 | cons x xs ih =>
  intro o w l h hl;simp only [List.length_cons] at hl;have h1 := h.set o x;obtain ⟨h2,h3⟩ := ih (o + 1) _ _ h1 (by simp; omega)
  refine ⟨?_,((Only.refl g w).setCell o _).trans h3⟩;have e : l.take o ++ (x :: xs ++ l.drop (o + (x :: xs).length)) = (l.set o x).take (o + 1) ++ (xs ++ (l.set o x).drop (o + 1 + xs.length)) := by
   rw [List.take_succ_eq_append_getElem (by simp; omega),List.drop_set_of_lt (by omega)]
   simp [List.take_set_of_le,Nat.add_assoc,Nat.add_comm 1]
  rw [e];exact h2
theorem k'd1 {w : World} {ops : Array Oper} {rest : List Oper} {o : Oper} {a : Act} {Q : Exit → Act → World → Prop} (hgd : o.guard = none) (s x : Operand)
 (ho : o.op = .call { callee := .builtin .append,args := #[s,x],argTypes := #[141,141] }) (g N : Nat) (l xs : List Nat) (v : Value) (hs : a.eval s = .slice (some ⟨g,0,none⟩) 0 N) (hA : Arr w g l) (hl : l.length = N)
 (hx : a.eval x = v) (hr : Rd w v xs) (hle : xs.length ≤ N)
 (h : ∀ w',Arr w' g (xs ++ l.drop xs.length) → Only g w w' → wpList Tryz.prog ops Q rest (a.put o.dst (.slice (some ⟨g,0,none⟩) xs.length N)) w') : wpList Tryz.prog ops Q (o :: rest) a w := by
 have hi3 : (Tryz.prog.info? 129).map (fun i => (i.zero,i.size,i.bytes)) = some (some (.int .u64 0),1,8) := by kernel_rfl
 obtain ⟨i0,hi0,hz0,hz1,hz2⟩ := info_parts hi3;obtain ⟨p,b,off,cap,rfl,h2,h3,h4,h5,h6⟩ := hr;refine wpList_plain hgd fun K hK' => ?_;rcases h5 with ⟨rfl,rfl⟩ | ⟨rfl,hb⟩
 ·have hX : xs = [] := List.eq_nil_of_length_eq_zero (by omega)
  subst hX;have hrun : (Builtin.append_ #[141,141] o.type #[.slice (some ⟨g,0,none⟩) 0 N,.slice none 0 0]).run Tryz.prog w = .ok (.slice (some ⟨g,0,none⟩) 0 N) w := by
   simp [Builtin.append_,run_underlying Tryz.underlying141,sizeOf,typeInfo,hi0,Builtin.lenOf,Builtin.firstCells,storeCells]
  unfold Oper.wp;simp [execOp,ho,resolve,invoke,builtin,hs,hx,hrun,Result.andThen];exact hK' _ _ (h w (by simpa using hA) (Only.refl g w))
 ·have hrun := run_append_room_cells (P := Tryz.prog) w 141 o.type 129 i0 Tryz.underlying141 hi0 g 0 0 N ⟨b,off,none⟩ xs.length cap (uv xs) (by rw [k'b,hz1,Nat.mul_one])
   (fun j u hj => by
    have hjl : j < xs.length := by have h7 := (List.getElem?_eq_some_iff.1 hj).1; rwa [k'b] at h7
    rw [k'c xs j hjl] at hj;have hadd : ((⟨b,off,none⟩ : Addr).add j) = ⟨b,off + j,none⟩ := by unfold Addr.add; split <;> simp_all
    rw [hadd,h6 j hjl]; exact hj)
   (fun u hu => by
    simp only [uv,List.mem_map] at hu;obtain ⟨y,_,rfl⟩ := hu;rfl)
   (by omega) (fun j hj => by
    rw [k'b] at hj;rw [hz1];simp only [Nat.zero_mul,Nat.zero_add];rw [hA.cell j (by omega)]; rfl)
   (fun j _ => by rw [hz1]; simp only [Nat.zero_mul,Nat.zero_add]; exact hA.free j)
  rw [hz1] at hrun;simp only [Nat.zero_mul,Nat.zero_add] at hrun;obtain ⟨k1,k2⟩ := Arr.setCells xs 0 w l hA (by omega)
  unfold Oper.wp;simp [execOp,ho,resolve,invoke,builtin,hs,hx,hrun,Result.andThen];refine hK' _ _ (h _ ?_ k2);simpa using k1
theorem Rd.uniq {w : World} {v : Value} {xs ys : List Nat} (h : Rd w v xs) (k : Rd w v ys) : xs = ys := by
 obtain ⟨p,b,off,cap,h1,h2,h3,h4,h5,h6⟩ := h;obtain ⟨q,c,o,cp,k1,k2,k3,k4,k5,k6⟩ := k;rw [h1] at k1;obtain ⟨rfl,hl,rfl⟩ := Value.slice.inj k1;refine List.ext_getElem hl fun i hx hy => ?_;have e1 := h4 (by intro e; rw [e] at hx; exact absurd hx (Nat.not_lt_zero _))
 have e2 := k4 (by intro e; rw [e] at hy; exact absurd hy (Nat.not_lt_zero _))
 rw [e1] at e2;obtain ⟨rfl,rfl⟩ : b = c ∧ off = o := by simpa using e2
 have e3 := h6 i hx;rw [k6 i hy] at e3;have e4 := (Value.int.inj (Option.some.inj e3)).2;omega
open Classical in
noncomputable def numW (w : World) (v : Value) : Nat := if h : ∃ n,Rd w v (Nm.dg W n) then h.choose else 0
theorem k'd2 {w : World} {v : Value} {n : Nat} (h : Rd w v (Nm.dg W n)) : numW w v = n := by
 have hx : ∃ n,Rd w v (Nm.dg W n) := ⟨n,h⟩;unfold numW;rw [dif_pos hx];have e := hx.choose_spec.uniq h;have e2 := congrArg (Nm.val W) e;rwa [Nm.val_dg W2,Nm.val_dg W2] at e2
theorem k'd3 {a b : Nat} (h : a ≤ b) : (Nm.dg W a).length ≤ (Nm.dg W b).length := by
 refine Nm.len_le_of_val W2 (Nm.nrm_dg W2 a) ?_;rw [Nm.val_dg W2];have h1 := Nm.val_lt (Nm.dig_dg W2 b);rw [Nm.val_dg W2] at h1;omega
def NB (w : World) (g N m : Nat) : Prop := (∃ l,Arr w g l ∧ l.length = N ∧ l.take (Nm.dg W m).length = Nm.dg W m) ∧ (Nm.dg W m).length ≤ N
theorem NB.rd {w : World} {g N m : Nat} (h : NB w g N m) (hN : N ≤ 1000000000) : Rd w (.slice (some ⟨g,0,none⟩) (Nm.dg W m).length N) (Nm.dg W m) := by
 obtain ⟨⟨l,h1,h2,h3⟩,h4⟩ := h;have := Rd.of_arr h1 0 (Nm.dg W m).length N (by omega) h4 (by unfold maxLen; omega)
 rwa [List.drop_zero,h3] at this
theorem NB.cells {w : World} {g N m : Nat} (h : NB w g N m) : ∀ k (hk : k < (Nm.dg W m).length),w.cell? ⟨g,0 + k,none⟩ = some (.int .u64 ((Nm.dg W m)[k] : Int)) := by
 obtain ⟨⟨l,h1,h2,h3⟩,h4⟩ := h;intro k hk;rw [Nat.zero_add,h1.cell k (by omega)]
 have : (l.take (Nm.dg W m).length)[k]'(by rw [h3]; exact hk) = (Nm.dg W m)[k] := by simp [h3]
 rw [List.getElem_take] at this;rw [this]
theorem NB.keep {w w' : World} {g N m : Nat} (h : NB w g N m) (he : w'.heap[g]? = w.heap[g]?) : NB w' g N m := by
 obtain ⟨⟨l,h1,h2⟩,h4⟩ := h;exact ⟨⟨l,h1.keep he,h2⟩,h4⟩
theorem NB.lt {w : World} {g N m : Nat} (h : NB w g N m) : g < w.heap.size := by
 obtain ⟨⟨l,h1,h2⟩,h4⟩ := h;exact h1.lt
def FB (w : World) (g N : Nat) : Prop := ∃ l,Arr w g l ∧ l.length = N
theorem FB.keep {w w' : World} {g N : Nat} (h : FB w g N) (he : w'.heap[g]? = w.heap[g]?) : FB w' g N := by
 obtain ⟨l,h1,h2⟩ := h;exact ⟨l,h1.keep he,h2⟩
theorem FB.lt {w : World} {g N : Nat} (h : FB w g N) : g < w.heap.size := by
 obtain ⟨l,h1,h2⟩ := h;exact h1.lt
theorem NB.fb {w : World} {g N m : Nat} (h : NB w g N m) : FB w g N := by
 obtain ⟨⟨l,h1,h2,_⟩,h4⟩ := h;exact ⟨l,h1,h2⟩
structure Four (w : World) (N gx gy gX gY m n : Nat) : Prop where
 x : NB w gx N m
 y : NB w gy N n
 X : FB w gX N
 Y : FB w gY N
 xy : gx ≠ gy
 xX : gx ≠ gX
 xY : gx ≠ gY
 yX : gy ≠ gX
 yY : gy ≠ gY
 XY : gX ≠ gY
theorem Four.below {w w' : World} {N gx gy gX gY m n : Nat} (h : Four w N gx gy gX gY m n) (b : Below w.heap.size w w') : Four w' N gx gy gX gY m n :=
 ⟨h.x.keep (b.block _ h.x.lt),h.y.keep (b.block _ h.y.lt),h.X.keep (b.block _ h.X.lt),h.Y.keep (b.block _ h.Y.lt),h.xy,h.xX,h.xY,h.yX,h.yY,h.XY⟩
theorem Four.euclid {w w' : World} {N gx gy gX gY m n r : Nat} (h : Four w N gx gy gX gY m n) (o : Only gx w w') {l : List Nat} (hl : l.length = N) (ha : Arr w' gx (Nm.dg W r ++ l.drop (Nm.dg W r).length)) (hr : (Nm.dg W r).length ≤ N) : Four w' N gy gx gX gY n r :=
 ⟨h.y.keep (o.block _ (fun e => h.xy e.symm)),⟨⟨_,ha,by simp; omega,by rw [List.take_left]⟩,hr⟩,h.X.keep (o.block _ (fun e => h.xX e.symm)),h.Y.keep (o.block _ (fun e => h.xY e.symm)),fun e => h.xy e.symm,h.yX,h.yY,h.xX,h.xY,h.XY⟩
theorem NB.of_trim {w : World} {g N n p : Nat} {s l : List Nat} (ha : Arr w g (s ++ l.drop n)) (hs : s.length = n) (hn : n ≤ N) (hl : l.length = N) (hd : Nm.Dig W s) (hv : Nm.val W s = p) : NB w g N p := by
 have e : Nm.trimL s = Nm.dg W p := by rw [Nm.trimL_dg W2 hd,hv]
 have h1 := Nm.trimL_le s;have h2 := Nm.trimL_is_take s;rw [e] at h1 h2;refine ⟨⟨_,ha,by simp; omega,?_⟩,by omega⟩
 rw [List.take_append_of_le_length h1];exact h2.symm
theorem Four.lehmer {w a b : World} {N gx gy gX gY m n p q k : Nat} (h : Four w N gx gy gX gY m n) (o1 : Only gX w a) (o2 : Only gY a b) (h1 : NB a gX N p) (h2 : NB b gY N q) : Four b N gX gY gx gy p q :=
 ⟨h1.keep (o2.block _ h.XY),h2,(h.x.fb.keep (o1.block _ h.xX)).keep (o2.block _ h.xY),(h.y.fb.keep (o1.block _ h.yX)).keep (o2.block _ h.yY),h.XY,fun e => h.xX e.symm,fun e => h.yX e.symm,fun e => h.xY e.symm,fun e => h.yY e.symm,h.xy⟩
theorem Four.drew {w : World} {N gx gy gX gY m n : Nat} (h : Four w N gx gy gX gY m n) : Four w.drew N gx gy gX gY m n := ⟨h.x.keep rfl,h.y.keep rfl,h.X.keep rfl,h.Y.keep rfl,h.xy,h.xX,h.xY,h.yX,h.yY,h.XY⟩
theorem Four.drewN {w : World} {N gx gy gX gY m n : Nat} (h : Four w N gx gy gX gY m n) (k : Nat) : Four (w.drewN k) N gx gy gX gY m n := ⟨h.x.keep rfl,h.y.keep rfl,h.X.keep rfl,h.Y.keep rfl,h.xy,h.xX,h.xY,h.yX,h.yY,h.XY⟩
theorem Four.swap {w : World} {N gx gy gX gY m n : Nat} (h : Four w N gx gy gX gY m n) : Four w N gx gy gY gX m n := ⟨h.x,h.y,h.Y,h.X,h.xy,h.xY,h.xX,h.yY,h.yX,fun e => h.XY e.symm⟩
theorem k'd4 {w0 w : World} {N gx gy m n : Nat} (hx : NB w gx N m) (hy : NB w gy N n) (hxy : gx ≠ gy) (hb : Below gx w0 w) :
 let u := ((w.alloc (.cells (uv (List.replicate N 0)).toArray 129)).alloc (.cells (uv (List.replicate N 0)).toArray 129)).drew
 Four u N gx gy w.heap.size (w.heap.size + 1) m n ∧ gx ≤ w.heap.size ∧ gx ≤ w.heap.size + 1 ∧ Below gx w0 u := by
 intro u;obtain ⟨a1,a2,a3⟩ := k'cg w w (Below.refl _ _) (List.replicate N 0) (List.replicate N 0);have kx := hx.lt;have ky := hy.lt;have hl : (List.replicate N 0 : List Nat).length = N := by simp
 refine ⟨Four.drew ⟨hx.keep (a3.block _ kx),hy.keep (a3.block _ ky),⟨_,a1,hl⟩,⟨_,a2,hl⟩,hxy,by omega,by omega,by omega,by omega,by omega⟩,by omega,by omega,?_⟩
 exact (hb.trans (a3.mono (Nat.le_of_lt kx))).drew
theorem Four.wroteX {w w' : World} {N gx gy gX gY m n : Nat} (h : Four w N gx gy gX gY m n) (o : Only gX w w') (f : FB w' gX N) : Four w' N gx gy gX gY m n :=
 ⟨h.x.keep (o.block _ h.xX),h.y.keep (o.block _ h.yX),f,h.Y.keep (o.block _ (fun e => h.XY e.symm)),h.xy,h.xX,h.xY,h.yX,h.yY,h.XY⟩
def DB (w : World) (g N k p : Nat) : Prop := ∃ (s l : List Nat),Arr w g (s ++ l.drop k) ∧ s.length = k ∧ l.length = N ∧ Nm.Dig W s ∧ Nm.val W s = p ∧ k ≤ N
theorem DB.keep {w w' : World} {g N k p : Nat} (h : DB w g N k p) (he : w'.heap[g]? = w.heap[g]?) : DB w' g N k p := by
 obtain ⟨s,l,h1,h2⟩ := h;exact ⟨s,l,h1.keep he,h2⟩
theorem DB.nb {w : World} {g N k p : Nat} (h : DB w g N k p) : NB w g N p := by
 obtain ⟨s,l,h1,h2,h3,h4,h5,h6⟩ := h;exact NB.of_trim h1 h2 h6 h3 h4 h5
theorem DB.trim {w : World} {g N k p : Nat} (h : DB w g N k p) (hN : N ≤ 1000000000) : Calls Tryz.prog 159 #[.slice (some ⟨g,0,none⟩) k N] w fun e w' => e = .returned (.slice (some ⟨g,0,none⟩) (Nm.dg W p).length N) ∧ w = w' := by
 obtain ⟨s,l,h1,h2,h3,h4,h5,h6⟩ := h;have := k'h g 0 N s w (by omega) (by unfold maxLen; omega) fun k hk => by
  rw [Nat.zero_add,h1.cell k (by simp; omega),List.getElem_append_left hk]
 rwa [h2,Nm.trimL_dg W2 h4,h5] at this
theorem k'd5 {w : World} {g ga gb N k a b u v D : Nat} (hA : NB w ga N a) (hB : NB w gb N b) (hF : FB w g N) (na : ga ≠ g) (nb : gb ≠ g) (la : (Nm.dg W a).length ≤ k) (lb : (Nm.dg W b).length ≤ k) (hk : k ≤ N) (hN : N ≤ 1000000000)
 (hD : D + b * v = a * u) (hlt : D < W ^ k) (du : u < W) (dv : v < W) :
 Calls Tryz.prog 170 #[.slice (some ⟨g,0,none⟩) k N,.slice (some ⟨ga,0,none⟩) (Nm.dg W a).length N,.slice (some ⟨gb,0,none⟩) (Nm.dg W b).length N,.int .u64 (u : Int),.int .u64 (v : Int)] w
  (fun e w' => e = .returned (.tuple #[]) ∧ DB w' g N k D ∧ Only g w w') := by
 obtain ⟨l,hl1,hl2⟩ := hF;refine (k'cu l (Nm.dg W a) (Nm.dg W b) g k N (some ⟨ga,0,none⟩) ga 0 N (some ⟨gb,0,none⟩) gb 0 N u v D w hk (by omega) (by omega) la lb (fun _ => rfl) (fun _ => rfl) na nb hl1 hA.cells hB.cells
  (Nm.dig_dg W2 a) (Nm.dig_dg W2 b) du dv (by rw [Nm.val_dg W2,Nm.val_dg W2]; exact hD) hlt).mono ?_
 rintro e w' ⟨rfl,s,h1,h2,h3,h4,h5⟩;exact ⟨rfl,⟨s,l,h4,h1,hl2,h2,h3,hk⟩,h5⟩
def RedPost (G : Nat) (w : World) (e : Ending) (w' : World) : Prop :=
 ∃ v1 v2 m n,e = .returned (.tuple #[v1,v2]) ∧ Rd w' v1 (Nm.dg W m) ∧ Rd w' v2 (Nm.dg W n) ∧ Nat.gcd m n = G ∧ (Nm.dg W n).length ≤ 1 ∧ n ≤ m ∧ (Nm.dg W m).length ≤ 900000000 ∧ Below w.heap.size w w'
theorem k'd6 (v1 v2 : Value) (m0 n0 : Nat) (w : World) (h1 : Rd w v1 (Nm.dg W m0)) (h2 : Rd w v2 (Nm.dg W n0)) (hle : n0 ≤ m0) (l1 : (Nm.dg W m0).length ≤ 900000000) :
 Calls Tryz.prog 154 #[v1,v2] w (RedPost (Nat.gcd m0 n0) w) := by
 obtain ⟨N,hN⟩ : ∃ N,(Nm.dg W m0).length = N := ⟨_,rfl⟩;have l2 := k'd3 hle;have H1 := i' h1;have H2 := i' h2;obtain ⟨G,hG⟩ : ∃ G,Nat.gcd m0 n0 = G := ⟨_,rfl⟩;rw [hG];obtain ⟨p1,b1,o1,c1,rfl,hr1⟩ := h1;obtain ⟨p2,b2,o2,c2,rfl,hr2⟩ := h2;rw [hN] at H1 l1 l2 ⊢;have HM := i' (And.intro hG (And.intro hle (And.intro hN l2)));have mk0 := k'3r N (by omega)
 have mk1 := fun w => k'f N w (by omega)
 clear hr1 hr2 hG hle hN;generalize hM : (Nm.dg W n0).length = M at *;have HMM := i' hM;clear hM;obtain ⟨w1,hw1⟩ : ∃ w1 : World,w1 = w.alloc (.cells (uv (List.replicate N 0)).toArray 129) := ⟨_,rfl⟩;have hb1 : Hid (Below w.heap.size w w1) := by rw [hw1]; exact (Below.refl _ _).alloc (Nat.le_refl _) _
 have ha1 : Hid (Arr w1 w.heap.size (List.replicate N 0)) := by rw [hw1]; exact Arr.made w _
 have Hw1 := i' hw1;clear hw1;go_enter Tryz.func154,Tryz.ntmps154;go_wp2_with (at_builtin; rw [← Hw1.out]; refine k'd1 rfl (.tmp 13) (.tmp 14) rfl w.heap.size N (List.replicate N 0) (Nm.dg W m0) _ rfl ha1.out (by simp) rfl (H1.out.below hb1.out (Nat.le_refl _)) (by have := HM.out.2.2.1; omega) ?_)
 intro w2 har2 ho2;have n2 : Hid (NB w2 w.heap.size N m0) := ⟨⟨_,har2,by simp; have := HM.out.2.2.1; omega,by rw [List.take_left]⟩,by have := HM.out.2.2.1; omega⟩
 have hb2 := i' (ho2.below hb1.out (Nat.le_refl _));have hgt : Hid (w.heap.size < w2.heap.size) := n2.out.lt;clear har2 ho2 ha1 hb1 Hw1;obtain ⟨w3,hw3⟩ : ∃ w3 : World,w3 = w2.alloc (.cells (uv (List.replicate N 0)).toArray 129) := ⟨_,rfl⟩;have hb3 : Hid (Below w.heap.size w w3) := by rw [hw3]; exact hb2.out.alloc hb2.out.size _
 have ha3 : Hid (Arr w3 w2.heap.size (List.replicate N 0)) := by rw [hw3]; exact Arr.made w2 _
 have n3 : Hid (NB w3 w.heap.size N m0) := by rw [hw3]; exact n2.out.keep (Below.heap_alloc w2 _ _ n2.out.lt)
 have Hw3 := i' hw3;clear hw3;go_wp2_with (at_builtin; rw [← Hw3.out]; refine k'd1 rfl (.tmp 18) (.tmp 19) rfl w2.heap.size N (List.replicate N 0) (Nm.dg W n0) _ rfl ha3.out (by simp) rfl (H2.out.below hb3.out (Nat.le_refl _)) (by have := HM.out.2.2.2; have := HM.out.2.2.1; have := HMM.out; omega) ?_)
 intro w4 har4 ho4;have n4 : Hid (NB w4 w2.heap.size N n0) := ⟨⟨_,har4,by simp; have := HM.out.2.2.1; have := HM.out.2.2.2; have := HMM.out; omega,by rw [List.take_left]⟩,by have := HM.out.2.2.1; have := HM.out.2.2.2; have := HMM.out; omega⟩
 have n4x : Hid (NB w4 w.heap.size N m0) := n3.out.keep (ho4.block _ (Nat.ne_of_lt hgt.out));have hb4 := i' (ho4.below hb3.out (Nat.le_of_lt hgt.out));obtain ⟨gx,hgx⟩ : ∃ gx,w.heap.size = gx := ⟨_,rfl⟩;obtain ⟨gy,hgy⟩ : ∃ gy,w2.heap.size = gy := ⟨_,rfl⟩;rw [hgx] at n4x hgt hb4 ⊢;rw [hgy] at n4 hgt ⊢;have HGX := i' hgx;clear har4 ho4 ha3 hb3 Hw3 n3 n2 hb2 hgx hgy;go_wp2;go_cut [6,7] (fun xv yv wx => ∃ gX gY : Nat,xv = .slice (some ⟨gX,0,none⟩) N N ∧ yv = .slice (some ⟨gY,0,none⟩) N N ∧ Hid (Four wx N gx gy gX gY m0 n0 ∧ gx ≤ gX ∧ gx ≤ gY ∧ Below gx w wx))
 case first =>
  rename_i J0 K0 hRJ hMK;go_region
  all_goals
   refine hMK _ _ (Met.intro (hRJ _ _ ?_))
   (repeat apply Exists.intro)
   refine ⟨?_,rfl⟩
   first
    | exact ⟨_,_,rfl,rfl,k'd4 n4x.out n4.out (Nat.ne_of_lt hgt.out) hb4.out⟩
    | exact ⟨_,_,rfl,rfl,(k'd4 n4x.out n4.out (Nat.ne_of_lt hgt.out) hb4.out).1.swap,(k'd4 n4x.out n4.out (Nat.ne_of_lt hgt.out) hb4.out).2.2.1,(k'd4 n4x.out n4.out (Nat.ne_of_lt hgt.out) hb4.out).2.1,(k'd4 n4x.out n4.out (Nat.ne_of_lt hgt.out) hb4.out).2.2.2⟩
 obtain ⟨gX,gY,rfl,rfl,hcut⟩ := hcut;clear n4 n4x hb4 mk0 mk1 H1 H2;go_wp2_with fail;go_loopw [4,5,6,7] (fun xv yv Xv Yv wr => ∃ (wz : World) (gx' gy' gX' gY' m n LX LY : Nat),wz = wr ∧ xv = .slice (some ⟨gx',0,none⟩) (Nm.dg W m).length N ∧ yv = .slice (some ⟨gy',0,none⟩) (Nm.dg W n).length N ∧ Xv = .slice (some ⟨gX',0,none⟩) LX N ∧ Yv = .slice (some ⟨gY',0,none⟩) LY N ∧ LX ≤ N ∧ LY ≤ N ∧
  Hid (Four wz N gx' gy' gX' gY' m n) ∧ Hid (gx ≤ gx' ∧ gx ≤ gy' ∧ gx ≤ gX' ∧ gx ≤ gY') ∧ Hid (Nat.gcd m n = G ∧ n ≤ m) ∧ Hid (Below gx w wz))
  (fun xv yv _ _ wr => numW wr xv + numW wr yv)
 case atStart => exact ⟨_,gx,gy,gX,gY,m0,n0,N,N,rfl,rfl,by rw [HMM.out],rfl,rfl,Nat.le_refl _,Nat.le_refl _,hcut.out.1,⟨Nat.le_refl _,Nat.le_of_lt hgt.out,hcut.out.2.1,hcut.out.2.2.1⟩,⟨HM.out.1,HM.out.2.1⟩,hcut.out.2.2.2⟩
 case round =>
  clear hcut;obtain ⟨wz,gx',gy',gX',gY',m,n,LX,LY,rfl,rfl,rfl,rfl,rfl,hLX,hLY,hf,hg,hgc,hbl⟩ := hrel;obtain ⟨lm,hlm⟩ : ∃ lm,(Nm.dg W m).length = lm := ⟨_,rfl⟩;obtain ⟨ln,hln⟩ : ∃ ln,(Nm.dg W n).length = ln := ⟨_,rfl⟩;have hfx := hf.out.x.2;have hfy := hf.out.y.2;have hmn := k'd3 hgc.out.2;rw [hlm] at hfx hmn ⊢;rw [hln] at hfy hmn ⊢;by_cases h1 : 1 < ln
  ·have h1' : (1 : Int) < (ln : Int) := by omega
   have hS := k'd0 (Nm.dg W m) (Nm.dg W n) (some ⟨gx',0,none⟩) gx' 0 N (some ⟨gy',0,none⟩) gy' 0 N (lm - 2) wz (by omega) (by omega) (fun _ => rfl) (fun _ => rfl) hf.out.x.cells hf.out.y.cells (Nm.dig_dg W2 m) (Nm.dig_dg W2 n) (Nm.nrm_dg W2 m) (Nm.nrm_dg W2 n) (by rw [Nm.val_dg W2,Nm.val_dg W2]; exact hgc.out.2)
   rw [Nm.val_dg W2,Nm.val_dg W2,hlm,hln] at hS;have HS := i' hS;clear hS;have hn0 : 0 < n := by
    rcases Nat.eq_zero_or_pos n with h | h
    ·rw [h,Nm.dg_zero] at hln; simp at hln; omega
    ·exact h
   go_wp2_with fail;refine HS.out.mono ?_;rintro e w5 ⟨ev,u0,v0,u1,v1,rfl,hst,bu0,bv0,bu1,bv1,b5⟩;have b5 := i' b5;obtain ⟨w6,hw6⟩ : ∃ w6 : World,w6 = w5.alloc (.cells #[.int .u64 (u0 : Int),.int .u64 (v0 : Int),.int .u64 (u1 : Int),.int .u64 (v1 : Int),.bool ev] 177) := ⟨_,rfl⟩;have hs6 : Hid (SB w6 w5.heap.size u0 v0 u1 v1 ev) := by rw [hw6]; exact heap_alloc_new w5 _
   have HF6 : Hid (Four w6 N gx' gy' gX' gY' m n) := by rw [hw6]; exact (hf.out.below b5.out).below ((Below.refl w5.heap.size w5).alloc (Nat.le_refl _) _)
   have Hw6 := i' hw6;have HSZ : Hid (gx ≤ wz.heap.size) := Nat.le_trans hg.out.1 (Nat.le_of_lt hf.out.x.lt);have HSZ5 : Hid (gx ≤ w5.heap.size) := Nat.le_trans HSZ.out b5.out.size;have HSZ6 : Hid (gx ≤ w6.heap.size) := by rw [hw6]; exact Nat.le_trans HSZ5.out (by simp)
   have HB6 : Hid (Below gx w w6) := by rw [hw6]; exact (hbl.out.trans (b5.out.mono HSZ.out)).alloc HSZ5.out _
   obtain ⟨k0,k1,k2,k3,k4⟩ := hs6.out.cells;clear hw6 k0 k2 k3 k4 HS;by_cases hv : v0 = 0
   ·have hvj : ((v0 : Int) == 0) = true := by simp [hv]
    clear hv;have HD := i' (k'ck m n hn0 (by omega) (by omega) _ _ w6 (HF6.out.x.rd (by omega)) (HF6.out.y.rd (by omega)))
    rw [hlm,hln] at HD;clear hst;go_wp2_with fail;rw [← Hw6.out];go_wp2_with fail;refine HD.out.mono ?_;rintro e w7 ⟨vq,vr,rfl,hq,hr,b7⟩;have HR := i' hr;have HF7 := i' (HF6.out.below b7);have hrl : (Nm.dg W (m % n)).length ≤ N := by have := k'd3 (Nat.le_of_lt (Nat.mod_lt m hn0)); omega
    obtain ⟨l,hA7,hl7⟩ := HF7.out.x.fb;have HA7 := i' hA7;have HB7 := i' (HB6.out.trans (b7.mono HSZ6.out));clear hq hr b7 hA7 k1;go_wp2_with (at_builtin; refine k'd1 rfl (.tmp 44) (.tmp 45) rfl gx' N l (Nm.dg W (m % n)) _ rfl HA7.out hl7 rfl HR.out hrl ?_);intro w8 har8 ho8;have HF8 := i' (HF7.out.euclid ho8 hl7 har8 hrl);have HB8 := i' (ho8.below HB7.out hg.out.1);have HNUM : Hid (numW w8 (.slice (some ⟨gy',0,none⟩) ln N) + numW w8 (.slice (some ⟨gx',0,none⟩) (Nm.dg W (m % n)).length N) < numW wz (.slice (some ⟨gx',0,none⟩) lm N) + numW wz (.slice (some ⟨gy',0,none⟩) ln N)) := by
     show _ < _;have e1 := HF8.out.x.rd (by omega)
     have e2 := HF8.out.y.rd (by omega)
     rw [hln] at e1;have e3 := hf.out.x.rd (by omega)
     have e4 := hf.out.y.rd (by omega)
     rw [hlm] at e3;rw [hln] at e4;rw [k'd2 e1,k'd2 e2,k'd2 e3,k'd2 e4];have := Nat.mod_lt m hn0;have := hgc.out.2;omega
    have HGG : Hid (Nat.gcd n (m % n) = G ∧ m % n ≤ n) := ⟨by have h5 := hgc.out.1; rw [Nat.gcd_comm,Nat.gcd_rec] at h5; rw [Nat.gcd_comm]; exact h5,Nat.le_of_lt (Nat.mod_lt m hn0)⟩
    clear har8 ho8;go_wp2;go_roundw
    case rel => exact ⟨_,gy',gx',gX',gY',n,m % n,LX,LY,rfl,by rw [hln],rfl,rfl,rfl,hLX,hLY,HF8,⟨hg.out.2.1,hg.out.1,hg.out.2.2.1,hg.out.2.2.2⟩,HGG,HB8⟩
    case measure => exact HNUM.out
   ·have hvi : ¬ (v0 : Int) = 0 := by omega
    have hvj : ((v0 : Int) == 0) = false := by simp; omega
    obtain ⟨p,q,hs,hqp,hpq,hgg⟩ := (hst.resolve_left hv).gcd hv;have hmW := Nm.val_lt (Nm.dig_dg W2 m);rw [Nm.val_dg W2,hlm] at hmW;have HPW : Hid (p < W ^ lm) := by show _ < _; omega
    have HQW : Hid (q < W ^ lm) := by show _ < _; omega
    go_wp2_with fail;rw [← Hw6.out];clear hmW
    cases ev with
    | true =>
     simp only [if_true] at hs;have D1 := i' (fun wA (h : Four wA N gx' gy' gX' gY' m n) => k'd5 (g := gX') (ga := gx') (gb := gy') (k := lm) (u := u0) (v := v0) (D := p) h.x h.y h.X h.xX h.yX (by omega) (by omega) hfx (by omega) (by rw [Nat.mul_comm,Nat.mul_comm m]; exact hs.1) HPW.out bu0 bv0)
     have D2 := i' (fun wA (h : Four wA N gx' gy' gX' gY' m n) => k'd5 (g := gY') (ga := gy') (gb := gx') (k := lm) (u := v1) (v := u1) (D := q) h.y h.x h.Y h.yY h.xY (by omega) (by omega) hfx (by omega) (by rw [Nat.mul_comm,Nat.mul_comm n]; exact hs.2) HQW.out bv1 bu1)
     rw [hlm,hln] at D1 D2;clear hs hst;go_wp2_with fail;go_quiet (fail);obtain ⟨wA,hwA⟩ : ∃ wA : World,wA = w6.drewN nq := ⟨_,rfl⟩;have hfA : Hid (Four wA N gx' gy' gX' gY' m n) := by rw [hwA]; exact HF6.out.drewN nq
     have hbA : Hid (Below w6.heap.size w6 wA) := by rw [hwA]; exact k'2w (Below.refl _ _) nq
     have hsA : Hid (SB wA w5.heap.size u0 v0 u1 v1 true) := by rw [hwA]; exact hs6.out
     rw [← hwA];have HwA := i' hwA;clear hwA k1;obtain ⟨k0,k1,k2,k3,k4⟩ := hsA.out.cells;go_wp2_with fail;refine (D1.out _ hfA.out).mono ?_;rintro e wB ⟨rfl,db,ob⟩;have hfB := i' (hfA.out.wroteX ob db.nb.fb);have DB1 := i' db;have hbB := i' ob;have hsB : Hid (SB wB w5.heap.size u0 v0 u1 v1 true) := (ob.block _ (Ne.symm (Nat.ne_of_lt (Nat.lt_of_lt_of_le hf.out.X.lt b5.out.size)))).trans hsA.out;clear db ob k0 k1 k2 k3 k4;obtain ⟨k0,k1,k2,k3,k4⟩ := hsB.out.cells;go_wp2_with fail;refine (D2.out _ hfB.out).mono ?_;rintro e wC ⟨rfl,db,ob⟩;have DB2 := i' db;have hbC := i' ob;have DB3 := i' (DB1.out.keep (ob.block _ hf.out.XY));have T1 := i' (DB3.out.trim (by omega))
     have T2 := i' (DB2.out.trim (by omega))
     have HF9 := i' (hfA.out.lehmer (k := 0) hbB.out hbC.out DB1.out.nb DB2.out.nb);have HB9 : Hid (Below gx w wC) := hbC.out.below (hbB.out.below (HB6.out.trans (hbA.out.mono HSZ6.out)) hg.out.2.2.1) hg.out.2.2.2;have HNUM : Hid (numW wC (.slice (some ⟨gX',0,none⟩) (Nm.dg W p).length N) + numW wC (.slice (some ⟨gY',0,none⟩) (Nm.dg W q).length N) < numW wz (.slice (some ⟨gx',0,none⟩) lm N) + numW wz (.slice (some ⟨gy',0,none⟩) ln N)) := by
      show _ < _;rw [k'd2 (HF9.out.x.rd (by omega)),k'd2 (HF9.out.y.rd (by omega)),← hlm,← hln,k'd2 (hf.out.x.rd (by omega)),k'd2 (hf.out.y.rd (by omega))]
      omega
     clear db ob k0 k1 k2 k3 k4 D1 D2 DB1 DB2 hbB hbC;go_wp2_with fail;refine T1.out.mono ?_;rintro e w' ⟨rfl,rfl⟩;go_wp2_with fail;refine T2.out.mono ?_;rintro e w' ⟨rfl,rfl⟩;go_wp2;go_roundw
     case rel => exact ⟨_,gX',gY',gx',gy',p,q,lm,ln,rfl,rfl,rfl,rfl,rfl,hfx,hfy,HF9,⟨hg.out.2.2.1,hg.out.2.2.2,hg.out.1,hg.out.2.1⟩,⟨hgg.trans hgc.out.1,hqp⟩,HB9⟩
     case measure => exact HNUM.out
    | false =>
     simp only [Bool.false_eq_true,if_false] at hs;have D1 := i' (fun wA (h : Four wA N gx' gy' gX' gY' m n) => k'd5 (g := gX') (ga := gy') (gb := gx') (k := lm) (u := v0) (v := u0) (D := p) h.y h.x h.X h.yX h.xX (by omega) (by omega) hfx (by omega) (by rw [Nat.mul_comm,Nat.mul_comm n]; exact hs.1) HPW.out bv0 bu0)
     have D2 := i' (fun wA (h : Four wA N gx' gy' gX' gY' m n) => k'd5 (g := gY') (ga := gx') (gb := gy') (k := lm) (u := u1) (v := v1) (D := q) h.x h.y h.Y h.xY h.yY (by omega) (by omega) hfx (by omega) (by rw [Nat.mul_comm,Nat.mul_comm m]; exact hs.2) HQW.out bu1 bv1)
     rw [hlm,hln] at D1 D2;clear hs hst;go_wp2_with fail;go_quiet (fail);obtain ⟨wA,hwA⟩ : ∃ wA : World,wA = w6.drewN nq := ⟨_,rfl⟩;have hfA : Hid (Four wA N gx' gy' gX' gY' m n) := by rw [hwA]; exact HF6.out.drewN nq
     have hbA : Hid (Below w6.heap.size w6 wA) := by rw [hwA]; exact k'2w (Below.refl _ _) nq
     have hsA : Hid (SB wA w5.heap.size u0 v0 u1 v1 false) := by rw [hwA]; exact hs6.out
     rw [← hwA];have HwA := i' hwA;clear hwA k1;obtain ⟨k0,k1,k2,k3,k4⟩ := hsA.out.cells;go_wp2_with fail;refine (D1.out _ hfA.out).mono ?_;rintro e wB ⟨rfl,db,ob⟩;have hfB := i' (hfA.out.wroteX ob db.nb.fb);have DB1 := i' db;have hbB := i' ob;have hsB : Hid (SB wB w5.heap.size u0 v0 u1 v1 false) := (ob.block _ (Ne.symm (Nat.ne_of_lt (Nat.lt_of_lt_of_le hf.out.X.lt b5.out.size)))).trans hsA.out;clear db ob k0 k1 k2 k3 k4;obtain ⟨k0,k1,k2,k3,k4⟩ := hsB.out.cells;go_wp2_with fail;refine (D2.out _ hfB.out).mono ?_;rintro e wC ⟨rfl,db,ob⟩;have DB2 := i' db;have hbC := i' ob;have DB3 := i' (DB1.out.keep (ob.block _ hf.out.XY));have T1 := i' (DB3.out.trim (by omega))
     have T2 := i' (DB2.out.trim (by omega))
     have HF9 := i' (hfA.out.lehmer (k := 0) hbB.out hbC.out DB1.out.nb DB2.out.nb);have HB9 : Hid (Below gx w wC) := hbC.out.below (hbB.out.below (HB6.out.trans (hbA.out.mono HSZ6.out)) hg.out.2.2.1) hg.out.2.2.2;have HNUM : Hid (numW wC (.slice (some ⟨gX',0,none⟩) (Nm.dg W p).length N) + numW wC (.slice (some ⟨gY',0,none⟩) (Nm.dg W q).length N) < numW wz (.slice (some ⟨gx',0,none⟩) lm N) + numW wz (.slice (some ⟨gy',0,none⟩) ln N)) := by
      show _ < _;rw [k'd2 (HF9.out.x.rd (by omega)),k'd2 (HF9.out.y.rd (by omega)),← hlm,← hln,k'd2 (hf.out.x.rd (by omega)),k'd2 (hf.out.y.rd (by omega))]
      omega
     clear db ob k0 k1 k2 k3 k4 D1 D2 DB1 DB2 hbB hbC;go_wp2_with fail;refine T1.out.mono ?_;rintro e w' ⟨rfl,rfl⟩;go_wp2_with fail;refine T2.out.mono ?_;rintro e w' ⟨rfl,rfl⟩;go_wp2;go_roundw
     case rel => exact ⟨_,gX',gY',gx',gy',p,q,lm,ln,rfl,rfl,rfl,rfl,rfl,hfx,hfy,HF9,⟨hg.out.2.2.1,hg.out.2.2.2,hg.out.1,hg.out.2.1⟩,⟨hgg.trans hgc.out.1,hqp⟩,HB9⟩
     case measure => exact HNUM.out
  ·have h1' : ¬ (1 : Int) < (ln : Int) := by omega
   have HE : Hid (RedPost G w (.returned (.tuple #[.slice (some ⟨gx',0,none⟩) lm N,.slice (some ⟨gy',0,none⟩) ln N])) wz) := by
    have e3 := hf.out.x.rd (by omega)
    have e4 := hf.out.y.rd (by omega)
    rw [hlm] at e3;rw [hln] at e4;exact ⟨_,_,m,n,rfl,e3,e4,hgc.out.1,by omega,hgc.out.2,by omega,by rw [HGX.out]; exact hbl.out⟩
   go_wp2;go_ret2;exact HE.out
theorem k'd7 (v1 v2 : Value) (m n : Nat) (w : World) (sw : Bool) (h1 : Rd w v1 (Nm.dg W m)) (h2 : Rd w v2 (Nm.dg W n)) (l1 : (Nm.dg W m).length ≤ 900000000) (hm : n ≤ m) (hsw : sw = true → n < m) (hn : 1 < (Nm.dg W n).length) :
 Calls Tryz.prog 143 (if sw = true then #[v2,v1] else #[v1,v2]) w (Gives (Nat.gcd m n) w) := by
 have l2 := k'd3 hm;have HC1 := k'2v v1 v2 _ _ w h1 h2 (by omega) (by omega) (Nm.dig_dg W2 m) (Nm.dig_dg W2 n) (Nm.nrm_dg W2 m) (Nm.nrm_dg W2 n)
 have HC2 := k'2v v2 v1 _ _ w h2 h1 (by omega) (by omega) (Nm.dig_dg W2 n) (Nm.dig_dg W2 m) (Nm.nrm_dg W2 n) (Nm.nrm_dg W2 m)
 rw [Nm.val_dg W2,Nm.val_dg W2] at HC1 HC2;have HRP := i' (fun k => k'd6 v1 v2 m n (w.drewN k) (h1.drewN k) (h2.drewN k) hm l1);obtain ⟨p1,b1,o1,c1,rfl,hr1⟩ := h1;obtain ⟨p2,b2,o2,c2,rfl,hr2⟩ := h2;have l3 := k'd3 hm;clear hr1 hr2;generalize Nat.gcd m n = G at *;have Hcc0 : Hid (∃ cc : Int,((sw = true ∧ cc < 0) ∨ (sw = false ∧ 0 ≤ cc)) ∧ Calls Tryz.prog 151 (if sw = true then #[.slice p2 (Nm.dg W n).length c2,.slice p1 (Nm.dg W m).length c1] else #[.slice p1 (Nm.dg W m).length c1,.slice p2 (Nm.dg W n).length c2]) w (CmpPost cc w)) := by
  cases sw with
  | false => exact ⟨_,Or.inr ⟨rfl,k'2y hm⟩,HC1⟩
  | true => exact ⟨_,Or.inl ⟨rfl,by rw [k'2p (hsw rfl)]; decide⟩,HC2⟩
 clear HC1 HC2 hm hsw;generalize (Nm.dg W m).length = lm at *;generalize (Nm.dg W n).length = ln at *;obtain ⟨cc,hcc,hcall⟩ := Hcc0.out;clear Hcc0 l2 l3;have HC := i' hcall;clear hcall;have hn2 : (1 : Int) < (ln : Int) := by omega
 rcases hcc with ⟨rfl,hcc⟩ | ⟨rfl,hcc⟩
 ·simp only [if_true] at HC ⊢
  go_enter Tryz.func143,Tryz.ntmps143;go_wp2_with fail;refine HC.out.mono ?_;rintro e w' ⟨rfl,k,rfl⟩;go_wp2_with fail;refine (HRP.out k).mono ?_;rintro e w6 ⟨va,vb,m',n',rfl,ha,hb,hg,hl,hle,hlm,hbl⟩;have HA := i' ha;have hbb := i' hbl;have HBl : Hid (Below w.heap.size w w6) := (k'2w (Below.refl _ _) k).trans hbl;obtain ⟨pa,ba,oa,ca,rfl,hra⟩ := ha;rcases Nat.eq_zero_or_pos n' with h0 | h0
  ·subst h0
   rw [Nat.gcd_zero_right] at hg;subst hg;rw [Nm.dg_zero] at hb;obtain ⟨pb,bb,ob,cb,rfl,hrb⟩ := hb;clear hrb hra hbl hle hl hlm;go_wp2;go_ret;exact ⟨_,rfl,HA.out,HBl.out⟩
  ·have hn' : n' < W := by
    have h3 := Nm.val_lt (Nm.dig_dg W2 n');rw [Nm.val_dg W2] at h3;have h4 : W ^ (Nm.dg W n').length ≤ W ^ 1 := Nat.pow_le_pow_right W0 hl;rw [Nat.pow_one] at h4;omega
   have HRm := i' (fun W' (hb : Below w6.heap.size w6 W') => k'2n _ _ n' W' (HA.out.below hb (Nat.le_refl _)) (by omega) (Nm.dig_dg W2 m') hn' h0)
   rw [Nm.val_dg W2] at HRm;have hmod := Nat.mod_lt m' h0;have HCw := i' (fun W' => k'2o n' (m' % n') W' hn' (Nat.lt_trans hmod hn'));have hgcd : Nat.gcd n' (m' % n') = G := by rw [Nat.gcd_comm n',← Nat.gcd_rec,Nat.gcd_comm]; exact hg
   rw [hgcd] at HCw;have hg0 : G ≠ 0 := fun h => by rw [← hg] at h; have := Nat.eq_zero_of_gcd_eq_zero_right h; omega
   have hgW : G < W := by rw [← hg]; exact Nat.lt_of_le_of_lt (Nat.gcd_le_right m' h0) hn'
   have HD := i' (k'5m hg0 hgW);rw [k'5m (by omega) hn'] at hb
   obtain ⟨p3,b3,o3,c3,rfl,_,_,hp3,_,hx3⟩ := hb;obtain rfl := hp3 (by simp)
   have e3 := hx3 0 (by simp)
   simp only [List.getElem_cons_zero,Nat.add_zero,List.length_singleton] at e3;simp only [List.length_singleton];generalize m' % n' = rm at *;clear hp3 hx3 hgcd hg0 hgW hmod hra hbl hg hle hl hlm HC HRP;generalize (Nm.dg W m').length = lm' at *;go_wp2_with fail;go_region_held3 (fun W' => W'.cell? ⟨b3,o3,none⟩ = some (.int .u64 (n' : Int))) (go_keep)
    (first
     | (go_at_call 156; (with_reducible refine (HRm.out _ ?_).mono ?_); (exact k'2w (Below.refl _ _) _); rintro e w1 ⟨rfl,n1,rfl⟩)
     | (go_at_call 155; (with_reducible refine (HCw.out _).mono ?_); rintro e w1 ⟨rfl,n1,rfl⟩))
   go_wp2;go_ret;exact ⟨_,rfl,by rw [HD.out]; exact Rd.one (w6.drewN _) G,(k'2w HBl.out _).alloc (by have := HBl.out.size; exact this) _⟩
 ·simp only [Bool.false_eq_true,if_false] at HC ⊢
  go_enter Tryz.func143,Tryz.ntmps143;go_wp2_with fail;refine HC.out.mono ?_;rintro e w' ⟨rfl,k,rfl⟩;go_wp2_with fail;refine (HRP.out k).mono ?_;rintro e w6 ⟨va,vb,m',n',rfl,ha,hb,hg,hl,hle,hlm,hbl⟩;have HA := i' ha;have hbb := i' hbl;have HBl : Hid (Below w.heap.size w w6) := (k'2w (Below.refl _ _) k).trans hbl;obtain ⟨pa,ba,oa,ca,rfl,hra⟩ := ha;rcases Nat.eq_zero_or_pos n' with h0 | h0
  ·subst h0
   rw [Nat.gcd_zero_right] at hg;subst hg;rw [Nm.dg_zero] at hb;obtain ⟨pb,bb,ob,cb,rfl,hrb⟩ := hb;clear hrb hra hbl hle hl hlm;go_wp2;go_ret;exact ⟨_,rfl,HA.out,HBl.out⟩
  ·have hn' : n' < W := by
    have h3 := Nm.val_lt (Nm.dig_dg W2 n');rw [Nm.val_dg W2] at h3;have h4 : W ^ (Nm.dg W n').length ≤ W ^ 1 := Nat.pow_le_pow_right W0 hl;rw [Nat.pow_one] at h4;omega
   have HRm := i' (fun W' (hb : Below w6.heap.size w6 W') => k'2n _ _ n' W' (HA.out.below hb (Nat.le_refl _)) (by omega) (Nm.dig_dg W2 m') hn' h0)
   rw [Nm.val_dg W2] at HRm;have hmod := Nat.mod_lt m' h0;have HCw := i' (fun W' => k'2o n' (m' % n') W' hn' (Nat.lt_trans hmod hn'));have hgcd : Nat.gcd n' (m' % n') = G := by rw [Nat.gcd_comm n',← Nat.gcd_rec,Nat.gcd_comm]; exact hg
   rw [hgcd] at HCw;have hg0 : G ≠ 0 := fun h => by rw [← hg] at h; have := Nat.eq_zero_of_gcd_eq_zero_right h; omega
   have hgW : G < W := by rw [← hg]; exact Nat.lt_of_le_of_lt (Nat.gcd_le_right m' h0) hn'
   have HD := i' (k'5m hg0 hgW);rw [k'5m (by omega) hn'] at hb
   obtain ⟨p3,b3,o3,c3,rfl,_,_,hp3,_,hx3⟩ := hb;obtain rfl := hp3 (by simp)
   have e3 := hx3 0 (by simp)
   simp only [List.getElem_cons_zero,Nat.add_zero,List.length_singleton] at e3;simp only [List.length_singleton];generalize m' % n' = rm at *;clear hp3 hx3 hgcd hg0 hgW hmod hra hbl hg hle hl hlm HC HRP;generalize (Nm.dg W m').length = lm' at *;go_wp2_with fail;go_region_held3 (fun W' => W'.cell? ⟨b3,o3,none⟩ = some (.int .u64 (n' : Int))) (go_keep)
    (first
     | (go_at_call 156; (with_reducible refine (HRm.out _ ?_).mono ?_); (exact k'2w (Below.refl _ _) _); rintro e w1 ⟨rfl,n1,rfl⟩)
     | (go_at_call 155; (with_reducible refine (HCw.out _).mono ?_); rintro e w1 ⟨rfl,n1,rfl⟩))
   go_wp2;go_ret;exact ⟨_,rfl,by rw [HD.out]; exact Rd.one (w6.drewN _) G,(k'2w HBl.out _).alloc (by have := HBl.out.size; exact this) _⟩
theorem k'd8 (m n : Nat) (l1 : (Nm.dg W m).length ≤ 900000000) (l2 : (Nm.dg W n).length ≤ 900000000) : GcdOK m n := by
 by_cases h : m < W ∨ n < W
 ·exact k'5p m n h (by omega) (by omega)
 ·intro v1 v2 w h1 h2
  have big : ∀ k,¬ k < W → 1 < (Nm.dg W k).length := fun k hk => by
   rcases Nat.lt_or_ge 1 (Nm.dg W k).length with g | g
   ·exact g
   ·have h3 := Nm.val_lt (Nm.dig_dg W2 k)
    rw [Nm.val_dg W2] at h3;have h4 : W ^ (Nm.dg W k).length ≤ W ^ 1 := Nat.pow_le_pow_right W0 g;rw [Nat.pow_one] at h4;omega
  rcases Nat.lt_or_ge m n with g | g
  ·rw [Nat.gcd_comm]
   exact k'd7 v2 v1 n m w true h2 h1 l2 (Nat.le_of_lt g) (fun _ => g) (big m (by omega))
  ·exact k'd7 v1 v2 m n w false h1 h2 l1 g (fun h => by cases h) (big n (by omega))
theorem k'da (a b : Bool) (m n : Nat) : sg (a != b) (m * n) = sg a m * sg b n := by
 cases a <;> cases b <;> simp [sg,Int.neg_mul,Int.mul_neg]
theorem k'db {b : Bool} {n : Nat} : sg b n = 0 ↔ n = 0 := by unfold sg; split <;> omega
theorem k'dc {a b : Bool} {m n : Nat} (h0 : 0 < n) : sg false (er1 a m n) = sg a m % sg b n := by
 have hr := Nat.mod_lt m h0;have hdm := Nat.div_add_mod m n;have hn : sg a m % sg b n = sg a m % (n : Int) := by
  cases b with
  | false => rfl
  | true => show sg a m % (-(n : Int)) = _; rw [Int.emod_neg]
 rw [hn];unfold er1
 cases a with
 | false =>
  rw [if_neg (by simp)]
  simp [sg]
 | true =>
  by_cases hz : m % n = 0
  ·rw [if_neg (by simp [hz])]
   show ((m % n : Nat) : Int) = (-(m : Int)) % (n : Int);rw [hz];have : (n : Int) ∣ -(m : Int) := Int.dvd_neg.2 (Int.natCast_dvd_natCast.2 (Nat.dvd_of_mod_eq_zero hz));rw [Int.emod_eq_zero_of_dvd this]; rfl
  ·rw [if_pos ⟨rfl,hz⟩]
   show ((n - m % n : Nat) : Int) = (-(m : Int)) % (n : Int);have e : -(m : Int) = ((n - m % n : Nat) : Int) + (n : Int) * (-((m / n + 1 : Nat) : Int)) := by
    have h1 : (n : Int) * (-((m / n + 1 : Nat) : Int)) = -((n * (m / n) : Nat) : Int) - n := by push_cast; grind
    rw [h1]; omega
   rw [e,Int.add_mul_emod_self_left,Int.emod_eq_of_lt (by omega) (by omega)]
theorem k'dd {a b : Bool} {m n : Nat} (h0 : 0 < n) : sg (a != b) (eq1 a m n) = sg a m / sg b n := by
 have hr := Nat.mod_lt m h0;have hdm := Nat.div_add_mod m n;have key : sg a m / (n : Int) = sg a (eq1 a m n) := by
  unfold eq1
  cases a with
  | false =>
   rw [if_neg (by simp)]
   simp [sg]
  | true =>
   by_cases hz : m % n = 0
   ·rw [if_neg (by simp [hz])]
    show (-(m : Int)) / (n : Int) = -((m / n : Nat) : Int);have e : -(m : Int) = (n : Int) * (-((m / n : Nat) : Int)) := by
     rw [Int.mul_neg,← Int.natCast_mul]; omega
    rw [e,Int.mul_ediv_cancel_left _ (by omega)]
   ·rw [if_pos ⟨rfl,hz⟩]
    show (-(m : Int)) / (n : Int) = -((m / n + 1 : Nat) : Int);have e : -(m : Int) = ((n - m % n : Nat) : Int) + (n : Int) * (-((m / n + 1 : Nat) : Int)) := by
     have h1 : (n : Int) * (-((m / n + 1 : Nat) : Int)) = -((n * (m / n) : Nat) : Int) - n := by push_cast; grind
     rw [h1]; omega
    rw [e,Int.add_mul_ediv_left _ _ (by omega),Int.ediv_eq_zero_of_lt (by omega) (by omega),Int.zero_add]
 cases b with
 | false =>
  show sg (a != false) _ = sg a m / (n : Int);rw [key]; cases a <;> rfl
 | true =>
  show sg (a != true) _ = sg a m / (-(n : Int));rw [Int.ediv_neg,key]
  cases a <;> simp [sg]
theorem k'de {n k : Nat} (hk : k ≤ 8192) (h : n < 256 ^ k) : n < Top ∧ (Nm.dg D9 n).length ≤ 100000 := ⟨k'b0 (by omega) h,Nat.le_trans (k'a5 h) (by omega)⟩
theorem k'dh {a b : Bool} {s t : ByteArray} (h1 : vld a s = true) (h2 : vld b t = true) (h0 : sg b (bv t) ≠ 0) (w : World) :
 Calls Tryz.prog 144 #[.agg #[.bool a,.string s],.agg #[.bool b,.string t]] w fun e w' => e = .returned (.tuple #[.agg #[.bool (zb (sg a (bv s) / sg b (bv t))),.string (zs (sg a (bv s) / sg b (bv t)))],.agg #[.bool (zb (sg a (bv s) % sg b (bv t))),.string (zs (sg a (bv s) % sg b (bv t)))],.int .i64 0]) ∧ Below w.heap.size w w' := by
 have hn : 0 < bv t := by
  rcases Nat.eq_zero_or_pos (bv t) with g | g
  ·exact absurd (k'db.2 g) h0
  ·exact g
 have h := k'62 a b s t w (k'ck _ _ hn (Nat.le_trans (k'4t (k'4r h1)) (by decide)) (Nat.le_trans (k'4t (k'4r h2)) (by decide))) h1 h2 hn
 unfold Q3Post at h;rwa [k'b2,k'b2,k'dd hn,k'dc (b := b) hn] at h
theorem k'dj {a b : Bool} {s t : ByteArray} (h1 : vld a s = true) (h2 : vld b t = true) (w : World) :
 Calls Tryz.prog 127 #[.agg #[.bool a,.string s],.agg #[.bool b,.string t]] w fun e w' => e = .returned (.tuple #[.agg #[.bool (zb (Nat.gcd (sg a (bv s)).natAbs (sg b (bv t)).natAbs : Nat)),.string (zs (Nat.gcd (sg a (bv s)).natAbs (sg b (bv t)).natAbs : Nat))],.int .i64 0]) ∧ Below w.heap.size w w' := by
 have h := k'5k a b s t w (k'd8 _ _ (Nat.le_trans (k'4t (k'4r h1)) (by decide)) (Nat.le_trans (k'4t (k'4r h2)) (by decide))) h1 h2
 have ht := k'5j (k'4r h1) (k'4r h2);unfold WPost at h;rw [k'44 _ ht,k'45 ht,k'b2] at h;rw [k'bb,k'bb];exact h
theorem zvt {z : Int} (h : z.natAbs < Top) : vld (zb z) (zs z) = true := k'6j h
theorem k'dk (z : Int) : sg (zb z) (bv (zs z)) = z := by rw [k'6k]; exact k'ab z
theorem k'dl (x y : Int) (w : World) (hx : x.natAbs < Top) (hy : y.natAbs < Top) (h : (x + y).natAbs < Top) :
 Calls Tryz.prog 120 #[Z x,Z y] w (Ret (.tuple #[Z (x + y),.int .i64 0]) w) := by
 have h1 := k'4x (zb x) (zb y) (zs x) (zs y) w (zvt hx) (zvt hy);have e : (pls (zb x) (bv (zs x)) (zb y) (bv (zs y))).2 = (x + y).natAbs := by
  rw [← k'bb (pls (zb x) (bv (zs x)) (zb y) (bv (zs y))).1 (pls (zb x) (bv (zs x)) (zb y) (bv (zs y))).2,k'b3,k'dk,k'dk]
 have ht : (pls (zb x) (bv (zs x)) (zb y) (bv (zs y))).2 < Top := by rw [e]; exact h
 unfold WPost at h1;rw [k'44 _ ht,k'45 ht,k'b2,k'b3,k'dk,k'dk] at h1;exact h1
theorem k'dm (x y : Int) (w : World) (hx : x.natAbs < Top) (hy : y.natAbs < Top) (h : (x - y).natAbs < Top) :
 Calls Tryz.prog 121 #[Z x,Z y] w (Ret (.tuple #[Z (x - y),.int .i64 0]) w) := by
 have h1 := k'ay (zb x) (zb y) (zs x) (zs y) w (zvt hx) (zvt hy);have e : (pls (zb x) (bv (zs x)) (!(zb y)) (bv (zs y))).2 = (x - y).natAbs := by
  rw [← k'bb (pls (zb x) (bv (zs x)) (!(zb y)) (bv (zs y))).1 (pls (zb x) (bv (zs x)) (!(zb y)) (bv (zs y))).2,k'b3,k'b5,k'dk,k'dk,Int.sub_eq_add_neg]
 have ht : (pls (zb x) (bv (zs x)) (!(zb y)) (bv (zs y))).2 < Top := by rw [e]; exact h
 unfold WPost at h1;rw [k'44 _ ht,k'45 ht,k'b2,k'b3,k'b5,k'dk,k'dk,← Int.sub_eq_add_neg] at h1;exact h1
theorem k'dn (x y : Int) (w : World) (hx : x.natAbs < Top) (hy : y.natAbs < Top) (h : (x * y).natAbs < Top) :
 Calls Tryz.prog 126 #[Z x,Z y] w (Ret (.tuple #[Z (x * y),.int .i64 0]) w) := by
 have h1 := k'54 (zb x) (zb y) (zs x) (zs y) w (zvt hx) (zvt hy);have ht : bv (zs x) * bv (zs y) < Top := by rw [k'6k,k'6k,← Int.natAbs_mul]; exact h
 unfold WPost at h1;rw [k'44 _ ht,k'45 ht,k'b2,k'da,k'dk,k'dk] at h1;exact h1
theorem k'do (x y : Int) (w : World) (hx : x.natAbs < Top) (hy : y.natAbs < Top) (h0 : y ≠ 0) :
 Calls Tryz.prog 144 #[Z x,Z y] w (Ret (.tuple #[Z (x / y),Z (x % y),.int .i64 0]) w) := by
 have h := k'dh (zvt hx) (zvt hy) (by rw [k'dk]; exact h0) w
 rw [k'dk,k'dk] at h;exact h
theorem k'dp (x : Int) (w : World) (hx : x.natAbs < Top) : Calls Tryz.prog 70 #[Z x] w (Ret (.int .i64 x.sign) w) := by
 have h := k'56 (zb x) (zs x) w (Nat.le_trans (k'4m (zvt hx)) (by decide))
 rw [k'ak (zvt hx),k'dk] at h;exact h
end Go.Proofs.YtepddegphdlbeaaGreat
namespace Go.Proofs.YtepddegphdlbeaaGreat
namespace Pl
def cf (p : List Int) (k : Nat) : Int := p[k]?.getD 0
def ev : List Int → Int → Int
 | [],_ => 0
 | a :: p,x => a + x * ev p x
def trim : List Int → List Int
 | [] => []
 | a :: p => match trim p with
  | [] => if a = 0 then [] else [a]
  | b :: l => a :: b :: l
def Nrm (p : List Int) : Prop := ∀ h : 0 < p.length,p[p.length - 1] ≠ 0
def scl (c : Int) (p : List Int) : List Int := p.map (c * ·)
def add : List Int → List Int → List Int
 | [],q => q
 | a :: p,[] => a :: p
 | a :: p,b :: q => (a + b) :: add p q
def mul : List Int → List Int → List Int
 | [],_ => []
 | a :: p,q => add (scl a q) (0 :: mul p q)
theorem cf_nil (k : Nat) : cf [] k = 0 := by simp [cf]
theorem cf_cons_zero (a : Int) (p : List Int) : cf (a :: p) 0 = a := by simp [cf]
theorem cf_cons_succ (a : Int) (p : List Int) (k : Nat) : cf (a :: p) (k + 1) = cf p k := by simp [cf]
theorem cf_lt {p : List Int} {k : Nat} (h : k < p.length) : cf p k = p[k] := by simp [cf,List.getElem?_eq_getElem h]
theorem cf_ge {p : List Int} {k : Nat} (h : p.length ≤ k) : cf p k = 0 := by simp [cf,List.getElem?_eq_none h]
theorem ext_cf {p q : List Int} (hl : p.length = q.length) (h : ∀ k,k < p.length → cf p k = cf q k) : p = q := by
 apply List.ext_getElem hl;intro k h1 h2;have := h k h1;rwa [cf_lt h1,cf_lt h2] at this
theorem cf_map_range (f : Nat → Int) (n k : Nat) : cf ((List.range n).map f) k = if k < n then f k else 0 := by
 by_cases h : k < n
 ·rw [cf_lt (by simpa using h),if_pos h]; simp
 ·rw [cf_ge (by simpa using h),if_neg h]
theorem trim_length (p : List Int) : (trim p).length ≤ p.length := by
 induction p with
 | nil => simp [trim]
 | cons a p ih =>
  simp only [trim]
  split
  ·split <;> simp
  ·next h => rw [h] at ih; simpa using ih
theorem cf_trim (p : List Int) (k : Nat) : cf (trim p) k = cf p k := by
 induction p generalizing k with
 | nil => rfl
 | cons a p ih =>
  simp only [trim]
  split
  ·next h =>
   have h0 : ∀ j,cf p j = 0 := fun j => by rw [← ih,h]; exact cf_nil j
   split
   ·next h1 => cases k with
    | zero => rw [cf_nil,cf_cons_zero,h1]
    | succ k => rw [cf_nil,cf_cons_succ,h0]
   ·cases k with
    | zero => rw [cf_cons_zero,cf_cons_zero]
    | succ k => rw [cf_cons_succ,cf_cons_succ,h0,cf_nil]
  ·next b l h =>
   cases k with
   | zero => rw [cf_cons_zero,cf_cons_zero]
   | succ k => rw [cf_cons_succ,cf_cons_succ,← ih,h]
theorem nrm_nil : Nrm [] := fun h => absurd h (by simp)
theorem k'dq {a b : Int} {l : List Int} (h : Nrm (b :: l)) : Nrm (a :: b :: l) := by
 intro _;have := h (by simp)
 simpa using this
theorem nrm_trim (p : List Int) : Nrm (trim p) := by
 induction p with
 | nil => exact nrm_nil
 | cons a p ih =>
  simp only [trim]
  split
  ·split
   ·exact nrm_nil
   ·next h => intro _; simpa using h
  ·next b l h => rw [h] at ih; exact k'dq ih
theorem nrm_cf {p : List Int} (h : Nrm p) (h0 : 0 < p.length) : cf p (p.length - 1) ≠ 0 := by
 rw [cf_lt (by omega)]; exact h h0
theorem nrm_ext {p q : List Int} (hp : Nrm p) (hq : Nrm q) (h : ∀ k,cf p k = cf q k) : p = q := by
 have hl : p.length = q.length := by
  rcases Nat.lt_trichotomy p.length q.length with g | g | g
  ·exact absurd ((h _).symm.trans (cf_ge (by omega))) (nrm_cf hq (by omega))
  ·exact g
  ·exact absurd ((h _).trans (cf_ge (by omega))) (nrm_cf hp (by omega))
 exact ext_cf hl fun k _ => h k
theorem trim_nrm {p : List Int} (h : Nrm p) : trim p = p := nrm_ext (nrm_trim p) h (cf_trim p)
theorem trim_ext {p q : List Int} (h : ∀ k,cf p k = cf q k) : trim p = trim q :=
 nrm_ext (nrm_trim p) (nrm_trim q) fun k => by rw [cf_trim,cf_trim,h]
theorem trim_take {p : List Int} {k : Nat} (hk : k ≤ p.length) (hz : ∀ i (h : i < p.length),k ≤ i → p[i] = 0) (hn : Nrm (p.take k)) : trim p = p.take k := by
 apply nrm_ext (nrm_trim p) hn;intro j;rw [cf_trim];by_cases h : j < k
 ·rw [cf_lt (by omega),cf_lt (by simp; omega)]; simp
 ·rw [cf_ge (p := p.take k) (by simp; omega)]
  by_cases h2 : j < p.length
  ·rw [cf_lt h2]; exact hz j h2 (by omega)
  ·exact cf_ge (by omega)
theorem nrm_take_last {p : List Int} {j : Nat} (hj : j < p.length) (hx : p[j] ≠ 0) : Nrm (p.take (j + 1)) := by
 intro h;have : (p.take (j + 1)).length - 1 = j := by simp; omega
 simp only [this];simpa using hx
theorem k'dr {p : List Int} : trim p = [] ↔ ∀ k,cf p k = 0 := by
 constructor
 ·intro h k; rw [← cf_trim,h,cf_nil]
 ·intro h; exact nrm_ext (nrm_trim p) nrm_nil fun k => by rw [cf_trim,h,cf_nil]
theorem cf_scl (c : Int) (p : List Int) (k : Nat) : cf (scl c p) k = c * cf p k := by
 unfold cf scl;rw [List.getElem?_map]
 cases p[k]? <;> simp
theorem scl_length (c : Int) (p : List Int) : (scl c p).length = p.length := by simp [scl]
theorem cf_add (p q : List Int) (k : Nat) : cf (add p q) k = cf p k + cf q k := by
 induction p generalizing q k with
 | nil => simp [add,cf_nil]
 | cons a p ih =>
  cases q with
  | nil => simp [add,cf_nil]
  | cons b q =>
   cases k with
   | zero => simp [add,cf_cons_zero]
   | succ k => simp only [add,cf_cons_succ]; exact ih q k
theorem add_length (p q : List Int) : (add p q).length = max p.length q.length := by
 induction p generalizing q with
 | nil => simp [add]
 | cons a p ih =>
  cases q with
  | nil => simp [add]
  | cons b q => simp [add,ih]
theorem mul_length (p q : List Int) (hp : p ≠ []) (hq : q ≠ []) : (mul p q).length = p.length + q.length - 1 := by
 induction p with
 | nil => exact absurd rfl hp
 | cons a p ih =>
  have hq1 : 0 < q.length := List.length_pos_iff.2 hq;simp only [mul,add_length,scl_length,List.length_cons]
  cases p with
  | nil => simp [mul]; omega
  | cons b p => rw [ih (by simp)]; simp; omega
theorem mul_nil (p : List Int) : trim (mul p []) = [] := by
 rw [k'dr]
 induction p with
 | nil => exact cf_nil
 | cons a p ih =>
  intro k;rw [mul,cf_add,cf_scl,cf_nil]
  cases k with
  | zero => simp [cf_cons_zero]
  | succ k => rw [cf_cons_succ,ih]; simp
theorem ev_add (p q : List Int) (x : Int) : ev (add p q) x = ev p x + ev q x := by
 induction p generalizing q with
 | nil => simp [add,ev]
 | cons a p ih =>
  cases q with
  | nil => simp [add,ev]
  | cons b q => simp only [add,ev,ih]; grind
theorem ev_scl (c : Int) (p : List Int) (x : Int) : ev (scl c p) x = c * ev p x := by
 induction p with
 | nil => simp [scl,ev]
 | cons a p ih =>
  have : scl c (a :: p) = c * a :: scl c p := rfl;rw [this,ev,ev,ih]; grind
theorem ev_mul (p q : List Int) (x : Int) : ev (mul p q) x = ev p x * ev q x := by
 induction p with
 | nil => simp [mul,ev]
 | cons a p ih => rw [mul,ev_add,ev_scl,ev,ev,ih]; grind
theorem k'dt {p q : List Int} (h : ∀ k,cf p k = cf q k) (x : Int) : ev p x = ev q x := by
 induction p generalizing q with
 | nil =>
  have h0 : ∀ k,cf q k = 0 := fun k => by rw [← h,cf_nil]
  clear h
  induction q with
  | nil => rfl
  | cons b q ih =>
   have h1 := h0 0;rw [cf_cons_zero] at h1;have h2 := ih fun k => by have := h0 (k + 1); rwa [cf_cons_succ] at this
   simp only [ev] at h2 ⊢;rw [h1,← h2]; simp
 | cons a p ih =>
  cases q with
  | nil =>
   have h1 := h 0;rw [cf_cons_zero,cf_nil] at h1;have h2 := @ih [] fun k => by have := h (k + 1); rwa [cf_cons_succ,cf_nil] at this
   simp only [ev] at h2 ⊢;rw [h1,h2]; simp
  | cons b q =>
   have h1 := h 0;rw [cf_cons_zero,cf_cons_zero] at h1;have h2 := @ih q fun k => by have := h (k + 1); rwa [cf_cons_succ,cf_cons_succ] at this
   rw [ev,ev,h1,h2]
theorem ev_trim (p : List Int) (x : Int) : ev (trim p) x = ev p x := k'dt (cf_trim p) x
theorem k'du {p : List Int} (h : ∀ x : Int,0 < x → ev p x = 0) (k : Nat) : cf p k = 0 := by
 induction p generalizing k with
 | nil => exact cf_nil k
 | cons a p ih =>
  have ha : a = 0 := by
   have h1 := h (a.natAbs + 1) (by omega)
   rw [ev] at h1;have hd : ((a.natAbs : Int) + 1) ∣ a := ⟨-(ev p (a.natAbs + 1)),by rw [Int.mul_neg]; omega⟩
   exact Int.eq_zero_of_dvd_of_natAbs_lt_natAbs hd (by omega)
  subst ha
  cases k with
  | zero => exact cf_cons_zero 0 p
  | succ k =>
   rw [cf_cons_succ];exact ih (fun x hx => by
    have h1 := h x hx;rw [ev,Int.zero_add] at h1;rcases Int.mul_eq_zero.1 h1 with h2 | h2
    ·omega
    ·exact h2) k
theorem ev_inj {p q : List Int} (h : ∀ x : Int,0 < x → ev p x = ev q x) (k : Nat) : cf p k = cf q k := by
 have := k'du (p := add p (scl (-1) q)) (fun x hx => by rw [ev_add,ev_scl,h x hx]; omega) k
 rw [cf_add,cf_scl] at this;omega
def conv (p q : List Int) : Nat → Nat → Int
 | 0,_ => 0
 | i + 1,k => conv p q i k + (if i ≤ k then cf p i * cf q (k - i) else 0)
theorem k'dv (a : Int) (p q : List Int) (i k : Nat) : conv (a :: p) q (i + 1) k = a * cf q k + (if k = 0 then 0 else conv p q i (k - 1)) := by
 induction i with
 | zero => simp [conv,cf_cons_zero]
 | succ i ih =>
  rw [conv,ih,cf_cons_succ];by_cases hk : k = 0
  ·subst hk; simp
  ·rw [if_neg hk,if_neg hk,conv]
   by_cases h : i + 1 ≤ k
   ·rw [if_pos h,if_pos (by omega),show k - 1 - i = k - (i + 1) by omega]; omega
   ·rw [if_neg h,if_neg (by omega)]; omega
theorem cf_mul (p q : List Int) (k : Nat) : cf (mul p q) k = conv p q p.length k := by
 induction p generalizing k with
 | nil => simp [mul,cf_nil,conv]
 | cons a p ih =>
  rw [List.length_cons,k'dv,mul,cf_add,cf_scl]
  cases k with
  | zero => simp [cf_cons_zero]
  | succ k => rw [cf_cons_succ,ih]; simp
theorem mul_comm_cf (p q : List Int) (k : Nat) : cf (mul p q) k = cf (mul q p) k :=
 ev_inj (fun x _ => by rw [ev_mul,ev_mul,Int.mul_comm]) k
end Pl
end Go.Proofs.YtepddegphdlbeaaGreat
