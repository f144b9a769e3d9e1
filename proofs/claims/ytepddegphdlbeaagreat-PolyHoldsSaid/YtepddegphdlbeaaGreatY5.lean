/- What the theorem leans on, part Y5. -/
import Derived.Test.YtepddegphdlbeaaGreatY4
import Derived.Test.YtepddegphdlbeaaGreatY2
import Derived.Test.YtepddegphdlbeaaGreatY1
import Derived.Test.YtepddegphdlbeaaGreatY0
import Derived.Test.YtepddegphdlbeaaGreatProg
import Derived.WalkKit
import Derived.WalkSpells
import Derived.WalkLawsBesides
import Derived.Lib.Hide
import Derived.Deep.QuietTactic
import Derived.BigQuiet
import Derived.Shelf.Small.Bits
import Derived.Shelf.Small.Wraps
import Derived.Shelf.Strconv.Itoa0
import Derived.Shelf.Bits.Mul64
import Derived.Ground.Names2Prog
import Derived.Shelf.Slices.SearchI
import Derived.Shelf.Spec.BitsCarry
import Derived.Deep.LoopGhost
import Derived.Deep.RegionHeld3
import Derived.Laws.AppendOwnNone
set_option maxRecDepth 100000
set_option maxHeartbeats 16000000
set_option linter.all false
namespace Go.Proofs.YtepddegphdlbeaaGreat
open Go.RowKit
def PInv (X Y : List Nat) (k c : Nat) (l : List Nat) : Prop :=
 l.length = k ∧ Nm.Dig D9 l ∧ c ≤ 1 ∧ Nm.val D9 l + D9 ^ k * c = Nm.val D9 (X.take k) + Nm.val D9 (Y.take k) ∧ k ≤ max X.length Y.length + 1 ∧ (k = max X.length Y.length + 1 → c = 0) ∧ (k = 0 ∨ D9 ^ (k - 1) ≤ Nm.val D9 X + Nm.val D9 Y)
theorem k'6t (B : Nat) (l : List Nat) (k : Nat) : Nm.val B (l.take (k + 1)) = Nm.val B (l.take k) + B ^ k * l.getD k 0 := by
 rcases Nat.lt_or_ge k l.length with h | h
 ·rw [Nm.val_take_succ B l k h]; simp [h]
 ·rw [List.take_of_length_le (by omega),List.take_of_length_le h]; simp [h]
theorem PInv.step {X Y l : List Nat} {k c : Nat} (h : PInv X Y k c l) (dx : Nm.Dig D9 X) (dy : Nm.Dig D9 Y) (nx : Nm.Nrm X) (ny : Nm.Nrm Y) (hc : k < X.length ∨ k < Y.length ∨ 0 < c) :
 PInv X Y (k + 1) ((c + X.getD k 0 + Y.getD k 0) / D9) (l ++ [(c + X.getD k 0 + Y.getD k 0) % D9]) := by
 obtain ⟨h1,h2,h3,h4,h5,h6,h7⟩ := h;have hx : X.getD k 0 < D9 := by
  rcases Nat.lt_or_ge k X.length with g | g
  ·simp [g]; exact Nm.dig_get dx k g
  ·simp [g]; exact D90
 have hy : Y.getD k 0 < D9 := by
  rcases Nat.lt_or_ge k Y.length with g | g
  ·simp [g]; exact Nm.dig_get dy k g
  ·simp [g]; exact D90
 have hk : k ≤ max X.length Y.length := by
  rcases hc with g | g | g
  ·omega
  ·omega
  ·rcases Nat.lt_or_ge (max X.length Y.length) k with q | q
   ·have := h6 (by omega); omega
   ·exact q
 have hpow : D9 ^ k ≤ Nm.val D9 X + Nm.val D9 Y := by
  rcases hc with g | g | g
  ·have a1 := Nm.val_pos (B := D9) nx (by intro e; rw [e] at g; simp at g)
   have a2 : D9 ^ k ≤ D9 ^ (X.length - 1) := Nat.pow_le_pow_right D90 (by omega)
   omega
  ·have a1 := Nm.val_pos (B := D9) ny (by intro e; rw [e] at g; simp at g)
   have a2 : D9 ^ k ≤ D9 ^ (Y.length - 1) := Nat.pow_le_pow_right D90 (by omega)
   omega
  ·have b1 := Nm.val_split D9 X (min k X.length) (by omega)
   have b2 : Nm.val D9 (X.take k) ≤ Nm.val D9 X := by
    rcases Nat.lt_or_ge k X.length with q | q
    ·have := Nm.val_split D9 X k (by omega); omega
    ·rw [List.take_of_length_le q]; exact Nat.le_refl _
   have b3 : Nm.val D9 (Y.take k) ≤ Nm.val D9 Y := by
    rcases Nat.lt_or_ge k Y.length with q | q
    ·have := Nm.val_split D9 Y k (by omega); omega
    ·rw [List.take_of_length_le q]; exact Nat.le_refl _
   have b4 : D9 ^ k * 1 ≤ D9 ^ k * c := Nat.mul_le_mul_left _ g;omega
 have hz : k = max X.length Y.length → X.getD k 0 = 0 ∧ Y.getD k 0 = 0 := fun e => by
  have g1 : X.length ≤ k := by omega
  have g2 : Y.length ≤ k := by omega
  exact ⟨by simp [g1],by simp [g2]⟩
 generalize hxx : X.getD k 0 = x at *;generalize hyy : Y.getD k 0 = y at *;have hd := Nat.mod_add_div (c + x + y) D9;have hq : (c + x + y) / D9 ≤ 1 := by
  have : (c + x + y) / D9 < 2 := by rw [Nat.div_lt_iff_lt_mul D90]; omega
  omega
 refine ⟨by simp [h1],Nm.dig_append.2 ⟨h2,Nm.dig_cons.2 ⟨Nat.mod_lt _ D90,Nm.dig_nil _⟩⟩,hq,?_,by omega,?_,Or.inr (by simpa using hpow)⟩
 ·rw [Nm.val_snoc,h1,k'6t,k'6t,Nat.pow_succ,hxx,hyy]
  have e1 : D9 ^ k * ((c + x + y) % D9 + D9 * ((c + x + y) / D9)) = D9 ^ k * (c + x + y) := by rw [hd]
  generalize (c + x + y) % D9 = r at *;generalize (c + x + y) / D9 = q at *;generalize D9 ^ k = P at *
  grind
 ·intro e
  obtain ⟨z1,z2⟩ := hz (by omega)
  rw [z1,z2]
  exact Nat.div_eq_of_lt (by have : (2 : Nat) < D9 := by decide
                             omega)
theorem PInv.finish {X Y l : List Nat} {k : Nat} (h : PInv X Y k 0 l) (hX : X.length ≤ k) (hY : Y.length ≤ k) : l = Nm.dg D9 (Nm.val D9 X + Nm.val D9 Y) := by
 obtain ⟨h1,h2,h3,h4,h5,h6,h7⟩ := h;rw [Nat.mul_zero,Nat.add_zero,List.take_of_length_le hX,List.take_of_length_le hY] at h4;rw [← h4];refine Nm.eq_dg D92 h2 ?_;rcases h7 with h7 | h7
 ·subst h7
  rw [List.eq_nil_of_length_eq_zero h1]; trivial
 ·refine Nm.nrm_of_val h2 ?_
  rw [h1,h4]; exact h7
theorem k'6u {w : World} {b : Nat} {v : Value} (h : w.cell? ⟨b,0,none⟩ = some v) : ∀ j u,[v][j]? = some u → w.cell? (Addr.add ⟨b,0,none⟩ j) = some u := by
 intro j u hj
 match j,hj with
 | 0,hj => simp at hj; subst hj; simpa [Addr.add] using h
theorem k'6v {c x y r q : Nat} (hr : (c + x + y) % D9 = r) (hq : (c + x + y) / D9 = q) : ((c : Int) + (x : Int) + (y : Int)) % 1000000000 = (r : Int) ∧ ((c : Int) + (x : Int) + (y : Int)) / 1000000000 = (q : Int) := by
 unfold D9 at hr hq;subst hr hq;exact ⟨by omega,by omega⟩
theorem k'6x (v1 v2 : Value) (m n : Nat) (w : World) (h1 : Ri w v1 (Nm.dg D9 m)) (h2 : Ri w v2 (Nm.dg D9 n)) (l1 : (Nm.dg D9 m).length ≤ 1000000) (l2 : (Nm.dg D9 n).length ≤ 1000000) :
 Calls Tryz.prog 93 #[v1,v2] w (GivesI (m + n) w) := by
 have dx := Nm.dig_dg D92 m;have dy := Nm.dig_dg D92 n;have nx := Nm.nrm_dg D92 m;have ny := Nm.nrm_dg D92 n;have HV := i' (show Nm.val D9 (Nm.dg D9 m) + Nm.val D9 (Nm.dg D9 n) = m + n by rw [Nm.val_dg D92,Nm.val_dg D92])
 rw [← HV.out];clear HV;generalize Nm.dg D9 m = X at *;generalize Nm.dg D9 n = Y at *;obtain ⟨p1,b1,o1,c1,rfl,_,_,hp1,_,g1⟩ := h1;obtain ⟨p2,b2,o2,c2,rfl,_,_,hp2,_,g2⟩ := h2;have hi3 : (Tryz.prog.info? 3).map (fun i => (i.zero,i.size,i.bytes)) = some (some (.int .i64 0),1,8) := by kernel_rfl
 obtain ⟨i0,hi0,hz0,hz1,hz2⟩ := info_parts hi3;have HI := i' (And.intro hi0 (And.intro hz0 (And.intro hz1 hz2)));have Hp1 := i' hp1;have Hp2 := i' hp2;have G1 := i' g1;have G2 := i' g2;have NN := i' (And.intro dx (And.intro dy (And.intro nx ny)));clear hi3 hi0 hz0 hz1 hz2 hp1 hp2 g1 g2 dx dy nx ny;go_enter Tryz.func93,Tryz.ntmps93;go_wp2;go_loopw [5,6,7] (fun v cv i wr => ∃ (k c : Nat) (cc : Int) (l : List Nat),k ≤ 1000001 ∧ i = .int .i64 (k : Nat) ∧ cv = .int .i64 cc ∧ 0 ≤ cc ∧ cc ≤ 1 ∧ Hid (cc = (c : Int)) ∧ Hid (PInv X Y k c l) ∧ Hid (wr.ownsRow w.heap.size 3 1 v l.length (iv l)) ∧ Hid (Below w.heap.size w wr))
  (fun _ _ i _ => max X.length Y.length + 1 - (intOf i).toNat)
 case atStart =>
  exact ⟨0,0,0,[],by omega,rfl,rfl,by omega,by omega,rfl,⟨rfl,Nm.dig_nil _,by omega,by simp [Nm.val],by omega,fun h => rfl,Or.inl rfl⟩,World.ownsRow_nil _ _ _ _,Below.refl _ _⟩
 case round =>
  rename_i v _ _ wr _;obtain ⟨k,c,cc,l,hk,rfl,rfl,hc0,hc1,hcc,hinv,hown,hbl⟩ := hrel;by_cases hx : k < X.length
  ·by_cases hy : k < Y.length
   ·have _ := hx
    obtain rfl := Hp1.out (by intro e; rw [e] at hx; exact absurd hx (Nat.not_lt_zero _))
    have e1 := k'e hbl.out (G1.out k hx);have hX : (0 : Int) ≤ (X[k] : Int) ∧ (X[k] : Int) < 1000000000 := by have h5 : X[k] < 1000000000 := Nm.dig_get NN.out.1 k hx; omega
    have hx0 : X.getD k 0 = X[k] := by simp [hx]
    obtain rfl := Hp2.out (by intro e; rw [e] at hy; exact absurd hy (Nat.not_lt_zero _))
    have e2 := k'e hbl.out (G2.out k hy);have hY : (0 : Int) ≤ (Y[k] : Int) ∧ (Y[k] : Int) < 1000000000 := by have h5 : Y[k] < 1000000000 := Nm.dig_get NN.out.2.1 k hy; omega
    have hy0 : Y.getD k 0 = Y[k] := by simp [hy]
    have hst := hinv.out.step NN.out.1 NN.out.2.1 NN.out.2.2.1 NN.out.2.2.2 (Or.inl hx);obtain ⟨r,hr⟩ : ∃ r,(c + X.getD k 0 + Y.getD k 0) % D9 = r := ⟨_,rfl⟩;obtain ⟨q,hq⟩ : ∃ q,(c + X.getD k 0 + Y.getD k 0) / D9 = q := ⟨_,rfl⟩;rw [hr,hq] at hst;obtain ⟨hmod,hdiv⟩ := k'6v hr hq;rw [hx0,hy0,← hcc.out] at hmod hdiv;obtain ⟨x,hxx⟩ : ∃ x : Int,(X[k] : Int) = x := ⟨_,rfl⟩;rw [hxx] at hmod hdiv hX e1;obtain ⟨y,hyy⟩ : ∃ y : Int,(Y[k] : Int) = y := ⟨_,rfl⟩;rw [hyy] at hmod hdiv hY e2;obtain ⟨rr,hrr⟩ : ∃ rr : Int,(r : Int) = rr := ⟨_,rfl⟩;obtain ⟨qq,hqq⟩ : ∃ qq : Int,(q : Int) = qq := ⟨_,rfl⟩;rw [hrr] at hmod;rw [hqq] at hdiv;have hq1 : 0 ≤ qq ∧ qq ≤ 1 := by have h5 := hst.2.2.1; omega
    obtain ⟨hq1,hq2⟩ := hq1;obtain ⟨hX1,hX2⟩ := hX;obtain ⟨hY1,hY2⟩ := hY;have HS := i' hst;have HR := i' hrr;have HQ := i' hqq;have hlk : Hid (l.length ≤ 1000001) := by rw [hinv.out.1]; exact hk
    have hk2 : k + 1 ≤ 1000001 := by have h5 := hst.2.2.2.2.1; have h6 := l1; have h7 := l2; omega
    have hmx : Hid (k < max X.length Y.length + 1) := by have h5 := hst.2.2.2.2.1; show _ < _; omega
    have hbase : Hid (w.heap.size ≤ wr.heap.size) := hbl.out.size;clear hst hr hq hx0 hy0 hinv hrr hqq hxx hyy;go_wp2_with (at_builtin; refine wpList_append_own _ rfl _ _ 24 rfl w.heap.size 3 i0 (.int .i64 0) 1 8 Tryz.underlying24 HI.out.1 HI.out.2.1 HI.out.2.2.1 HI.out.2.2.2 rfl (by decide) _ _ _ rfl (hown.out.alloc _) ⟨wr.heap.size,0,none⟩ 1 1 [.int .i64 rr] rfl rfl ?dc1 ?dc2 ?dc3 ?dc4 ?dc5 ?_)
    case dc2 => rfl
    case dc3 => have h5 := hlk.out; unfold maxLen; omega
    case dc4 => have h5 := hlk.out; omega
    case dc5 => have h5 := hbase.out; omega
    intro v' w1 hown1 hgrow1 _;have hbl1 : Hid (Below w.heap.size w w1) := (hbl.out.alloc hbase.out _).grown hgrow1 (by have h5 := hbase.out; simp; omega) (fun q hq => (hown.out.lt q hq).1)
    have hown2 : Hid (w1.ownsRow w.heap.size 3 1 v' (l ++ [r]).length (iv (l ++ [r]))) := by
     show World.ownsRow _ _ _ _ _ _ _;rw [k'6r,List.length_append,HR.out];exact hown1
    clear hown1 hgrow1 hbl hown;go_wp2;go_roundw
    case rel => exact ⟨k + 1,q,qq,l ++ [r],hk2,by go_num,by rw [hdiv],hq1,hq2,HQ.out.symm,HS.out,hown2,hbl1⟩
    case measure => have := hmx.out; simp [intOf]; omega
   ·have _ := hx
    obtain rfl := Hp1.out (by intro e; rw [e] at hx; exact absurd hx (Nat.not_lt_zero _))
    have e1 := k'e hbl.out (G1.out k hx);have hX : (0 : Int) ≤ (X[k] : Int) ∧ (X[k] : Int) < 1000000000 := by have h5 : X[k] < 1000000000 := Nm.dig_get NN.out.1 k hx; omega
    have hx0 : X.getD k 0 = X[k] := by simp [hx]
    have hy0 : Y.getD k 0 = 0 := by simp at hy; simp [hy]
    have hst := hinv.out.step NN.out.1 NN.out.2.1 NN.out.2.2.1 NN.out.2.2.2 (Or.inl hx);obtain ⟨r,hr⟩ : ∃ r,(c + X.getD k 0 + Y.getD k 0) % D9 = r := ⟨_,rfl⟩;obtain ⟨q,hq⟩ : ∃ q,(c + X.getD k 0 + Y.getD k 0) / D9 = q := ⟨_,rfl⟩;rw [hr,hq] at hst;obtain ⟨hmod,hdiv⟩ := k'6v hr hq;rw [hx0,hy0,← hcc.out] at hmod hdiv;obtain ⟨x,hxx⟩ : ∃ x : Int,(X[k] : Int) = x := ⟨_,rfl⟩;rw [hxx] at hmod hdiv hX e1;obtain ⟨rr,hrr⟩ : ∃ rr : Int,(r : Int) = rr := ⟨_,rfl⟩;obtain ⟨qq,hqq⟩ : ∃ qq : Int,(q : Int) = qq := ⟨_,rfl⟩;rw [hrr] at hmod;rw [hqq] at hdiv;have hz : (((0 : Nat) : Int)) = 0 := rfl;rw [hz,Int.add_zero] at hmod hdiv;have hq1 : 0 ≤ qq ∧ qq ≤ 1 := by have h5 := hst.2.2.1; omega
    obtain ⟨hq1,hq2⟩ := hq1;obtain ⟨hX1,hX2⟩ := hX;have HS := i' hst;have HR := i' hrr;have HQ := i' hqq;have hlk : Hid (l.length ≤ 1000001) := by rw [hinv.out.1]; exact hk
    have hk2 : k + 1 ≤ 1000001 := by have h5 := hst.2.2.2.2.1; have h6 := l1; have h7 := l2; omega
    have hmx : Hid (k < max X.length Y.length + 1) := by have h5 := hst.2.2.2.2.1; show _ < _; omega
    have hbase : Hid (w.heap.size ≤ wr.heap.size) := hbl.out.size;clear hst hr hq hx0 hy0 hinv hrr hqq hxx;go_wp2_with (at_builtin; refine wpList_append_own _ rfl _ _ 24 rfl w.heap.size 3 i0 (.int .i64 0) 1 8 Tryz.underlying24 HI.out.1 HI.out.2.1 HI.out.2.2.1 HI.out.2.2.2 rfl (by decide) _ _ _ rfl (hown.out.alloc _) ⟨wr.heap.size,0,none⟩ 1 1 [.int .i64 rr] rfl rfl ?cc1 ?cc2 ?cc3 ?cc4 ?cc5 ?_)
    case cc2 => rfl
    case cc3 => have h5 := hlk.out; unfold maxLen; omega
    case cc4 => have h5 := hlk.out; omega
    case cc5 => have h5 := hbase.out; omega
    intro v' w1 hown1 hgrow1 _;have hbl1 : Hid (Below w.heap.size w w1) := (hbl.out.alloc hbase.out _).grown hgrow1 (by have h5 := hbase.out; simp; omega) (fun q hq => (hown.out.lt q hq).1)
    have hown2 : Hid (w1.ownsRow w.heap.size 3 1 v' (l ++ [r]).length (iv (l ++ [r]))) := by
     show World.ownsRow _ _ _ _ _ _ _;rw [k'6r,List.length_append,HR.out];exact hown1
    clear hown1 hgrow1 hbl hown;go_wp2;go_roundw
    case rel => exact ⟨k + 1,q,qq,l ++ [r],hk2,by go_num,by rw [hdiv],hq1,hq2,HQ.out.symm,HS.out,hown2,hbl1⟩
    case measure => have := hmx.out; simp [intOf]; omega
  ·by_cases hy : k < Y.length
   ·have _ := hy
    have hx0 : X.getD k 0 = 0 := by simp at hx; simp [hx]
    obtain rfl := Hp2.out (by intro e; rw [e] at hy; exact absurd hy (Nat.not_lt_zero _))
    have e2 := k'e hbl.out (G2.out k hy);have hY : (0 : Int) ≤ (Y[k] : Int) ∧ (Y[k] : Int) < 1000000000 := by have h5 : Y[k] < 1000000000 := Nm.dig_get NN.out.2.1 k hy; omega
    have hy0 : Y.getD k 0 = Y[k] := by simp [hy]
    have hst := hinv.out.step NN.out.1 NN.out.2.1 NN.out.2.2.1 NN.out.2.2.2 (Or.inr (Or.inl hy));obtain ⟨r,hr⟩ : ∃ r,(c + X.getD k 0 + Y.getD k 0) % D9 = r := ⟨_,rfl⟩;obtain ⟨q,hq⟩ : ∃ q,(c + X.getD k 0 + Y.getD k 0) / D9 = q := ⟨_,rfl⟩;rw [hr,hq] at hst;obtain ⟨hmod,hdiv⟩ := k'6v hr hq;rw [hx0,hy0,← hcc.out] at hmod hdiv;obtain ⟨y,hyy⟩ : ∃ y : Int,(Y[k] : Int) = y := ⟨_,rfl⟩;rw [hyy] at hmod hdiv hY e2;obtain ⟨rr,hrr⟩ : ∃ rr : Int,(r : Int) = rr := ⟨_,rfl⟩;obtain ⟨qq,hqq⟩ : ∃ qq : Int,(q : Int) = qq := ⟨_,rfl⟩;rw [hrr] at hmod;rw [hqq] at hdiv;have hz : (((0 : Nat) : Int)) = 0 := rfl;rw [hz,Int.add_zero] at hmod hdiv;have hq1 : 0 ≤ qq ∧ qq ≤ 1 := by have h5 := hst.2.2.1; omega
    obtain ⟨hq1,hq2⟩ := hq1;obtain ⟨hY1,hY2⟩ := hY;have HS := i' hst;have HR := i' hrr;have HQ := i' hqq;have hlk : Hid (l.length ≤ 1000001) := by rw [hinv.out.1]; exact hk
    have hk2 : k + 1 ≤ 1000001 := by have h5 := hst.2.2.2.2.1; have h6 := l1; have h7 := l2; omega
    have hmx : Hid (k < max X.length Y.length + 1) := by have h5 := hst.2.2.2.2.1; show _ < _; omega
    have hbase : Hid (w.heap.size ≤ wr.heap.size) := hbl.out.size;clear hst hr hq hx0 hy0 hinv hrr hqq hz hyy;go_wp2_with (at_builtin; refine wpList_append_own _ rfl _ _ 24 rfl w.heap.size 3 i0 (.int .i64 0) 1 8 Tryz.underlying24 HI.out.1 HI.out.2.1 HI.out.2.2.1 HI.out.2.2.2 rfl (by decide) _ _ _ rfl (hown.out.alloc _) ⟨wr.heap.size,0,none⟩ 1 1 [.int .i64 rr] rfl rfl ?bc1 ?bc2 ?bc3 ?bc4 ?bc5 ?_)
    case bc2 => rfl
    case bc3 => have h5 := hlk.out; unfold maxLen; omega
    case bc4 => have h5 := hlk.out; omega
    case bc5 => have h5 := hbase.out; omega
    intro v' w1 hown1 hgrow1 _;have hbl1 : Hid (Below w.heap.size w w1) := (hbl.out.alloc hbase.out _).grown hgrow1 (by have h5 := hbase.out; simp; omega) (fun q hq => (hown.out.lt q hq).1)
    have hown2 : Hid (w1.ownsRow w.heap.size 3 1 v' (l ++ [r]).length (iv (l ++ [r]))) := by
     show World.ownsRow _ _ _ _ _ _ _;rw [k'6r,List.length_append,HR.out];exact hown1
    clear hown1 hgrow1 hbl hown;go_wp2;go_roundw
    case rel => exact ⟨k + 1,q,qq,l ++ [r],hk2,by go_num,by rw [hdiv],hq1,hq2,HQ.out.symm,HS.out,hown2,hbl1⟩
    case measure => have := hmx.out; simp [intOf]; omega
   ·rcases Nat.eq_zero_or_pos c with hcp | hcp
    ·have hcz : cc = 0 := by rw [hcc.out,hcp]; rfl
     subst hcz;subst hcp;have HE : Hid (l = Nm.dg D9 (Nm.val D9 X + Nm.val D9 Y)) := hinv.out.finish (by omega) (by omega)
     clear hinv;go_wp2;go_ret;exact ⟨_,rfl,by rw [← HE.out]; exact Ri.of_own hown.out,hbl.out⟩
    ·have _ := hcp
     have hx0 : X.getD k 0 = 0 := by simp at hx; simp [hx]
     have hy0 : Y.getD k 0 = 0 := by simp at hy; simp [hy]
     have hst := hinv.out.step NN.out.1 NN.out.2.1 NN.out.2.2.1 NN.out.2.2.2 (Or.inr (Or.inr hcp));obtain ⟨r,hr⟩ : ∃ r,(c + X.getD k 0 + Y.getD k 0) % D9 = r := ⟨_,rfl⟩;obtain ⟨q,hq⟩ : ∃ q,(c + X.getD k 0 + Y.getD k 0) / D9 = q := ⟨_,rfl⟩;rw [hr,hq] at hst;obtain ⟨hmod,hdiv⟩ := k'6v hr hq;rw [hx0,hy0,← hcc.out] at hmod hdiv;obtain ⟨rr,hrr⟩ : ∃ rr : Int,(r : Int) = rr := ⟨_,rfl⟩;obtain ⟨qq,hqq⟩ : ∃ qq : Int,(q : Int) = qq := ⟨_,rfl⟩;rw [hrr] at hmod;rw [hqq] at hdiv;have hz : (((0 : Nat) : Int)) = 0 := rfl;rw [hz,Int.add_zero,Int.add_zero] at hmod hdiv;have hq1 : 0 ≤ qq ∧ qq ≤ 1 := by have h5 := hst.2.2.1; omega
     obtain ⟨hq1,hq2⟩ := hq1;have hcp1 : 0 < cc := by rw [hcc.out]; omega
     have HS := i' hst;have HR := i' hrr;have HQ := i' hqq;have hlk : Hid (l.length ≤ 1000001) := by rw [hinv.out.1]; exact hk
     have hk2 : k + 1 ≤ 1000001 := by have h5 := hst.2.2.2.2.1; have h6 := l1; have h7 := l2; omega
     have hmx : Hid (k < max X.length Y.length + 1) := by have h5 := hst.2.2.2.2.1; show _ < _; omega
     have hbase : Hid (w.heap.size ≤ wr.heap.size) := hbl.out.size;clear hst hr hq hx0 hy0 hinv hrr hqq hz;go_wp2_with (at_builtin; refine wpList_append_own _ rfl _ _ 24 rfl w.heap.size 3 i0 (.int .i64 0) 1 8 Tryz.underlying24 HI.out.1 HI.out.2.1 HI.out.2.2.1 HI.out.2.2.2 rfl (by decide) _ _ _ rfl (hown.out.alloc _) ⟨wr.heap.size,0,none⟩ 1 1 [.int .i64 rr] rfl rfl ?ac1 ?ac2 ?ac3 ?ac4 ?ac5 ?_)
     case ac1 =>
      intro j u hj
      match j,hj with
      | 0,hj => simp at hj; subst hj; simp [Addr.add]
     case ac2 => intro u hu; simp at hu; subst hu; rfl
     case ac3 => have h5 := hlk.out; unfold maxLen; omega
     case ac4 => have h5 := hlk.out; omega
     case ac5 => have h5 := hbase.out; simp; omega
     intro v' w1 hown1 hgrow1 _;have hbl1 : Hid (Below w.heap.size w w1) := (hbl.out.alloc hbase.out _).grown hgrow1 (by have h5 := hbase.out; simp; omega) (fun q hq => (hown.out.lt q hq).1)
     have hown2 : Hid (w1.ownsRow w.heap.size 3 1 v' (l ++ [r]).length (iv (l ++ [r]))) := by
      show World.ownsRow _ _ _ _ _ _ _;rw [k'6r,List.length_append,HR.out];exact hown1
     clear hown1 hgrow1 hbl hown;go_wp2;go_roundw
     case rel => exact ⟨k + 1,q,qq,l ++ [r],hk2,by go_num,by rw [hdiv],hq1,hq2,HQ.out.symm,HS.out,hown2,hbl1⟩
     case measure => have := hmx.out; simp [intOf]; omega
theorem k'6y {X Y : List Nat} (d1 : Nm.Dig D9 X) (d2 : Nm.Dig D9 Y) (hl : X.length = Y.length) (i : Nat) (hi : i < X.length) (hj : i < Y.length) (he : X.drop (i + 1) = Y.drop (i + 1)) (h : X[i] ≠ Y[i]) : cmpN X[i] Y[i] = cmpN (Nm.val D9 X) (Nm.val D9 Y) := by
 rcases Nat.lt_or_gt_of_ne h with h | h
 ·rw [k'2p h,k'2p (Nm.val_lt_of_at d1 hl i hi he h)]
 ·rw [k'2q h,k'2q (Nm.val_lt_of_at d2 hl.symm i hj he.symm h)]
theorem k'6z (v1 v2 : Value) (m n : Nat) (w : World) (h1 : Ri w v1 (Nm.dg D9 m)) (h2 : Ri w v2 (Nm.dg D9 n)) (l1 : (Nm.dg D9 m).length ≤ 1000000) (l2 : (Nm.dg D9 n).length ≤ 1000000) :
 Calls Tryz.prog 122 #[v1,v2] w (CmpPost (cmpN m n) w) := by
 have d1 := Nm.dig_dg D92 m;have d2 := Nm.dig_dg D92 n;have n1 := Nm.nrm_dg D92 m;have n2 := Nm.nrm_dg D92 n;rw [show cmpN m n = cmpN (Nm.val D9 (Nm.dg D9 m)) (Nm.val D9 (Nm.dg D9 n)) by rw [Nm.val_dg D92,Nm.val_dg D92]]
 generalize Nm.dg D9 m = X at *;generalize Nm.dg D9 n = Y at *;obtain ⟨p1,b1,o1,c1,rfl,_,_,hp1,_,h1⟩ := h1;obtain ⟨p2,b2,o2,c2,rfl,_,_,hp2,_,h2⟩ := h2;have Hp1 := i' hp1;have Hp2 := i' hp2;have H1 := i' h1;have H2 := i' h2;have NN := i' (And.intro d1 d2);clear hp1 hp2 h1 h2;rcases Nat.lt_trichotomy X.length Y.length with hl | hl | hl
 ·have E := i' (k'2p (Nm.val_lt_of_len D90 d1 n2 hl))
  have hb : (((X.length : Int)) != (Y.length : Int)) = true := by simp; omega
  clear NN d1 d2 n1 n2;go_enter Tryz.func122,Tryz.ntmps122;go_wp2;go_ret;exact ⟨by rw [E.out]; rfl,0,rfl⟩
 ·have Hl := i' hl
  have hb : (((X.length : Int)) != (Y.length : Int)) = false := by simp [hl]
  have hle : Y.length ≤ X.length := by omega
  have hge : X.length ≤ Y.length := by omega
  clear hl d1 d2 n1 n2;go_enter Tryz.func122,Tryz.ntmps122;go_wp2;clear hb;go_loopw [5] (fun i wr => ∃ k n : Nat,k ≤ X.length ∧ i = .int .i64 ((k : Int) - 1) ∧ Hid (X.drop k = Y.drop k) ∧ wr = w.drewN n) (fun i _ => (intOf i + 1).toNat)
  case atStart => exact ⟨X.length,0,Nat.le_refl _,rfl,by show _ = _; rw [List.drop_of_length_le (Nat.le_refl _),List.drop_of_length_le hle],rfl⟩
  case round =>
   obtain ⟨k,n,hk,rfl,Hd,rfl⟩ := hrel;rcases Nat.eq_zero_or_pos k with h0 | h0
   ·subst h0
    go_wp2;go_ret;refine ⟨?_,n,rfl⟩;have := Hd.out;simp only [List.drop_zero] at this;rw [this,k'2r]; rfl
   ·obtain ⟨j,rfl⟩ : ∃ j,k = j + 1 := ⟨k - 1,by omega⟩
    have hx : j < X.length := by omega
    have hy : j < Y.length := by omega
    obtain rfl := Hp1.out (by intro e; rw [e] at hx; exact absurd hx (Nat.not_lt_zero _))
    obtain rfl := Hp2.out (by intro e; rw [e] at hy; exact absurd hy (Nat.not_lt_zero _))
    have e1 := H1.out j hx;have e2 := H2.out j hy;rw [show ((j + 1 : Nat) : Int) - 1 = (j : Int) by omega]
    rcases Nat.lt_trichotomy X[j] Y[j] with hv | hv | hv
    ·have E := i' (k'6y NN.out.1 NN.out.2 Hl.out j hx hy Hd.out (Nat.ne_of_lt hv))
     have E2 := i' (k'2p hv);have hvi : (X[j] : Int) < (Y[j] : Int) := by omega
     clear hv;go_wp2_with fail;go_quiet (fail);go_wp2;go_ret;exact ⟨by rw [← E.out,E2.out]; rfl,_,World.drewN_drewN _ _ _⟩
    ·have Hv := i' hv
     rw [hv] at e1;clear hv;go_wp2_with fail;go_quiet (fail);go_wp2_with fail;go_quiet (fail);go_wp2;go_roundw
     case rel => exact ⟨j,_,by omega,by go_num,by show _ = _; rw [List.drop_eq_getElem_cons hx,List.drop_eq_getElem_cons hy,Hv.out,Hd.out],rfl⟩
     case measure => simp [intOf]
    ·have E := i' (k'6y NN.out.1 NN.out.2 Hl.out j hx hy Hd.out (Nat.ne_of_gt hv))
     have E2 := i' (k'2q hv);have hvi : (Y[j] : Int) < (X[j] : Int) := by omega
     clear hv;go_wp2_with fail;go_quiet (fail);go_wp2_with fail;go_quiet (fail);go_wp2;go_ret;exact ⟨by rw [← E.out,E2.out]; rfl,_,(by rw [World.drewN_drewN,World.drewN_drewN])⟩
 ·have E := i' (k'2q (Nm.val_lt_of_len D90 d2 n1 hl))
  have hb : (((X.length : Int)) != (Y.length : Int)) = true := by simp; omega
  have hge : ¬ ((X.length : Int) < (Y.length : Int)) := by omega
  clear NN d1 d2 n1 n2;go_enter Tryz.func122,Tryz.ntmps122;go_wp2;go_ret;exact ⟨by rw [E.out]; rfl,0,rfl⟩
def MInv (X Y : List Nat) (k c : Nat) (l : List Nat) : Prop :=
 l.length = k ∧ Nm.Dig D9 l ∧ c ≤ 1 ∧ Nm.val D9 l + Nm.val D9 (Y.take k) = Nm.val D9 (X.take k) + D9 ^ k * c
theorem MInv.step {X Y l : List Nat} {k c x y r q : Nat} (h : MInv X Y k c l) (hX : X.getD k 0 = x) (hY : Y.getD k 0 = y) (hr : r < D9) (hq : q ≤ 1) (he : r + y + c = x + D9 * q) :
 MInv X Y (k + 1) q (l ++ [r]) := by
 obtain ⟨h1,h2,h3,h4⟩ := h;refine ⟨by simp [h1],Nm.dig_append.2 ⟨h2,Nm.dig_cons.2 ⟨hr,Nm.dig_nil _⟩⟩,hq,?_⟩
 rw [Nm.val_snoc,h1,k'6t,k'6t,Nat.pow_succ,hX,hY];have e1 : D9 ^ k * (r + y + c) = D9 ^ k * (x + D9 * q) := by rw [he]
 generalize D9 ^ k = P at *
 grind
theorem MInv.finish {X Y l : List Nat} {c : Nat} (h : MInv X Y X.length c l) (hY : Y.length ≤ X.length) (hle : Nm.val D9 Y ≤ Nm.val D9 X) : Nm.trimL l = Nm.dg D9 (Nm.val D9 X - Nm.val D9 Y) := by
 obtain ⟨h1,h2,h3,h4⟩ := h;rw [List.take_length,List.take_of_length_le hY] at h4;have hlt := Nm.val_lt h2;rw [h1] at hlt;rw [Nm.trimL_dg D92 h2];have : c = 0 := by
  rcases Nat.eq_zero_or_pos c with h0 | h0
  ·exact h0
  ·have : D9 ^ X.length * 1 ≤ D9 ^ X.length * c := Nat.mul_le_mul_left _ h0
   omega
 subst this
 congr 1
 omega
theorem k'70 {x y c : Nat} {xx yy cc : Int} (hx : (x : Int) = xx) (hy : (y : Int) = yy) (hc : cc = (c : Int)) (bx : xx < 1000000000) (by0 : yy < 1000000000) (bc : cc ≤ 1) :
 (xx - cc - yy < 0 → ∃ r : Nat,(r : Int) = xx - cc - yy + 1000000000 ∧ r < D9 ∧ r + y + c = x + D9 * 1) ∧ (¬ xx - cc - yy < 0 → ∃ r : Nat,(r : Int) = xx - cc - yy ∧ r < D9 ∧ r + y + c = x + D9 * 0) := by
 unfold D9;subst hx hy hc;refine ⟨fun h => ⟨((x : Int) - c - y + 1000000000).toNat,by omega,by omega,by omega⟩,fun h => ⟨((x : Int) - c - y).toNat,by omega,by omega,by omega⟩⟩
theorem k'71 {x c : Nat} {xx cc : Int} (hx : (x : Int) = xx) (hc : cc = (c : Int)) (bx : xx < 1000000000) (bc : cc ≤ 1) :
 (xx - cc < 0 → ∃ r : Nat,(r : Int) = xx - cc + 1000000000 ∧ r < D9 ∧ r + 0 + c = x + D9 * 1) ∧ (¬ xx - cc < 0 → ∃ r : Nat,(r : Int) = xx - cc ∧ r < D9 ∧ r + 0 + c = x + D9 * 0) := by
 unfold D9;subst hx hc;refine ⟨fun h => ⟨((x : Int) - c + 1000000000).toNat,by omega,by omega,by omega⟩,fun h => ⟨((x : Int) - c).toNat,by omega,by omega,by omega⟩⟩
theorem k'72 (v1 v2 : Value) (m n : Nat) (w : World) (hmn : n ≤ m) (h1 : Ri w v1 (Nm.dg D9 m)) (h2 : Ri w v2 (Nm.dg D9 n)) (l1 : (Nm.dg D9 m).length ≤ 1000000) (l2 : (Nm.dg D9 n).length ≤ 1000000) :
 Calls Tryz.prog 123 #[v1,v2] w (GivesI (m - n) w) := by
 have dx := Nm.dig_dg D92 m;have dy := Nm.dig_dg D92 n;have ny := Nm.nrm_dg D92 n;have e1 := Nm.val_dg D92 m;have e2 := Nm.val_dg D92 n;have HV := i' (show Nm.val D9 (Nm.dg D9 m) - Nm.val D9 (Nm.dg D9 n) = m - n by rw [e1,e2])
 have HL := i' (show Nm.val D9 (Nm.dg D9 n) ≤ Nm.val D9 (Nm.dg D9 m) by rw [e1,e2]; exact hmn)
 rw [← HV.out];clear HV e1 e2;generalize Nm.dg D9 m = X at *;generalize Nm.dg D9 n = Y at *;have HLL : Hid (Y.length ≤ X.length) := by
  rcases Nat.lt_or_ge X.length Y.length with g | g
  ·have g1 := Nm.val_lt_of_len D90 dx ny g
   have g2 := HL.out;omega
  ·exact g
 obtain ⟨p1,b1,o1,c1,rfl,_,_,hp1,_,g1⟩ := h1;obtain ⟨p2,b2,o2,c2,rfl,_,_,hp2,_,g2⟩ := h2;have hi3 : (Tryz.prog.info? 3).map (fun i => (i.zero,i.size,i.bytes)) = some (some (.int .i64 0),1,8) := by kernel_rfl
 obtain ⟨i0,hi0,hz0,hz1,hz2⟩ := info_parts hi3;have HI := i' (And.intro hi0 (And.intro hz0 (And.intro hz1 hz2)));have Hp1 := i' hp1;have Hp2 := i' hp2;have G1 := i' g1;have G2 := i' g2;have NN := i' (And.intro dx dy);have HT := i' (fun v xs w h => k'6s v xs w h);clear hi3 hi0 hz0 hz1 hz2 hp1 hp2 g1 g2 dx dy ny hmn;go_enter Tryz.func123,Tryz.ntmps123;go_wp2;go_loopw [5,6,7] (fun v cv i wr => ∃ (k c : Nat) (cc : Int) (l : List Nat),k ≤ X.length ∧ i = .int .i64 (k : Nat) ∧ cv = .int .i64 cc ∧ 0 ≤ cc ∧ cc ≤ 1 ∧ Hid (cc = (c : Int)) ∧ Hid (MInv X Y k c l) ∧ Hid (wr.ownsRow w.heap.size 3 1 v l.length (iv l)) ∧ Hid (Below w.heap.size w wr))
  (fun _ _ i _ => X.length - (intOf i).toNat)
 case atStart =>
  exact ⟨0,0,0,[],by omega,rfl,rfl,by omega,by omega,rfl,⟨rfl,Nm.dig_nil _,by omega,by simp [Nm.val]⟩,World.ownsRow_nil _ _ _ _,Below.refl _ _⟩
 case round =>
  rename_i wr _;obtain ⟨k,c,cc,l,hk,rfl,rfl,hc0,hc1,hcc,hinv,hown,hbl⟩ := hrel;by_cases hx : k < X.length
  ·by_cases hy : k < Y.length
   ·have _ := hx
    obtain rfl := Hp1.out (by intro e; rw [e] at hx; exact absurd hx (Nat.not_lt_zero _))
    have e1 := k'e hbl.out (G1.out k hx);have hX : (0 : Int) ≤ (X[k] : Int) ∧ (X[k] : Int) < 1000000000 := by have h5 : X[k] < 1000000000 := Nm.dig_get NN.out.1 k hx; omega
    have hx0 : X.getD k 0 = X[k] := by simp [hx]
    obtain ⟨x,hxx⟩ : ∃ x : Int,(X[k] : Int) = x := ⟨_,rfl⟩;rw [hxx] at hX e1;obtain ⟨hX1,hX2⟩ := hX;obtain rfl := Hp2.out (by intro e; rw [e] at hy; exact absurd hy (Nat.not_lt_zero _))
    have e2 := k'e hbl.out (G2.out k hy);have hY : (0 : Int) ≤ (Y[k] : Int) ∧ (Y[k] : Int) < 1000000000 := by have h5 : Y[k] < 1000000000 := Nm.dig_get NN.out.2 k hy; omega
    have hy0 : Y.getD k 0 = Y[k] := by simp [hy]
    obtain ⟨y,hyy⟩ : ∃ y : Int,(Y[k] : Int) = y := ⟨_,rfl⟩;rw [hyy] at hY e2;obtain ⟨hY1,hY2⟩ := hY;have hd := k'70 hxx hyy hcc.out hX2 hY2 hc1;by_cases hn : x - cc - y < 0
    ·have _ := hn
     obtain ⟨r,hr0,hr1,hr2⟩ := hd.1 hn;have hst := hinv.out.step hx0 hy0 hr1 (Nat.le_refl 1) hr2;have HS := i' hst;have HR := i' hr0;have hlk : Hid (l.length ≤ 1000000) := by rw [hinv.out.1]; show _ ≤ _; omega
     have hk2 : k + 1 ≤ X.length := hx;have hbase : Hid (w.heap.size ≤ wr.heap.size) := hbl.out.size;clear hst hr0 hr1 hr2 hd hinv hx0 hy0 hxx hyy;go_wp2_with (at_builtin; refine wpList_append_own _ rfl _ _ 24 rfl w.heap.size 3 i0 (.int .i64 0) 1 8 Tryz.underlying24 HI.out.1 HI.out.2.1 HI.out.2.2.1 HI.out.2.2.2 rfl (by decide) _ _ _ rfl (hown.out.alloc _) ⟨wr.heap.size,0,none⟩ 1 1 [.int .i64 (x - cc - y + 1000000000)] rfl rfl ?dc1 ?dc2 ?dc3 ?dc4 ?dc5 ?_)
     case dc2 => rfl
     case dc3 => have h5 := hlk.out; unfold maxLen; omega
     case dc4 => have h5 := hlk.out; omega
     case dc5 => have h5 := hbase.out; omega
     intro v' w1 hown1 hgrow1 _;have hbl1 : Hid (Below w.heap.size w w1) := (hbl.out.alloc hbase.out _).grown hgrow1 (by have h5 := hbase.out; simp; omega) (fun q hq => (hown.out.lt q hq).1)
     have hown2 : Hid (w1.ownsRow w.heap.size 3 1 v' (l ++ [r]).length (iv (l ++ [r]))) := by
      show World.ownsRow _ _ _ _ _ _ _;rw [k'6r,List.length_append,HR.out];exact hown1
     clear hown1 hgrow1 hbl hown;go_wp2;go_roundw
     case rel => exact ⟨k + 1,1,1,l ++ [r],hk2,by go_num,rfl,by omega,by omega,rfl,HS.out,hown2,hbl1⟩
     case measure => simp [intOf]; omega
    ·have _ := hn
     obtain ⟨r,hr0,hr1,hr2⟩ := hd.2 hn;have hst := hinv.out.step hx0 hy0 hr1 (Nat.zero_le 1) hr2;have HS := i' hst;have HR := i' hr0;have hlk : Hid (l.length ≤ 1000000) := by rw [hinv.out.1]; show _ ≤ _; omega
     have hk2 : k + 1 ≤ X.length := hx;have hbase : Hid (w.heap.size ≤ wr.heap.size) := hbl.out.size;clear hst hr0 hr1 hr2 hd hinv hx0 hy0 hxx hyy;go_wp2_with (at_builtin; refine wpList_append_own _ rfl _ _ 24 rfl w.heap.size 3 i0 (.int .i64 0) 1 8 Tryz.underlying24 HI.out.1 HI.out.2.1 HI.out.2.2.1 HI.out.2.2.2 rfl (by decide) _ _ _ rfl (hown.out.alloc _) ⟨wr.heap.size,0,none⟩ 1 1 [.int .i64 (x - cc - y)] rfl rfl ?cc1 ?cc2 ?cc3 ?cc4 ?cc5 ?_)
     case cc2 => rfl
     case cc3 => have h5 := hlk.out; unfold maxLen; omega
     case cc4 => have h5 := hlk.out; omega
     case cc5 => have h5 := hbase.out; omega
     intro v' w1 hown1 hgrow1 _;have hbl1 : Hid (Below w.heap.size w w1) := (hbl.out.alloc hbase.out _).grown hgrow1 (by have h5 := hbase.out; simp; omega) (fun q hq => (hown.out.lt q hq).1)
     have hown2 : Hid (w1.ownsRow w.heap.size 3 1 v' (l ++ [r]).length (iv (l ++ [r]))) := by
      show World.ownsRow _ _ _ _ _ _ _;rw [k'6r,List.length_append,HR.out];exact hown1
     clear hown1 hgrow1 hbl hown;go_wp2;go_roundw
     case rel => exact ⟨k + 1,0,0,l ++ [r],hk2,by go_num,rfl,by omega,by omega,rfl,HS.out,hown2,hbl1⟩
     case measure => simp [intOf]; omega
   ·have _ := hx
    obtain rfl := Hp1.out (by intro e; rw [e] at hx; exact absurd hx (Nat.not_lt_zero _))
    have e1 := k'e hbl.out (G1.out k hx);have hX : (0 : Int) ≤ (X[k] : Int) ∧ (X[k] : Int) < 1000000000 := by have h5 : X[k] < 1000000000 := Nm.dig_get NN.out.1 k hx; omega
    have hx0 : X.getD k 0 = X[k] := by simp [hx]
    obtain ⟨x,hxx⟩ : ∃ x : Int,(X[k] : Int) = x := ⟨_,rfl⟩;rw [hxx] at hX e1;obtain ⟨hX1,hX2⟩ := hX;have hy0 : Y.getD k 0 = 0 := by simp at hy; simp [hy]
    have hd := k'71 hxx hcc.out hX2 hc1;by_cases hn : x - cc < 0
    ·have _ := hn
     obtain ⟨r,hr0,hr1,hr2⟩ := hd.1 hn;have hst := hinv.out.step hx0 hy0 hr1 (Nat.le_refl 1) hr2;have HS := i' hst;have HR := i' hr0;have hlk : Hid (l.length ≤ 1000000) := by rw [hinv.out.1]; show _ ≤ _; omega
     have hk2 : k + 1 ≤ X.length := hx;have hbase : Hid (w.heap.size ≤ wr.heap.size) := hbl.out.size;clear hst hr0 hr1 hr2 hd hinv hx0 hy0 hxx;go_wp2_with (at_builtin; refine wpList_append_own _ rfl _ _ 24 rfl w.heap.size 3 i0 (.int .i64 0) 1 8 Tryz.underlying24 HI.out.1 HI.out.2.1 HI.out.2.2.1 HI.out.2.2.2 rfl (by decide) _ _ _ rfl (hown.out.alloc _) ⟨wr.heap.size,0,none⟩ 1 1 [.int .i64 (x - cc + 1000000000)] rfl rfl ?bc1 ?bc2 ?bc3 ?bc4 ?bc5 ?_)
     case bc2 => rfl
     case bc3 => have h5 := hlk.out; unfold maxLen; omega
     case bc4 => have h5 := hlk.out; omega
     case bc5 => have h5 := hbase.out; omega
     intro v' w1 hown1 hgrow1 _;have hbl1 : Hid (Below w.heap.size w w1) := (hbl.out.alloc hbase.out _).grown hgrow1 (by have h5 := hbase.out; simp; omega) (fun q hq => (hown.out.lt q hq).1)
     have hown2 : Hid (w1.ownsRow w.heap.size 3 1 v' (l ++ [r]).length (iv (l ++ [r]))) := by
      show World.ownsRow _ _ _ _ _ _ _;rw [k'6r,List.length_append,HR.out];exact hown1
     clear hown1 hgrow1 hbl hown;go_wp2;go_roundw
     case rel => exact ⟨k + 1,1,1,l ++ [r],hk2,by go_num,rfl,by omega,by omega,rfl,HS.out,hown2,hbl1⟩
     case measure => simp [intOf]; omega
    ·have _ := hn
     obtain ⟨r,hr0,hr1,hr2⟩ := hd.2 hn;have hst := hinv.out.step hx0 hy0 hr1 (Nat.zero_le 1) hr2;have HS := i' hst;have HR := i' hr0;have hlk : Hid (l.length ≤ 1000000) := by rw [hinv.out.1]; show _ ≤ _; omega
     have hk2 : k + 1 ≤ X.length := hx;have hbase : Hid (w.heap.size ≤ wr.heap.size) := hbl.out.size;clear hst hr0 hr1 hr2 hd hinv hx0 hy0 hxx;go_wp2_with (at_builtin; refine wpList_append_own _ rfl _ _ 24 rfl w.heap.size 3 i0 (.int .i64 0) 1 8 Tryz.underlying24 HI.out.1 HI.out.2.1 HI.out.2.2.1 HI.out.2.2.2 rfl (by decide) _ _ _ rfl (hown.out.alloc _) ⟨wr.heap.size,0,none⟩ 1 1 [.int .i64 (x - cc)] rfl rfl ?ac1 ?ac2 ?ac3 ?ac4 ?ac5 ?_)
     case ac2 => rfl
     case ac3 => have h5 := hlk.out; unfold maxLen; omega
     case ac4 => have h5 := hlk.out; omega
     case ac5 => have h5 := hbase.out; omega
     intro v' w1 hown1 hgrow1 _;have hbl1 : Hid (Below w.heap.size w w1) := (hbl.out.alloc hbase.out _).grown hgrow1 (by have h5 := hbase.out; simp; omega) (fun q hq => (hown.out.lt q hq).1)
     have hown2 : Hid (w1.ownsRow w.heap.size 3 1 v' (l ++ [r]).length (iv (l ++ [r]))) := by
      show World.ownsRow _ _ _ _ _ _ _;rw [k'6r,List.length_append,HR.out];exact hown1
     clear hown1 hgrow1 hbl hown;go_wp2;go_roundw
     case rel => exact ⟨k + 1,0,0,l ++ [r],hk2,by go_num,rfl,by omega,by omega,rfl,HS.out,hown2,hbl1⟩
     case measure => simp [intOf]; omega
  ·obtain rfl : k = X.length := by omega
   have HE : Hid (Nm.trimL l = Nm.dg D9 (Nm.val D9 X - Nm.val D9 Y)) := hinv.out.finish HLL.out HL.out;have HO := i' (Ri.of_own hown.out);clear hinv;go_wp2_with (go_at_call 95; (with_reducible refine (HT.out _ _ _ HO.out).mono ?_); rintro e w5 ⟨v5,rfl,h5,rfl⟩);go_ret;exact ⟨_,rfl,by rw [← HE.out]; exact h5,hbl.out⟩
theorem k'73 (l : List Nat) (k n : Nat) : (iv l).set k (.int .i64 (n : Int)) = iv (l.set k n) := by simp [iv,List.map_set]
def Ari (w : World) (g : Nat) (l : List Nat) : Prop := w.heap[g]? = some (.cells (iv l).toArray 3 (0,0))
theorem Ari.lt {w : World} {g : Nat} {l : List Nat} (h : Ari w g l) : g < w.heap.size := lt_of_block h
theorem Ari.cell {w : World} {g : Nat} {l : List Nat} (h : Ari w g l) (k : Nat) (hk : k < l.length) : w.cell? ⟨g,k,none⟩ = some (.int .i64 (l[k] : Int)) := by
 rw [cell_of_row w g k _ _ _ h]; simpa using k'6q l k hk
theorem Ari.free {w : World} {g : Nat} {l : List Nat} (h : Ari w g l) (k : Nat) : w.frozen? ⟨g,k,none⟩ = false := frozen_of_row w g k _ _ h
theorem Ari.set {w : World} {g : Nat} {l : List Nat} (h : Ari w g l) (k n : Nat) : Ari (w.setCell ⟨g,k,none⟩ (.int .i64 (n : Int))) g (l.set k n) := by
 have := heap_setCell_same w g k _ _ (.int .i64 (n : Int)) h;rw [Ari,this];simp [← k'73]
theorem Ari.keep {w w' : World} {g : Nat} {l : List Nat} (h : Ari w g l) (he : w'.heap[g]? = w.heap[g]?) : Ari w' g l := he.trans h
theorem Ari.drewN {w : World} {g : Nat} {l : List Nat} (h : Ari w g l) (n : Nat) : Ari (w.drewN n) g l := h
theorem Ari.made (w : World) (l : List Nat) : Ari (w.alloc (.cells (iv l).toArray 3)) w.heap.size l := heap_alloc_new w _
theorem Ri.of_ari {w : World} {g : Nat} {l : List Nat} (h : Ari w g l) (n : Nat) (h1 : l.length = n) (h3 : n ≤ maxLen) : Ri w (.slice (some ⟨g,0,none⟩) n n) l := by
 subst h1;refine ⟨some ⟨g,0,none⟩,g,0,l.length,rfl,Nat.le_refl _,h3,fun _ => rfl,Or.inr ⟨rfl,h.lt,_,_,h⟩,fun k hk => ?_⟩;rw [h.cell (0 + k) (by omega)]
 simp
theorem k'74 (n : Nat) (w : World) (hn : n ≤ 1099511627776) :
 (Instr.makeSlice 24 (.int .i64 (n : Int)) (.int .i64 (n : Int))).run Tryz.prog w = .ok (.slice (some ⟨w.heap.size,0,none⟩) n n) (w.alloc (.cells (iv (List.replicate n 0)).toArray 3)) := by
 have hi : (Tryz.prog.info? 3).map (fun i => (i.zero,i.size,i.bytes)) = some (some (.int .i64 0),1,8) := by kernel_rfl
 obtain ⟨i,hi,hz,hs,hb⟩ := info_parts hi;rw [run_make w 24 3 i (.int .i64 0) Tryz.underlying24 hi hz .i64 .i64 n n (by omega) (by omega) (by rw [hb]; omega) (by omega)]
 simp only [Int.toNat_natCast,hs,Nat.mul_one];have hm : madeCells (Value.cells (.int .i64 0)) n = (iv (List.replicate n 0)).toArray := by
  apply Array.ext';simp [madeCells,Value.cells,iv,Nat.mod_one,List.map_const']
 rw [hm]
theorem k'75 (n m : Nat) (hn : n ≤ 1000000000) (hm : m ≤ 1000000000) (w : World) :
 (Instr.makeSlice 24 (.int .i64 ((n : Int) + (m : Int))) (.int .i64 ((n : Int) + (m : Int)))).run Tryz.prog w = .ok (.slice (some ⟨w.heap.size,0,none⟩) (n + m) (n + m)) (w.alloc (.cells (iv (List.replicate (n + m) 0)).toArray 3)) :=
 k'74 (n + m) w (by omega)
theorem k'76 (B : Nat) : ∀ (l : List Nat) (j x : Nat),j < l.length → Nm.val B (l.set j x) + B ^ j * l.getD j 0 = Nm.val B l + B ^ j * x
 | [],j,x,h => absurd h (by simp)
 | a :: l,0,x,h => by simp [Nm.val_cons]; omega
 | a :: l,j + 1,x,h => by
  have ih := k'76 B l j x (by simpa using h)
  simp only [List.set_cons_succ,Nm.val_cons,List.getD_cons_succ,Nat.pow_succ];generalize Nm.val B (l.set j x) = p at *;generalize Nm.val B l = q at *;generalize l.getD j 0 = d at *;generalize B ^ j = P at *
  grind
theorem k'77 {B : Nat} {l : List Nat} (h : Nm.Dig B l) (j x : Nat) (hx : x < B) : Nm.Dig B (l.set j x) := by
 intro y hy;rcases List.mem_or_eq_of_mem_set hy with h1 | h1
 ·exact h y h1
 ·rw [h1]; exact hx
theorem k'78 {l : List Nat} {i j x : Nat} (h : i ≠ j) : (l.set i x).getD j 0 = l.getD j 0 := by
 simp [List.getElem?_set,h]
def OInv (X Y : List Nat) (i : Nat) (l : List Nat) : Prop :=
 l.length = X.length + Y.length ∧ Nm.Dig D9 l ∧ Nm.val D9 l = Nm.val D9 (X.take i) * Nm.val D9 Y ∧ ∀ j,i + Y.length ≤ j → l.getD j 0 = 0
def TInv (X Y : List Nat) (i a k c : Nat) (l : List Nat) : Prop :=
 l.length = X.length + Y.length ∧ Nm.Dig D9 l ∧ c < D9 ∧ Nm.val D9 l + D9 ^ (i + k) * c = Nm.val D9 (X.take i) * Nm.val D9 Y + D9 ^ i * a * Nm.val D9 (Y.take k) ∧
  (∀ j,i + Y.length + 1 ≤ j → l.getD j 0 = 0) ∧ (k ≤ Y.length → l.getD (i + Y.length) 0 = 0) ∧ k ≤ Y.length + 1 ∧ (k = Y.length + 1 → c = 0)
theorem OInv.start (X Y : List Nat) : OInv X Y 0 (List.replicate (X.length + Y.length) 0) :=
 ⟨by simp,fun x hx => by rw [List.eq_of_mem_replicate hx]; exact D90,by simp [Nm.val,Nm.val_zeros],fun j _ => by simp [List.getElem?_replicate]; split <;> rfl⟩
theorem OInv.row {X Y l : List Nat} {i : Nat} (a : Nat) (h : OInv X Y i l) : TInv X Y i a 0 0 l := by
 obtain ⟨h1,h2,h3,h4⟩ := h;exact ⟨h1,h2,D90,by rw [h3]; simp [Nm.val],fun j hj => h4 j (by omega),fun _ => h4 _ (Nat.le_refl _),Nat.zero_le _,fun h => absurd h (by omega)⟩
theorem TInv.row {X Y l : List Nat} {i k : Nat} (hi : i < X.length) (h : TInv X Y i (X.getD i 0) k 0 l) (hk : Y.length ≤ k) : OInv X Y (i + 1) l := by
 obtain ⟨h1,h2,h3,h4,h5,h6,h7,h8⟩ := h;refine ⟨h1,h2,?_,fun j hj => h5 j (by omega)⟩
 rw [k'6t];rw [List.take_of_length_le hk,Nat.mul_zero,Nat.add_zero] at h4;rw [h4]; grind
theorem TInv.step {X Y l : List Nat} {i a k c : Nat} (hi : i < X.length) (ha : a < D9) (dy : Nm.Dig D9 Y) (h : TInv X Y i a k c l) (hc : k < Y.length ∨ 0 < c) :
 i + k < l.length ∧ TInv X Y i a (k + 1) ((l.getD (i + k) 0 + c + a * Y.getD k 0) / D9) (l.set (i + k) ((l.getD (i + k) 0 + c + a * Y.getD k 0) % D9)) := by
 obtain ⟨h1,h2,h3,h4,h5,h6,h7,h8⟩ := h;have hk : k ≤ Y.length := by
  rcases hc with g | g
  ·omega
  ·rcases Nat.lt_or_ge Y.length k with q | q
   ·have := h8 (by omega); omega
   ·exact q
 have hlt : i + k < l.length := by omega
 have hd : l.getD (i + k) 0 < D9 := by simp [hlt]; exact Nm.dig_get h2 _ hlt
 have hy : Y.getD k 0 < D9 := by
  rcases Nat.lt_or_ge k Y.length with g | g
  ·simp [g]; exact Nm.dig_get dy k g
  ·simp [g]; exact D90
 have hy0 : k = Y.length → Y.getD k 0 = 0 := fun e => by
  have g1 : Y.length ≤ k := by omega
  simp [g1]
 have hs := k'76 D9 l (i + k) ((l.getD (i + k) 0 + c + a * Y.getD k 0) % D9) hlt;refine ⟨hlt,by simpa using h1,k'77 h2 _ _ (Nat.mod_lt _ D90),?_,?_,fun j hj => by rw [k'78 (by omega)]; exact h5 j hj,fun hk2 => by rw [k'78 (by omega)]; exact h6 hk,by omega,fun e => ?_⟩
 ·rw [Nat.div_lt_iff_lt_mul D90]
  have h9 : a * Y.getD k 0 ≤ (D9 - 1) * (D9 - 1) := Nat.mul_le_mul (by omega) (by omega)
  generalize a * Y.getD k 0 = p at *;unfold D9 at *;omega
 ·rw [k'6t]
  have hm := Nat.mod_add_div (l.getD (i + k) 0 + c + a * Y.getD k 0) D9;have e2 : D9 ^ (i + (k + 1)) = D9 ^ (i + k) * D9 := by rw [← Nat.add_assoc,Nat.pow_succ]
  have e3 : D9 ^ (i + k) = D9 ^ i * D9 ^ k := Nat.pow_add _ _ _;have e1 : D9 ^ (i + k) * ((l.getD (i + k) 0 + c + a * Y.getD k 0) % D9 + D9 * ((l.getD (i + k) 0 + c + a * Y.getD k 0) / D9)) = D9 ^ (i + k) * (l.getD (i + k) 0 + c + a * Y.getD k 0) := by rw [hm]
  rw [e2];generalize (l.getD (i + k) 0 + c + a * Y.getD k 0) % D9 = r at *;generalize (l.getD (i + k) 0 + c + a * Y.getD k 0) / D9 = q at *;generalize Nm.val D9 (l.set (i + k) r) = v at *;generalize Nm.val D9 l = v0 at *;generalize l.getD (i + k) 0 = d at *;generalize Y.getD k 0 = y at *;generalize Nm.val D9 (Y.take k) = vy at *;generalize Nm.val D9 (X.take i) * Nm.val D9 Y = vx at *;have e4 : D9 ^ i * a * (vy + D9 ^ k * y) = D9 ^ i * a * vy + D9 ^ (i + k) * (a * y) := by rw [e3]; grind
  rw [e4];generalize D9 ^ (i + k) = P at *;generalize D9 ^ i * a * vy = Q at *
  grind
 ·have e5 : k = Y.length := by omega
  rw [hy0 e5,e5,h6 hk,Nat.mul_zero,Nat.add_zero,Nat.zero_add];exact Nat.div_eq_of_lt h3
theorem OInv.finish {X Y l : List Nat} (h : OInv X Y X.length l) : Nm.trimL l = Nm.dg D9 (Nm.val D9 X * Nm.val D9 Y) := by
 obtain ⟨h1,h2,h3,h4⟩ := h;rw [Nm.trimL_dg D92 h2,h3,List.take_length]
theorem k'7a {B : Nat} {a w : World} (h : Below B a w) (n : Nat) : Below B a (w.drewN n) := ⟨h.os,h.tape,h.output,h.size,h.block⟩
theorem k'7b {x y : Int} (hx : 0 ≤ x ∧ x < 1000000000) (hy : 0 ≤ y ∧ y < 1000000000) : 0 ≤ x * y ∧ x * y ≤ 999999998000000001 := by
 refine ⟨Int.mul_nonneg hx.1 hy.1,?_⟩;have h1 : x * y ≤ x * 999999999 := Int.mul_le_mul_of_nonneg_left (by omega) hx.1
 omega
theorem k'7c {d c x y r q : Nat} {dd cc xx yy : Int} (hr : (d + c + x * y) % D9 = r) (hq : (d + c + x * y) / D9 = q) (hd : (d : Int) = dd) (hc : cc = (c : Int)) (hx : (x : Int) = xx) (hy : (y : Int) = yy) :
 (dd + cc + xx * yy) % 1000000000 = (r : Int) ∧ (dd + cc + xx * yy) / 1000000000 = (q : Int) := by
 have e : (dd + cc + xx * yy) = ((d + c + x * y : Nat) : Int) := by subst hd hc hx hy; simp
 rw [e];unfold D9 at hr hq;generalize d + c + x * y = s at *;omega
theorem k'7d {d c x r q : Nat} {dd cc : Int} (hr : (d + c + x * 0) % D9 = r) (hq : (d + c + x * 0) / D9 = q) (hd : (d : Int) = dd) (hc : cc = (c : Int)) :
 (dd + cc) % 1000000000 = (r : Int) ∧ (dd + cc) / 1000000000 = (q : Int) := by
 rw [Nat.mul_zero,Nat.add_zero] at hr hq;unfold D9 at hr hq;omega
theorem k'7e (v1 v2 : Value) (X Y : List Nat) (w : World) (h1 : Ri w v1 X) (h2 : Ri w v2 Y) (l1 : X.length ≤ 1000000) (l2 : Y.length ≤ 1000000) (dx : Nm.Dig D9 X) (dy : Nm.Dig D9 Y) :
 Calls Tryz.prog 124 #[v1,v2] w (GivesI (Nm.val D9 X * Nm.val D9 Y) w) := by
 obtain ⟨p1,b1,o1,c1,rfl,_,_,hp1,_,g1⟩ := h1;obtain ⟨p2,b2,o2,c2,rfl,_,_,hp2,_,g2⟩ := h2;have hmk := k'75 X.length Y.length (by omega) (by omega)
 have Hp1 := i' hp1;have Hp2 := i' hp2;have G1 := i' g1;have G2 := i' g2;have NN := i' (And.intro dx dy);have HT := i' (fun v xs w h => k'6s v xs w h);clear hp1 hp2 g1 g2 dx dy;go_enter Tryz.func124,Tryz.ntmps124;go_wp2;clear hmk;go_loopw [6] (fun iv' wr => ∃ (i : Nat) (l : List Nat),i ≤ X.length ∧ iv' = .int .i64 (i : Nat) ∧ Hid (OInv X Y i l) ∧ Hid (Ari wr w.heap.size l) ∧ Hid (Below w.heap.size w wr))
  (fun iv' _ => X.length - (intOf iv').toNat)
 case atStart =>
  exact ⟨0,_,Nat.zero_le _,rfl,OInv.start X Y,Ari.made w _,(Below.refl _ _).alloc (Nat.le_refl _) _⟩
 case round =>
  rename_i wo _;obtain ⟨i,l,hi,rfl,hinv,harr,hbl⟩ := hrel;by_cases hx : i < X.length
  ·obtain rfl := Hp1.out (by intro e; rw [e] at hx; exact absurd hx (Nat.not_lt_zero _))
   have hrow : Hid (TInv X Y i (X.getD i 0) 0 0 l) := hinv.out.row _;have hx0 : Hid (X.getD i 0 = X[i]) := by show _ = _; simp [hx]
   have hX : (0 : Int) ≤ (X[i] : Int) ∧ (X[i] : Int) < 1000000000 := by have h5 : X[i] < 1000000000 := Nm.dig_get NN.out.1 i hx; omega
   obtain ⟨x,hxx⟩ : ∃ x : Int,(X[i] : Int) = x := ⟨_,rfl⟩;have g1 := G1.out i hx;rw [hxx] at hX g1;have HXX := i' (And.intro hxx (And.intro hX g1));have Hxi := i' hx;clear hxx hX g1 hinv;go_wp2;go_loopw [7,8] (fun cv kv wr => ∃ (k c : Nat) (cc : Int) (l : List Nat),k ≤ 1000001 ∧ kv = .int .i64 (k : Nat) ∧ cv = .int .i64 cc ∧ 0 ≤ cc ∧ cc < 1000000000 ∧ Hid (cc = (c : Int)) ∧ Hid (TInv X Y i (X.getD i 0) k c l) ∧ Hid (Ari wr w.heap.size l) ∧ Hid (Below w.heap.size w wr))
    (fun _ kv _ => Y.length + 1 - (intOf kv).toNat)
   case atStart =>
    exact ⟨0,0,0,l,by omega,rfl,rfl,by omega,by omega,rfl,hrow,harr,hbl⟩
   case round =>
    rename_i wr _;clear hrow harr hbl;obtain ⟨k,c,cc,l,hk,rfl,rfl,hc0,hc1,hcc,hinv,harr,hbl⟩ := hrel;by_cases hy : k < Y.length
    ·have _ := hy
     obtain ⟨hlt,hst⟩ := hinv.out.step Hxi.out (by rw [hx0.out]; exact Nm.dig_get NN.out.1 i Hxi.out) NN.out.2 (Or.inl hy)
     have hkY : k ≤ Y.length := by have h5 := hst.2.2.2.2.2.2.1; omega
     have hlen : l.length = X.length + Y.length := hinv.out.1;have hd0 : l.getD (i + k) 0 = l[i + k] := by simp [hlt]
     have hD : (0 : Int) ≤ (l[i + k] : Int) ∧ (l[i + k] : Int) < 1000000000 := by have h5 : l[i + k] < 1000000000 := Nm.dig_get hinv.out.2.1 (i + k) hlt; omega
     have e3 := harr.out.cell (i + k) hlt;have e4 := harr.out.free (i + k);obtain rfl := Hp2.out (by intro e; rw [e] at hy; exact absurd hy (Nat.not_lt_zero _))
     have e1 := k'e hbl.out HXX.out.2.2;have e2 := k'e hbl.out (G2.out k hy);have hY : (0 : Int) ≤ (Y[k] : Int) ∧ (Y[k] : Int) < 1000000000 := by have h5 : Y[k] < 1000000000 := Nm.dig_get NN.out.2 k hy; omega
     have hy0 : Y.getD k 0 = Y[k] := by simp [hy]
     rw [hd0,hy0] at hst;obtain ⟨r,hr⟩ : ∃ r,(l[i + k] + c + X.getD i 0 * Y[k]) % D9 = r := ⟨_,rfl⟩;obtain ⟨q,hq⟩ : ∃ q,(l[i + k] + c + X.getD i 0 * Y[k]) / D9 = q := ⟨_,rfl⟩;rw [hr,hq] at hst;obtain ⟨d,hdd⟩ : ∃ d : Int,(l[i + k] : Int) = d := ⟨_,rfl⟩;obtain ⟨y,hyy⟩ : ∃ y : Int,(Y[k] : Int) = y := ⟨_,rfl⟩;rw [hyy] at hY e2;obtain ⟨hmod,hdiv⟩ := k'7c hr hq hdd hcc.out (show ((X.getD i 0 : Nat) : Int) = x by rw [hx0.out]; exact HXX.out.1) hyy
     obtain ⟨hp1,hp2⟩ := k'7b HXX.out.2.1 hY;obtain ⟨hY1,hY2⟩ := hY;rw [hdd] at hD e3;obtain ⟨hD1,hD2⟩ := hD;have hA := fun nq => (harr.out.drewN nq).set (i + k) r;obtain ⟨rr,hrr⟩ : ∃ rr : Int,(r : Int) = rr := ⟨_,rfl⟩;obtain ⟨qq,hqq⟩ : ∃ qq : Int,(q : Int) = qq := ⟨_,rfl⟩;rw [hrr] at hmod;simp only [hrr] at hA;rw [hqq] at hdiv;have hq1 : 0 ≤ qq ∧ qq < 1000000000 := by have h5 : q < 1000000000 := hst.2.2.1; omega
     obtain ⟨hq1,hq2⟩ := hq1;have HS := i' hst;have HA := i' hA;have HQ := i' hqq;have HB := i' (fun nq => (k'7a hbl.out nq).setCell (p := ⟨w.heap.size,i + k,none⟩) (Nat.le_refl _) (.int .i64 rr));have hilt : i + k < X.length + Y.length := by omega
     clear hst hr hq hd0 hy0 hinv hrr hqq hdd hA harr hyy;go_wp2_with fail;go_quiet (fail);go_wp2;go_roundw
     case rel => exact ⟨k + 1,q,qq,l.set (i + k) r,by omega,by go_num,by rw [hdiv],hq1,hq2,HQ.out.symm,HS.out,HA.out _,HB.out _⟩
     case measure => simp [intOf]; omega
    ·rcases Nat.eq_zero_or_pos c with hcp | hcp
     ·have hcz : cc = 0 := by rw [hcc.out,hcp]; rfl
      subst hcz;subst hcp;have HE : Hid (OInv X Y (i + 1) l) := hinv.out.row Hxi.out (by omega)
      clear hinv;go_wp2;go_roundw
      case rel => exact ⟨i + 1,l,Hxi.out,by go_num,HE,harr,hbl⟩
      case measure => have h5 := Hxi.out; simp [intOf]; omega
     ·have _ := hcp
      obtain ⟨hlt,hst⟩ := hinv.out.step Hxi.out (by rw [hx0.out]; exact Nm.dig_get NN.out.1 i Hxi.out) NN.out.2 (Or.inr hcp)
      have hkY : k ≤ Y.length := by have h5 := hst.2.2.2.2.2.2.1; omega
      have hlen : l.length = X.length + Y.length := hinv.out.1;have hd0 : l.getD (i + k) 0 = l[i + k] := by simp [hlt]
      have hD : (0 : Int) ≤ (l[i + k] : Int) ∧ (l[i + k] : Int) < 1000000000 := by have h5 : l[i + k] < 1000000000 := Nm.dig_get hinv.out.2.1 (i + k) hlt; omega
      have e3 := harr.out.cell (i + k) hlt;have e4 := harr.out.free (i + k);have hy0 : Y.getD k 0 = 0 := by simp at hy; simp [hy]
      rw [hd0,hy0] at hst;obtain ⟨r,hr⟩ : ∃ r,(l[i + k] + c + X.getD i 0 * 0) % D9 = r := ⟨_,rfl⟩;obtain ⟨q,hq⟩ : ∃ q,(l[i + k] + c + X.getD i 0 * 0) / D9 = q := ⟨_,rfl⟩;rw [hr,hq] at hst;obtain ⟨d,hdd⟩ : ∃ d : Int,(l[i + k] : Int) = d := ⟨_,rfl⟩;obtain ⟨hmod,hdiv⟩ := k'7d hr hq hdd hcc.out;rw [hdd] at hD e3;obtain ⟨hD1,hD2⟩ := hD;have hA := fun nq => (harr.out.drewN nq).set (i + k) r;obtain ⟨rr,hrr⟩ : ∃ rr : Int,(r : Int) = rr := ⟨_,rfl⟩;obtain ⟨qq,hqq⟩ : ∃ qq : Int,(q : Int) = qq := ⟨_,rfl⟩;rw [hrr] at hmod;simp only [hrr] at hA;rw [hqq] at hdiv;have hq1 : 0 ≤ qq ∧ qq < 1000000000 := by have h5 : q < 1000000000 := hst.2.2.1; omega
      obtain ⟨hq1,hq2⟩ := hq1;have hcp1 : 0 < cc := by rw [hcc.out]; omega
      have HS := i' hst;have HA := i' hA;have HQ := i' hqq;have HB := i' (fun nq => (k'7a hbl.out nq).setCell (p := ⟨w.heap.size,i + k,none⟩) (Nat.le_refl _) (.int .i64 rr));have hilt : i + k < X.length + Y.length := by omega
      clear hst hr hq hd0 hy0 hinv hrr hqq hdd hA harr;go_wp2;go_roundw
      case rel => exact ⟨k + 1,q,qq,l.set (i + k) r,by omega,by go_num,by rw [hdiv],hq1,hq2,HQ.out.symm,HS.out,HA.out 0,HB.out 0⟩
      case measure => simp [intOf]; omega
  ·obtain rfl : i = X.length := by omega
   have HE : Hid (Nm.trimL l = Nm.dg D9 (Nm.val D9 X * Nm.val D9 Y)) := hinv.out.finish;have HO := i' (Ri.of_ari harr.out (X.length + Y.length) hinv.out.1 (by unfold maxLen; omega))
   clear hinv;go_wp2_with (go_at_call 95; (with_reducible refine (HT.out _ _ _ HO.out).mono ?_); rintro e w5 ⟨v5,rfl,h5,rfl⟩);go_ret;exact ⟨_,rfl,by rw [← HE.out]; exact h5,hbl.out⟩
theorem k'7f (v1 v2 : Value) (m n : Nat) (w : World) (h1 : Ri w v1 (Nm.dg D9 m)) (h2 : Ri w v2 (Nm.dg D9 n)) (l1 : (Nm.dg D9 m).length ≤ 1000000) (l2 : (Nm.dg D9 n).length ≤ 1000000) :
 Calls Tryz.prog 124 #[v1,v2] w (GivesI (m * n) w) := by
 have h := k'7e v1 v2 _ _ w h1 h2 l1 l2 (Nm.dig_dg D92 m) (Nm.dig_dg D92 n);rwa [Nm.val_dg D92,Nm.val_dg D92] at h
theorem k'7g {w0 W W' : World} (h : Below w0.heap.size w0 W) (k : Below W.heap.size W W') : Below w0.heap.size w0 W' := h.trans (k.mono h.size)
theorem k'7h (w : World) (o : Obj) : Below w.heap.size w (w.alloc o) := (Below.refl _ _).alloc (Nat.le_refl _) _
theorem Ri.one (w : World) (d : Nat) : Ri (w.alloc (.cells #[.int .i64 (d : Int)] 3)) (.slice (some ⟨w.heap.size,0,none⟩) 1 1) [d] :=
 Ri.of_ari (g := w.heap.size) (l := [d]) (heap_alloc_new w _) 1 rfl (by decide)
theorem k'7i (v : Value) (m d : Nat) (w : World) (hd : d < D9) (h : Ri w v (Nm.dg D9 m)) (l : (Nm.dg D9 m).length ≤ 1000000) :
 Calls Tryz.prog 94 #[v,.int .i64 (d : Int)] w (GivesI (m * d) w) := by
 rcases Nat.eq_zero_or_pos d with h0 | h0
 ·subst h0
  have hb : (((0 : Nat) : Int) == 0) = true := by decide
  go_enter Tryz.func94,Tryz.ntmps94;go_wp2;go_ret;exact ⟨_,rfl,by rw [Nat.mul_zero,Nm.dg_zero]; exact Ri.nil w,Below.refl _ _⟩
 ·have hb : ((d : Int) == 0) = false := by simp; omega
  have HM := i' (k'7e v (.slice (some ⟨w.heap.size,0,none⟩) 1 1) (Nm.dg D9 m) [d] (w.alloc (.cells #[.int .i64 (d : Int)] 3)) (h.below (k'7h w _) (Nat.le_refl _)) (Ri.one w d) l (by simp) (Nm.dig_dg D92 m) (Nm.dig_cons.2 ⟨hd,Nm.dig_nil _⟩))
  rw [Nm.val_dg D92,show Nm.val D9 [d] = d by simp [Nm.val]] at HM
  clear h hd;go_enter Tryz.func94,Tryz.ntmps94;go_wp2_with (go_at_call 124; (with_reducible refine HM.out.mono ?_); rintro e w5 ⟨v5,rfl,h5,b5⟩);go_ret;exact ⟨_,rfl,h5,k'7g (k'7h w _) b5⟩
def MadeI (b : Bool) (m : Nat) (w : World) (e : Ending) (w' : World) : Prop := ∃ v,e = .returned (.agg #[.bool b,v]) ∧ Ri w' v (Nm.dg D9 m) ∧ Below w.heap.size w w'
theorem k'7j {m : Nat} : (0 < ((Nm.dg D9 m).length : Int)) ↔ m ≠ 0 := by
 constructor
 ·intro h e; subst e; rw [Nm.dg_zero] at h; simp at h
 ·intro h
  have h1 := Nm.val_dg D92 m
  cases hd : Nm.dg D9 m with
  | nil => rw [hd] at h1; exact absurd h1.symm h
  | cons x l => simp
theorem k'7k (b : Bool) (v : Value) (m : Nat) (w : World) (h : Ri w v (Nm.dg D9 m)) :
 Calls Tryz.prog 96 #[.bool b,v] w (MadeI (b && m != 0) m w) := by
 have HR := i' h;obtain ⟨p,b1,o1,c1,rfl,hr⟩ := h;clear hr;have E := i' (k'7j (m := m))
 cases b with
 | false =>
  go_enter Tryz.func96,Tryz.ntmps96;go_wp2;exact bodyPost_ret (v := .agg #[.bool false,.slice p (Nm.dg D9 m).length c1]) (by simp [results,Tryz.results96,go_sem]) rfl ⟨_,rfl,HR.out.below (k'7h w _) (Nat.le_refl _),k'7h w _⟩
 | true =>
  have E2 : Hid (decide (0 < (Nm.dg D9 m).length) = (true && m != 0)) := by
   have h1 := E.out;show _ = _;by_cases h0 : m = 0
   ·subst h0; rfl
   ·have h2 := h1.2 h0
    rw [decide_eq_true (by omega)]; simp [h0]
  rw [← E2.out];clear E;generalize (Nm.dg D9 m).length = n at *;by_cases hb : 0 < (n : Int)
  ·go_enter Tryz.func96,Tryz.ntmps96
   go_wp2;exact bodyPost_ret (v := .agg #[.bool (decide (0 < n)),.slice p n c1]) (by simp [results,Tryz.results96,go_sem]; try omega) rfl ⟨_,rfl,HR.out.below (k'7h w _) (Nat.le_refl _),k'7h w _⟩
  ·go_enter Tryz.func96,Tryz.ntmps96
   go_wp2;exact bodyPost_ret (v := .agg #[.bool (decide (0 < n)),.slice p n c1]) (by simp [results,Tryz.results96,go_sem]; try omega) rfl ⟨_,rfl,HR.out.below (k'7h w _) (Nat.le_refl _),k'7h w _⟩
def OvInv (X : List Nat) (n k Q R : Nat) (l : List Nat) : Prop :=
 R < n ∧ Nm.val D9 (X.drop k) = n * Q + R ∧ l.length = X.length ∧ Nm.Dig D9 l ∧ Nm.val D9 (l.drop k) = Q ∧ ∀ j,j < k → l.getD j 0 = 0
theorem OvInv.start (X : List Nat) {n : Nat} (h : 0 < n) : OvInv X n X.length 0 0 (List.replicate X.length 0) :=
 ⟨h,by simp [Nm.val],by simp,fun x hx => by rw [List.eq_of_mem_replicate hx]; exact D90,by simp [Nm.val],fun j _ => by simp [List.getElem?_replicate]; split <;> rfl⟩
theorem k'7l {x R n : Nat} (hx : x < D9) (h : R < n) : x + D9 * R < D9 * n := by
 have h1 : D9 * (R + 1) ≤ D9 * n := Nat.mul_le_mul_left _ h;rw [Nat.mul_add] at h1;omega
theorem k'7m {x B n Q R q r : Nat} (hd : n * q + r = x + B * R) : x + B * (n * Q + R) = n * (q + B * Q) + r := by
 rw [Nat.mul_add,Nat.mul_add,Nat.mul_left_comm n B Q];generalize B * (n * Q) = s;omega
theorem OvInv.step {X l : List Nat} {n j Q R : Nat} (h : OvInv X n (j + 1) Q R l) (hj : j < X.length) (dx : Nm.Dig D9 X) :
 OvInv X n j ((X[j] + D9 * R) / n + D9 * Q) ((X[j] + D9 * R) % n) (l.set j ((X[j] + D9 * R) / n)) := by
 obtain ⟨h1,h2,h3,h4,h5,h6⟩ := h;have hn : 0 < n := by omega
 have hd := Nat.div_add_mod (X[j] + D9 * R) n;have hlt := k'7l (Nm.dig_get dx j hj) h1;have hq : (X[j] + D9 * R) / n < D9 := by rw [Nat.div_lt_iff_lt_mul hn]; exact hlt
 have hjl : j < l.length := by omega
 refine ⟨Nat.mod_lt _ hn,?_,by simpa using h3,k'77 h4 _ _ hq,?_,fun i hi => by rw [k'78 (by omega)]; exact h6 i (by omega)⟩
 ·rw [List.drop_eq_getElem_cons hj,Nm.val_cons,h2]
  exact k'7m hd
 ·have e : (l.set j ((X[j] + D9 * R) / n)).drop j = ((X[j] + D9 * R) / n) :: l.drop (j + 1) := by
   rw [List.drop_eq_getElem_cons (by simpa using hjl)]
   simp [List.drop_set]
  rw [e,Nm.val_cons,h5]
theorem OvInv.step0 {X l : List Nat} {n j Q R : Nat} (h : OvInv X n (j + 1) Q R l) (hj : j < X.length) (dx : Nm.Dig D9 X) (hlt : X[j] + D9 * R < n) :
 OvInv X n j (D9 * Q) (X[j] + D9 * R) l := by
 have h0 := h.step hj dx;have hjl : j < l.length := by have h3 := h.2.2.1; omega
 have hl := h.2.2.2.2.2 j (by omega)
 simp [hjl] at hl;rw [Nat.div_eq_of_lt hlt,Nat.mod_eq_of_lt hlt,Nat.zero_add,← hl,List.set_getElem_self] at h0;exact h0
theorem OvInv.finish {X l : List Nat} {n Q R : Nat} (h : OvInv X n 0 Q R l) : Nm.trimL l = Nm.dg D9 (Nm.val D9 X / n) ∧ R = Nm.val D9 X % n := by
 obtain ⟨h1,h2,h3,h4,h5,h6⟩ := h;rw [List.drop_zero] at h2 h5;have hn : 0 < n := by omega
 rw [Nm.trimL_dg D92 h4,h5,h2,Nat.mul_add_div hn,Nat.mul_add_mod,Nat.div_eq_of_lt h1,Nat.mod_eq_of_lt h1,Nat.add_zero];exact ⟨rfl,rfl⟩
theorem k'7n {x R : Nat} (hx : x < D9) : Nm.trimL (x :: Nm.dg D9 R) = Nm.dg D9 (x + D9 * R) := by
 rw [Nm.trimL_dg D92 (Nm.dig_cons.2 ⟨hx,Nm.dig_dg D92 R⟩),Nm.val_cons,Nm.val_dg D92]
theorem k'7o {x n : Nat} (h : x < D9 * n) : (Nm.dg D9 x).length ≤ (Nm.dg D9 n).length + 1 := by
 refine Nm.len_le_of_val D92 (Nm.nrm_dg D92 x) ?_;rw [Nm.val_dg D92,Nat.pow_succ,Nat.mul_comm];have h1 := Nm.val_lt (Nm.dig_dg D92 n);rw [Nm.val_dg D92] at h1;exact Nat.lt_of_lt_of_le h (Nat.mul_le_mul_left _ (Nat.le_of_lt h1))
theorem k'7p {n R a b : Nat} (hn : 0 < n) (ha : a ≤ R / n) (hb : R / n ≤ b) (hab : a < b) :
 a < (a + b + 1) / 2 ∧ (a + b + 1) / 2 ≤ b ∧ (n * ((a + b + 1) / 2) ≤ R → (a + b + 1) / 2 ≤ R / n) ∧ (¬ n * ((a + b + 1) / 2) ≤ R → R / n ≤ (a + b + 1) / 2 - 1) := by
 refine ⟨by omega,by omega,fun h => by rw [Nat.le_div_iff_mul_le hn,Nat.mul_comm]; exact h,fun h => ?_⟩
 have : ¬ (a + b + 1) / 2 ≤ R / n := fun g => h (by rw [Nat.le_div_iff_mul_le hn,Nat.mul_comm] at g; exact g)
 omega
def RiAt (B : Nat) (w : World) (v : Value) (xs : List Nat) : Prop :=
 ∃ (p : Option Addr) (b off cap : Nat),v = .slice p xs.length cap ∧ xs.length ≤ cap ∧ cap ≤ maxLen ∧ (xs ≠ [] → p = some ⟨b,off,none⟩) ∧ ((p = none ∧ cap = 0) ∨ (p = some ⟨b,off,none⟩ ∧ IntB w b ∧ B ≤ b)) ∧
  ∀ k (h : k < xs.length),w.cell? ⟨b,off + k,none⟩ = some (.int .i64 (xs[k] : Int))
theorem RiAt.ri {B : Nat} {w : World} {v : Value} {xs : List Nat} (h : RiAt B w v xs) : Ri w v xs := by
 obtain ⟨p,b,off,cap,h1,h2,h3,h4,h5,h6⟩ := h;exact ⟨p,b,off,cap,h1,h2,h3,h4,h5.imp id (fun g => ⟨g.1,g.2.1⟩),h6⟩
theorem RiAt.of_own {w : World} {B : Nat} {v : Value} {l : List Nat} (h : w.ownsRow B 3 1 v l.length (iv l)) : RiAt B w v l := by
 rcases h.2 with ⟨rfl,h0⟩ | ⟨g,cap,cur,rfl,hB,hg,hn,hm,hs,ht⟩
 ·rw [List.eq_nil_of_length_eq_zero h0]
  exact ⟨none,0,0,0,rfl,by simp,by simp,fun h => absurd rfl h,Or.inl ⟨rfl,rfl⟩,fun k h => absurd h (by simp)⟩
 ·refine ⟨some ⟨g,0,none⟩,g,0,cap,rfl,hn,hm,fun _ => rfl,Or.inr ⟨rfl,⟨lt_of_block hg,cur,_,hg⟩,hB⟩,fun k hk => ?_⟩
  have := h.cells (g := g) rfl k (.int .i64 (l[k] : Int)) (k'6q l k hk);have hadd : ((⟨g,0,none⟩ : Addr).add k) = ⟨g,0 + k,none⟩ := by unfold Addr.add; split <;> simp_all
  rwa [hadd] at this
theorem RiAt.below {B C : Nat} {w w' : World} {v : Value} {xs : List Nat} (h : RiAt B w v xs) (hb : Below C w w') (hC : w.heap.size ≤ C) : RiAt B w' v xs := by
 obtain ⟨p,b,off,cap,h1,h2,h3,h4,h5,h6⟩ := h;refine ⟨p,b,off,cap,h1,h2,h3,h4,h5.imp id (fun g => ⟨g.1,g.2.1.below hb hC,g.2.2⟩),fun k hk => ?_⟩;have hl : b < w.heap.size := World.block_lt_of_cell? w _ (h6 k hk);rw [hb.cell (p := ⟨b,off + k,none⟩) (Nat.lt_of_lt_of_le hl hC)];exact h6 k hk
theorem RiAt.set {B g o : Nat} {w : World} {v u : Value} {xs : List Nat} (h : RiAt B w v xs) (hg : g < B) : RiAt B (w.setCell ⟨g,o,none⟩ u) v xs := by
 obtain ⟨p,b,off,cap,h1,h2,h3,h4,h5,h6⟩ := h;refine ⟨p,b,off,cap,h1,h2,h3,h4,h5.imp id (fun q => ⟨q.1,q.2.1.set _ _,q.2.2⟩),fun k hk => ?_⟩;have hne : p = some ⟨b,off,none⟩ := h4 (by intro e; rw [e] at hk; exact absurd hk (Nat.not_lt_zero _))
 have hb : B ≤ b := by
  rcases h5 with q | q
  ·rw [q.1] at hne; exact absurd hne (by simp)
  ·exact q.2.2
 have hs : (w.setCell ⟨g,o,none⟩ u).heap[b]? = w.heap[b]? := Below.heap_setCell _ _ _ _ (by show b ≠ g; omega)
 rw [World.cell?_of_block (a := ⟨b,off + k,none⟩) hs];exact h6 k hk
def TrimAt (B : Nat) (xs : List Nat) (w : World) (e : Ending) (w' : World) : Prop := ∃ v,e = .returned v ∧ RiAt B w v (Nm.trimL xs) ∧ w = w'
theorem k'7q (B : Nat) (v : Value) (xs : List Nat) (w : World) (h : RiAt B w v xs) : Calls Tryz.prog 95 #[v] w (TrimAt B xs w) := by
 obtain ⟨p,b,off,cap,rfl,h2,h3,h4,h5,h6⟩ := h;have hc := h3;unfold maxLen at hc;have hl : xs.length ≤ 9223372036854775807 := by omega
 have H4 := i' h4;have H5 := i' h5;have H6 := i' h6;have H23 := i' (And.intro h2 h3);clear h2 h3 h4 h5 h6 hc;go_enter Tryz.func95,Tryz.ntmps95;go_wp2;go_loop [0] (fun v => ∃ k : Nat,k ≤ xs.length ∧ v = .slice p k cap ∧ Hid (∀ i (h : i < xs.length),k ≤ i → xs[i] = 0)) (fun v => lenOf v)
 case atStart => exact ⟨xs.length,Nat.le_refl _,rfl,fun i h hi => absurd h (by omega)⟩
 case round =>
  obtain ⟨k,hk,rfl,hz⟩ := hrel;have htake : ∀ n,n ≤ xs.length → RiAt B w (.slice p n cap) (xs.take n) := by
   intro n hn;have e : (xs.take n).length = n := by simp; omega
   refine ⟨p,b,off,cap,by rw [e],by have := H23.out.1; omega,H23.out.2,fun hne => H4.out (fun e0 => hne (by rw [e0]; simp)),H5.out,fun j hj => ?_⟩
   rw [e] at hj;rw [H6.out j (by omega)]; simp
  have HT := i' htake;clear htake;rcases Nat.eq_zero_or_pos k with h0 | h0
  ·subst h0
   have e0 : Hid (Nm.trimL xs = xs.take 0) := Nm.trimL_take (Nat.zero_le _) (fun i h _ => hz.out i h (Nat.zero_le _)) trivial;go_wp2;go_ret;exact ⟨_,rfl,by rw [e0.out]; exact HT.out 0 (Nat.zero_le _),rfl⟩
  ·obtain ⟨j,rfl⟩ : ∃ j,k = j + 1 := ⟨k - 1,by omega⟩
   have hj : j < xs.length := by omega
   obtain rfl := H4.out (by intro e; rw [e] at hj; exact absurd hj (Nat.not_lt_zero _))
   have hcell := H6.out j hj;have hjc : j ≤ cap := by have := H23.out.1; omega
   by_cases hv : xs[j] = 0
   ·have HV := i' hv
    have hvi : ((xs[j] : Int) == 0) = true := by simp [hv]
    clear hv;go_wp2;go_round
    case rel =>
     refine ⟨j,by omega,rfl,fun i h hi => ?_⟩
     rcases Nat.lt_or_ge j i with g | g
     ·exact hz.out i h g
     ·obtain rfl : i = j := by omega
      exact HV.out
    case measure => simp [lenOf]
   ·have e0 : Hid (Nm.trimL xs = xs.take (j + 1)) := Nm.trimL_take hk hz.out (Nm.nrm_take_last hj hv)
    have hvi : ((xs[j] : Int) == 0) = false := by simp [hv]
    clear hv;go_wp2;go_ret;exact ⟨_,rfl,by rw [e0.out]; exact HT.out (j + 1) hk,rfl⟩
end Go.Proofs.YtepddegphdlbeaaGreat
