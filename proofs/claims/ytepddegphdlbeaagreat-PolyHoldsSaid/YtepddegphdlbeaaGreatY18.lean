/- What the theorem leans on, part Y18. -/
import Derived.Test.YtepddegphdlbeaaGreatY17
import Derived.Test.YtepddegphdlbeaaGreatY15
import Derived.Test.YtepddegphdlbeaaGreatY13
import Derived.Test.YtepddegphdlbeaaGreatY12
import Derived.Test.YtepddegphdlbeaaGreatY11
import Derived.Test.YtepddegphdlbeaaGreatY10
import Derived.Test.YtepddegphdlbeaaGreatY7
import Derived.Test.YtepddegphdlbeaaGreatY4
import Derived.Test.YtepddegphdlbeaaGreatY3
import Derived.Test.YtepddegphdlbeaaGreatY2
import Derived.Test.YtepddegphdlbeaaGreatY1
import Derived.Test.YtepddegphdlbeaaGreatY0
import Derived.Test.YtepddegphdlbeaaGreatProg
import Derived.WalkKit
import Derived.WalkSpells
import Derived.WalkLawsBesides
import Derived.Lib.Hide
import Derived.Deep.QuietTactic
import Derived.BigQuiet
import Derived.Shelf.Small.Bits
import Derived.Shelf.Small.Wraps
import Derived.Shelf.Strconv.Itoa0
import Derived.Shelf.Bits.Mul64
import Derived.Ground.Names2Prog
import Derived.Shelf.Slices.SearchI
import Derived.Shelf.Spec.BitsCarry
import Derived.Deep.LoopGhost
import Derived.Deep.RegionHeld3
import Derived.Deep.DeepCutAuto
import Derived.Test.YtepddegphdlbeaaGreatY6
import Derived.Test.YtepddegphdlbeaaGreatY5
import Derived.Laws.AppendOwnNone
import Derived.Test.YtepddegphdlbeaaGreatY8
import Derived.Test.YtepddegphdlbeaaGreatY9
import Derived.Below
import Derived.RangeFuncNested
import Derived.RangeFuncBound
import Derived.RangeFuncCalls
import Derived.RangeFuncLeaves
import Derived.Shelf.Abstract
import Derived.Shelf.RegionOpen
import Derived.OwnWalkIn
import Derived.TacticsInMore
import Derived.LoopNIn
import Derived.LoopIn
import Derived.OrdersIn
import Derived.Deep.RegionHeld
import Derived.Maps.AppendAt
import Derived.Lib.SliceRun
import Derived.IntWalk
import Derived.Test.YtepddegphdlbeaaGreatY14
import Derived.Test.YtepddegphdlbeaaGreatY16
import Derived.Laws.StructEq
set_option maxRecDepth 100000
set_option maxHeartbeats 16000000
set_option linter.all false
namespace Go.Proofs.YtepddegphdlbeaaGreat
open Go.RowKit
def CutS (x1 x2 s1 s2 : Value) (B : Nat) (wb wx : World) (g7 g8 : Nat) : Prop := (B ≤ g7 ∧ B ≤ g8) ∧ ZC x1 s1 wx g7 ∧ ZC x2 s2 wx g8 ∧ Below B wb wx
section
variable {x1 x2 e1 e2 x0 y0 x0' y0' : Value} {B : Nat} {wb w3 : World} {t : TypeId} {g g' : Nat}
theorem CutS.s1 (b : Below B wb w3) (hB : B ≤ w3.heap.size) : CutS x1 x2 e1 e2 B wb ((w3.alloc (.cells #[x1,e1] t)).alloc (.cells #[x2,e2] t)) w3.heap.size (w3.heap.size + 1) :=
 ⟨⟨hB,by omega⟩,(ZC.new rfl).alloc _,ZC.new (by simp),(b.alloc hB _).alloc (by simp; omega) _⟩
theorem CutS.s2 (b : Below B wb w3) (hB : B ≤ w3.heap.size) : CutS x1 x2 e1 e2 B wb ((w3.alloc (.cells #[x2,e2] t)).alloc (.cells #[x1,e1] t)) (w3.heap.size + 1) w3.heap.size :=
 ⟨⟨by omega,hB⟩,ZC.new (by simp),(ZC.new rfl).alloc _,(b.alloc hB _).alloc (by simp; omega) _⟩
theorem CutS.s3 (z : ZC x0 y0 w3 g) (hg : B ≤ g) (b : Below B wb w3) (hB : B ≤ w3.heap.size) : CutS x1 x2 e1 e2 B wb (((w3.setCell ⟨g,0,none⟩ x1).setCell ⟨g,1,none⟩ e1).alloc (.cells #[x2,e2] t)) g w3.heap.size :=
 ⟨⟨hg,hB⟩,z.set.alloc _,ZC.new (by simp),(k'61 b hg _ _).alloc (by simpa using hB) _⟩
theorem CutS.s4 (z : ZC x0 y0 w3 g) (hg : B ≤ g) (b : Below B wb w3) (hB : B ≤ w3.heap.size) : CutS x1 x2 e1 e2 B wb (((w3.setCell ⟨g,0,none⟩ x2).setCell ⟨g,1,none⟩ e2).alloc (.cells #[x1,e1] t)) w3.heap.size g :=
 ⟨⟨hB,hg⟩,ZC.new (by simp),z.set.alloc _,(k'61 b hg _ _).alloc (by simpa using hB) _⟩
theorem CutS.s5 (z : ZC x0 y0 w3 g) (hg : B ≤ g) (z' : ZC x0' y0' w3 g') (hg' : B ≤ g') (hn : ¬ g = g') (b : Below B wb w3) :
 CutS x1 x2 e1 e2 B wb ((((w3.setCell ⟨g,0,none⟩ x1).setCell ⟨g,1,none⟩ e1).setCell ⟨g',0,none⟩ x2).setCell ⟨g',1,none⟩ e2) g g' :=
 have zz := z'.other (u := x1) (v := e1) (fun e => hn e.symm)
 ⟨⟨hg,hg'⟩,z.set.other hn,zz.set,k'61 (k'61 b hg _ _) hg' _ _⟩
end
theorem k'lh (x y : Int) (hx : x.natAbs < Top) (hy : y.natAbs < Top) (h0 : y ≠ 0) (w : World) : Calls Tryz.prog 102 #[Z x,Z y] w (Ret (.tuple #[R (x / lg x y) (y / lg x y),.int .i64 0]) w) := by
 have h := k'68 (zb x) (zb y) (zs x) (zs y) _ _ w (k'jr (bv (zs x)) (bv (zs y)) (by rw [k'6k]; exact hx) (by rw [k'6k]; exact hy) (by rw [k'6k]; omega)) (k'6j hx) (k'6j hy) (by rw [k'6k]; omega)
 rw [k'6k,k'6k] at h;obtain ⟨⟨e1,e2⟩,e3,e4⟩ := k'js x y h0;unfold RPost at h;rw [e1,e2,e3,e4] at h;exact h
theorem k'li (p : List Int) (v : Value) (num den : Int) (w : World) (h : Rp w v p) (hp : VP p) (hn : num.natAbs < Top) (hd : den.natAbs < Top) (ht : ckv (zl p) (zb num) (zs num) (zb den) (zs den) = 0) (hd0 : den ≠ 0) (hr : (evl p num den).natAbs < Top) (hpw : ∀ j,j ≤ p.length - 1 → (den ^ j).natAbs < Top) :
 Calls Tryz.prog 43 #[v,R num den] w (Ret (.tuple #[R (evl p num den / lg (evl p num den) (den ^ (p.length - 1))) (den ^ (p.length - 1) / lg (evl p num den) (den ^ (p.length - 1))),.int .i64 0]) w) := by
 obtain ⟨w0,hw0⟩ : ∃ w0 : World,w0 = (w.alloc (.cells #[.bool (zb num),.string (zs num),.bool (zb den),.string (zs den)] 59)).alloc (.cells #[.bool false,.string ⟨#[]⟩,.bool false,.string ⟨#[]⟩] 59) := ⟨_,rfl⟩;have HR0 : Hid (Rb w0 w.heap.size num den) := by show Rb _ _ _ _; rw [hw0]; exact (Rb.made w num den).alloc _
 have I4 : Hid (ZC4 (.bool false) (.string ⟨#[]⟩) (.bool false) (.string ⟨#[]⟩) w0 (w.heap.size + 1)) := by
  show ZC4 _ _ _ _ _ _;rw [hw0];have := ZC4.made0 (x := .bool false) (y := .string ⟨#[]⟩) (z := .bool false) (u := .string ⟨#[]⟩) (t := 59) (w.alloc (.cells #[.bool (zb num),.string (zs num),.bool (zb den),.string (zs den)] 59));simpa using this
 have B0 : Hid (Below w.heap.size w w0) := by show Below _ _ _; rw [hw0]; exact ((Below.refl _ _).alloc (Nat.le_refl _) _).alloc (by simp) _
 have HD := i' (k'kw (zl p) v (zb num) (zb den) (zs num) (zs den) w0 (h.below B0.out) (k'ey hp.top) (Nat.le_trans (k'6m hn) (by decide)) (Nat.le_trans (k'6m hd) (by decide)))
 rw [ht] at HD;have HV := i' (fun c w' (hb : Below w.heap.size w w') hck => k'le (num := num) (den := den) c w' (h.below hb) hp hn hd ht hck);have hl := hp.len;have HDg := i' (fun w' (hb : Below w.heap.size w w') => k'f1 (zl p) v w' (h.below hb));rw [k'e0] at HDg;have HPw := i' (fun c w' (hck : Ck w' c 0) => k'ky c den ((p.length : Int) - 1) (p.length - 1) 0 w' hck hd (by omega) (by omega) hpw)
 have HRt := i' (fun w => k'lh (evl p num den) (den ^ (p.length - 1)) hr (hpw _ (Nat.le_refl _)) (Int.pow_ne_zero hd0) w);generalize evl p num den / lg (evl p num den) (den ^ (p.length - 1)) = qn at *;generalize den ^ (p.length - 1) / lg (evl p num den) (den ^ (p.length - 1)) = qd at *;generalize evl p num den = rn at *;generalize den ^ (p.length - 1) = rd at *;obtain ⟨a0,b0,o0,c0',rfl,-⟩ := h.open_;generalize p.length = n1 at *;unfold Z at HV HPw HRt;unfold R at HRt ⊢;unfold rat at HD HRt ⊢;unfold Rb at HR0;generalize zb num = an at *;generalize zs num = sn at *;generalize zb den = ad at *;generalize zs den = sd at *;generalize zb rn = vn at *;generalize zs rn = tn at *;generalize zb rd = vd at *;generalize zs rd = td at *;clear h hp hn hd ht hd0 hr hpw;obtain ⟨c0,c1,c2,c3⟩ := HR0.out;go_enter Tryz.func43,Tryz.ntmps43;go_wp2_with fail;rw [← hw0];clear hw0;refine HD.out.mono ?_;rintro en w1 ⟨rfl,b1⟩;have B1 := i' (k'4h B0.out b1);have E1 := i' b1;obtain ⟨y0,hy0⟩ : ∃ y0 : World,y0 = w1.alloc (.cells #[.int .i64 0] 96) := ⟨_,rfl⟩;have HK : Hid (Ck y0 w1.heap.size 0) := by show Ck _ _ _; rw [hy0]; exact heap_alloc_new w1 _
 have HB : Hid (Below w.heap.size w y0) := by show Below _ _ _; rw [hy0]; exact B1.out.alloc B1.out.size _
 have E2 : Hid (Below w0.heap.size w0 y0) := by rw [hy0]; exact E1.out.alloc E1.out.size _
 clear b1 c0 c1 c2 c3;go_upto_region 5 with (fail);rw [← hy0];clear hy0;have c0 := k'4i E2.out HR0.out.1;have c1 := k'4i E2.out HR0.out.2.1;have c2 := k'4i E2.out HR0.out.2.2.1;have c3 := k'4i E2.out HR0.out.2.2.2;have hgw : w.heap.size < y0.heap.size := World.block_lt_of_cell? y0 _ c0;have hgw2 : ¬ w.heap.size = y0.heap.size := Nat.ne_of_lt hgw;have hgw3 : ¬ w.heap.size = y0.heap.size + 1 := Nat.ne_of_lt (Nat.lt_succ_of_lt hgw);have hgw4 : ¬ y0.heap.size = w.heap.size := fun e => hgw2 e.symm;have hgw5 : ¬ y0.heap.size + 1 = w.heap.size := fun e => hgw3 e.symm;have HV := i' (fun w' (hb : Below y0.heap.size y0 w') => HV.out w1.heap.size w' (k'4h HB.out hb) (HK.out.below hb));have HDg := i' (fun w' (hb : Below y0.heap.size y0 w') => HDg.out w' (k'4h HB.out hb));have HPw := i' (fun w' (hb : Below y0.heap.size y0 w') => HPw.out w1.heap.size w' (HK.out.below hb));go_cut [8,9] (fun sa sb wx => ∃ (ga gb : Nat),sa = .pointer (some ⟨ga,0,none⟩) ∧ sb = .pointer (some ⟨gb,0,none⟩) ∧ Hid (CutS (.bool vn) (.bool vd) (.string tn) (.string td) y0.heap.size y0 wx ga gb))
 case first =>
  rename_i J0 K0 hRJ hMK;go_region_held3 (fun W' => W'.cell? ⟨w.heap.size,0,none⟩ = some (.bool an) ∧ W'.cell? ⟨w.heap.size,1,none⟩ = some (.string sn) ∧ W'.cell? ⟨w.heap.size,2,none⟩ = some (.bool ad) ∧ W'.cell? ⟨w.heap.size,3,none⟩ = some (.string sd)) (go_keep)
   (first
    | (go_at_call 100; (with_reducible refine (HV.out _ (by first | exact Below.refl _ _ | exact (Below.refl _ _).drew | exact k'5u _ _ | exact k'5v _ _ _ | exact (k'5u _ _).drew | exact (k'5v _ _ _).drew)).mono ?_); rintro e y1 ⟨rfl,b9⟩; (try (have b9 := k'60 b9)); have dd : Below y0.heap.size y0 y1 := k'4h (by first | exact Below.refl _ _ | exact (Below.refl _ _).drew | exact k'5u _ _ | exact k'5v _ _ _ | exact (k'5u _ _).drew | exact (k'5v _ _ _).drew) b9; have D1 : Below y0.heap.size y0 y1 := dd; have p0 := k'4i D1 c0; have p1 := k'4i D1 c1; have p2 := k'4i D1 c2; have p3 := k'4i D1 c3; have n1a : ¬ w.heap.size = y1.heap.size := Nat.ne_of_lt (Nat.lt_of_lt_of_le hgw D1.size); have n1b : ¬ w.heap.size = y1.heap.size + 1 := Nat.ne_of_lt (Nat.lt_succ_of_lt (Nat.lt_of_lt_of_le hgw D1.size)); have n1c : ¬ y1.heap.size = w.heap.size := fun e => n1a e.symm; have n1d : ¬ y1.heap.size + 1 = w.heap.size := fun e => n1b e.symm; (try (have A0 := i' (ZC.made (g := y0.heap.size) rfl b9); obtain ⟨A0a,A0b,A0c,A0d⟩ := A0.out)); (try (have A0 := i' (ZC.made1 (g := y0.heap.size) rfl b9); have B0 := i' (ZC.made (g := y0.heap.size + 1) (by simp) b9); obtain ⟨A0a,A0b,A0c,A0d⟩ := A0.out; obtain ⟨B0a,B0b,B0c,B0d⟩ := B0.out)); (try (have L01 := i' (k'5x (g := y0.heap.size) rfl b9); obtain ⟨l01x,l01y,l01z⟩ := L01.out)); (try (have MM := i' (k'5y (g := y0.heap.size) rfl b9); have L01 := i' MM.out.1; have M01 := i' MM.out.2; clear MM; obtain ⟨l01x,l01y,l01z⟩ := L01.out; obtain ⟨m01x,m01y,m01z⟩ := M01.out)); clear b9 dd)
    | (go_at_call 67; (with_reducible refine (HDg.out _ (k'4h D1 (by first | exact Below.refl _ _ | exact (Below.refl _ _).drew | exact k'5u _ _ | exact k'5v _ _ _ | exact (k'5u _ _).drew | exact (k'5v _ _ _).drew))).mono ?_); rintro e y2 ⟨rfl,b9⟩; (try (have b9 := k'60 b9)); have dd : Below y1.heap.size y1 y2 := k'4h (by first | exact Below.refl _ _ | exact (Below.refl _ _).drew | exact k'5u _ _ | exact k'5v _ _ _ | exact (k'5u _ _).drew | exact (k'5v _ _ _).drew) b9; have D2 : Below y0.heap.size y0 y2 := k'4h D1 dd; have p0 := k'4i D2 c0; have p1 := k'4i D2 c1; have p2 := k'4i D2 c2; have p3 := k'4i D2 c3; have n2a : ¬ w.heap.size = y2.heap.size := Nat.ne_of_lt (Nat.lt_of_lt_of_le hgw D2.size); have n2b : ¬ w.heap.size = y2.heap.size + 1 := Nat.ne_of_lt (Nat.lt_succ_of_lt (Nat.lt_of_lt_of_le hgw D2.size)); have n2c : ¬ y2.heap.size = w.heap.size := fun e => n2a e.symm; have n2d : ¬ y2.heap.size + 1 = w.heap.size := fun e => n2b e.symm; (try (have A1 := i' (ZC.made (g := y1.heap.size) rfl b9); obtain ⟨A1a,A1b,A1c,A1d⟩ := A1.out)); (try (have A1 := i' (ZC.made1 (g := y1.heap.size) rfl b9); have B1 := i' (ZC.made (g := y1.heap.size + 1) (by simp) b9); obtain ⟨A1a,A1b,A1c,A1d⟩ := A1.out; obtain ⟨B1a,B1b,B1c,B1d⟩ := B1.out)); (try (have A0 := i' (A0.out.next dd); obtain ⟨A0a,A0b,A0c,A0d⟩ := A0.out)); (try (have B0 := i' (B0.out.next dd); obtain ⟨B0a,B0b,B0c,B0d⟩ := B0.out)); (try (have L02 := i' (k'5z L01.out dd.size); obtain ⟨l02x,l02y,l02z⟩ := L02.out)); (try (have M02 := i' (k'5z M01.out dd.size); obtain ⟨m02x,m02y,m02z⟩ := M02.out)); (try (have L12 := i' (k'5x (g := y1.heap.size) rfl b9); obtain ⟨l12x,l12y,l12z⟩ := L12.out)); (try (have MM := i' (k'5y (g := y1.heap.size) rfl b9); have L12 := i' MM.out.1; have M12 := i' MM.out.2; clear MM; obtain ⟨l12x,l12y,l12z⟩ := L12.out; obtain ⟨m12x,m12y,m12z⟩ := M12.out)); clear b9 dd)
    | (go_at_call 101; (with_reducible refine (HPw.out _ (k'4h D2 (by first | exact Below.refl _ _ | exact (Below.refl _ _).drew | exact k'5u _ _ | exact k'5v _ _ _ | exact (k'5u _ _).drew | exact (k'5v _ _ _).drew))).mono ?_); rintro e y3 ⟨rfl,b9⟩; (try (have b9 := k'60 b9)); have dd : Below y2.heap.size y2 y3 := k'4h (by first | exact Below.refl _ _ | exact (Below.refl _ _).drew | exact k'5u _ _ | exact k'5v _ _ _ | exact (k'5u _ _).drew | exact (k'5v _ _ _).drew) b9; have D3 : Below y0.heap.size y0 y3 := k'4h D2 dd; have p0 := k'4i D3 c0; have p1 := k'4i D3 c1; have p2 := k'4i D3 c2; have p3 := k'4i D3 c3; have n3a : ¬ w.heap.size = y3.heap.size := Nat.ne_of_lt (Nat.lt_of_lt_of_le hgw D3.size); have n3b : ¬ w.heap.size = y3.heap.size + 1 := Nat.ne_of_lt (Nat.lt_succ_of_lt (Nat.lt_of_lt_of_le hgw D3.size)); have n3c : ¬ y3.heap.size = w.heap.size := fun e => n3a e.symm; have n3d : ¬ y3.heap.size + 1 = w.heap.size := fun e => n3b e.symm; (try (have A2 := i' (ZC.made (g := y2.heap.size) rfl b9); obtain ⟨A2a,A2b,A2c,A2d⟩ := A2.out)); (try (have A2 := i' (ZC.made1 (g := y2.heap.size) rfl b9); have B2 := i' (ZC.made (g := y2.heap.size + 1) (by simp) b9); obtain ⟨A2a,A2b,A2c,A2d⟩ := A2.out; obtain ⟨B2a,B2b,B2c,B2d⟩ := B2.out)); (try (have A0 := i' (A0.out.next dd); obtain ⟨A0a,A0b,A0c,A0d⟩ := A0.out)); (try (have B0 := i' (B0.out.next dd); obtain ⟨B0a,B0b,B0c,B0d⟩ := B0.out)); (try (have A1 := i' (A1.out.next dd); obtain ⟨A1a,A1b,A1c,A1d⟩ := A1.out)); (try (have B1 := i' (B1.out.next dd); obtain ⟨B1a,B1b,B1c,B1d⟩ := B1.out)); (try (have L03 := i' (k'5z L02.out dd.size); obtain ⟨l03x,l03y,l03z⟩ := L03.out)); (try (have M03 := i' (k'5z M02.out dd.size); obtain ⟨m03x,m03y,m03z⟩ := M03.out)); (try (have L13 := i' (k'5z L12.out dd.size); obtain ⟨l13x,l13y,l13z⟩ := L13.out)); (try (have M13 := i' (k'5z M12.out dd.size); obtain ⟨m13x,m13y,m13z⟩ := M13.out)); (try (have L23 := i' (k'5x (g := y2.heap.size) rfl b9); obtain ⟨l23x,l23y,l23z⟩ := L23.out)); (try (have MM := i' (k'5y (g := y2.heap.size) rfl b9); have L23 := i' MM.out.1; have M23 := i' MM.out.2; clear MM; obtain ⟨l23x,l23y,l23z⟩ := L23.out; obtain ⟨m23x,m23y,m23z⟩ := M23.out)); clear b9 dd)
    | fail)
  all_goals
   refine hMK _ _ (Met.intro (hRJ _ _ ?_))
   (repeat apply Exists.intro)
   refine ⟨?_,rfl⟩;refine ⟨_,_,rfl,rfl,?_⟩;show CutS (.bool vn) (.bool vd) (.string tn) (.string td) y0.heap.size y0 _ _ _;have sA0 : y0.heap.size ≤ y0.heap.size := Nat.le_refl _;have sB0 : y0.heap.size ≤ y0.heap.size + 1 := Nat.le_succ_of_le sA0;have n0 : ¬ y0.heap.size = y0.heap.size + 1 := Nat.ne_of_lt (Nat.lt_succ_self _);have m0 : ¬ y0.heap.size + 1 = y0.heap.size := fun e => n0 e.symm;have sA1 : y0.heap.size ≤ y1.heap.size := D1.size;have sB1 : y0.heap.size ≤ y1.heap.size + 1 := Nat.le_succ_of_le sA1;have n1 : ¬ y1.heap.size = y1.heap.size + 1 := Nat.ne_of_lt (Nat.lt_succ_self _);have m1 : ¬ y1.heap.size + 1 = y1.heap.size := fun e => n1 e.symm;have sA2 : y0.heap.size ≤ y2.heap.size := D2.size;have sB2 : y0.heap.size ≤ y2.heap.size + 1 := Nat.le_succ_of_le sA2;have n2 : ¬ y2.heap.size = y2.heap.size + 1 := Nat.ne_of_lt (Nat.lt_succ_self _);have m2 : ¬ y2.heap.size + 1 = y2.heap.size := fun e => n2 e.symm;have sA3 : y0.heap.size ≤ y3.heap.size := D3.size
   first
    | with_reducible exact CutS.s1 D3 sA3
    | with_reducible exact CutS.s2 D3 sA3
    | with_reducible exact CutS.s3 A0.out sA0 D3 sA3
    | with_reducible exact CutS.s4 A0.out sA0 D3 sA3
    | with_reducible exact CutS.s3 B0.out sB0 D3 sA3
    | with_reducible exact CutS.s4 B0.out sB0 D3 sA3
    | with_reducible exact CutS.s3 A1.out sA1 D3 sA3
    | with_reducible exact CutS.s4 A1.out sA1 D3 sA3
    | with_reducible exact CutS.s3 B1.out sB1 D3 sA3
    | with_reducible exact CutS.s4 B1.out sB1 D3 sA3
    | with_reducible exact CutS.s3 A2.out sA2 D3 sA3
    | with_reducible exact CutS.s4 A2.out sA2 D3 sA3
    | with_reducible exact CutS.s3 B2.out sB2 D3 sA3
    | with_reducible exact CutS.s4 B2.out sB2 D3 sA3
    | with_reducible exact CutS.s5 A0.out sA0 B0.out sB0 n0 D3
    | with_reducible exact CutS.s5 B0.out sB0 A0.out sA0 m0 D3
    | with_reducible exact CutS.s5 A1.out sA1 B1.out sB1 n1 D3
    | with_reducible exact CutS.s5 B1.out sB1 A1.out sA1 m1 D3
    | with_reducible exact CutS.s5 A2.out sA2 B2.out sB2 n2 D3
    | with_reducible exact CutS.s5 B2.out sB2 A2.out sA2 m2 D3
    | with_reducible exact CutS.s5 A0.out sA0 A1.out sA1 l01x D3
    | with_reducible exact CutS.s5 A1.out sA1 A0.out sA0 l01y D3
    | with_reducible exact CutS.s5 A0.out sA0 A2.out sA2 l02x D3
    | with_reducible exact CutS.s5 A2.out sA2 A0.out sA0 l02y D3
    | with_reducible exact CutS.s5 A1.out sA1 A2.out sA2 l12x D3
    | with_reducible exact CutS.s5 A2.out sA2 A1.out sA1 l12y D3
    | fail
 obtain ⟨ga,gb,rfl,rfl,hcut⟩ := hcut;obtain ⟨_,Ta,Tb,bxx⟩ := hcut.out;have HKc := i' (HK.out.below bxx);have Bc := i' (k'4h HB.out bxx);have Ec := i' (k'4h E2.out bxx);obtain ⟨ta0,ta1,-,-⟩ := Ta;obtain ⟨tb0,tb1,-,-⟩ := Tb;have kc := HKc.out.cell;clear bxx hcut c0 c1 c2 c3 hgw hgw2 hgw3 hgw4 hgw5 HV HDg HPw;go_wp2_with fail;refine (HRt.out _).mono ?_;rintro en w6 ⟨rfl,b6⟩;have B6 := i' (k'4h Bc.out b6);have Q3 := I4.out.next (k'4h Ec.out b6);obtain ⟨⟨m0,m1,m2,m3⟩,m4,m5,m6,m7⟩ := Q3;have HZ := i' (k'65 B6.out (g := w.heap.size + 1) (by omega) (.bool (zb qn)) (.string (zs qn)) (.bool (zb qd)) (.string (zs qd)))
 clear b6 ta0 ta1 tb0 tb1 kc;go_wp2;exact bodyPost_ret (v := .tuple #[.agg #[.bool (zb qn),.string (zs qn),.bool (zb qd),.string (zs qd)],.int .i64 0]) (by simp [results,Tryz.results43,go_sem,m0,m1,m2,m3]) rfl ⟨rfl,HZ.out⟩
theorem k'lj (z : Int) (w : World) (h1 : -9223372036854775808 ≤ z) (h2 : z ≤ 9223372036854775807) : Calls Tryz.prog 63 #[.int .i64 z] w (ZPost z w) := by
 have HN := i' (fun w => k'9c z w h1 h2);have hl : (Nm.dg D9 z.natAbs).length ≤ 1000000 := by
  refine Nat.le_trans (Nm.len_le_of_val (k := 3) D92 (Nm.nrm_dg D92 _) ?_) (by decide)
  rw [Nm.val_dg D92];unfold D9;omega
 have HT : Hid (∀ v w,Rz w v z → Calls Tryz.prog 39 #[iV z v] w fun e w' => e = .returned (.agg #[.bool (zb z),.string (zs z)]) ∧ Below w.heap.size w w') := fun v w h => by
  have := k'8t z v w h hl;unfold ToPost at this;rwa [k'9e] at this
 unfold iV at HT;obtain ⟨w0,hw0⟩ : ∃ w0 : World,w0 = w.alloc (.cells #[.bool false,.string ⟨#[]⟩] 44) := ⟨_,rfl⟩;have hb0 : Hid (Below w.heap.size w w0) := by rw [hw0]; exact k'5u _ _
 have I3 : Hid (ZC (.bool false) (.string ⟨#[]⟩) w0 w.heap.size) := by rw [hw0]; exact ZC.new rfl
 have Hw0 := i' hw0;clear hw0 hl;go_enter Tryz.func63,Tryz.ntmps63;go_wp2_with fail;rw [← Hw0.out];refine (HN.out _).mono ?_;rintro e wa ⟨v1,rfl,r1,ba⟩;have BA := i' ba;have R1 := i' r1;unfold iV;clear ba r1;go_wp2_with fail;refine (HT.out _ _ R1.out).mono ?_;rintro e wb ⟨rfl,bb⟩;have c := k'4h BA.out bb;obtain ⟨m0,m1,m2,m3⟩ := I3.out.next c;have HZ := i' (k'61 (k'4h hb0.out c) (Nat.le_refl w.heap.size) (.bool (zb z)) (.string (zs z)));clear bb c;go_wp2;exact bodyPost_ret (v := .agg #[.bool (zb z),.string (zs z)]) (by simp [results,Tryz.results63,go_sem,m0,m1]) rfl ⟨rfl,HZ.out⟩
theorem k'lk (x y : Int) (w : World) (h1 : -9223372036854775808 ≤ x) (h2 : x ≤ 9223372036854775807) (h3 : -9223372036854775808 ≤ y) (h4 : y ≤ 9223372036854775807) : Calls Tryz.prog 66 #[.int .i64 x,.int .i64 y] w (QZPost x y w) := by
 have HX := i' (fun w => k'lj x w h1 h2);have HY := i' (fun w => k'lj y w h3 h4);unfold ZPost at HX HY;unfold QZPost;generalize zb x = xb at *;generalize zs x = xs at *;generalize zb y = yb at *;generalize zs y = ys at *;obtain ⟨w0,hw0⟩ : ∃ w0 : World,w0 = w.alloc (.cells #[.bool false,.string ⟨#[]⟩,.bool false,.string ⟨#[]⟩] 59) := ⟨_,rfl⟩;have hb0 : Hid (Below w.heap.size w w0) := by rw [hw0]; exact k'5u _ _
 have I3 : Hid (ZC4 (.bool false) (.string ⟨#[]⟩) (.bool false) (.string ⟨#[]⟩) w0 w.heap.size) := by rw [hw0]; exact ZC4.made0 w
 have Hw0 := i' hw0;clear hw0;go_enter Tryz.func66,Tryz.ntmps66;go_wp2_with fail;rw [← Hw0.out];refine (HX.out _).mono ?_;rintro e wa ⟨rfl,ba⟩;have BA := i' ba;clear ba;go_wp2_with fail;refine (HY.out _).mono ?_;rintro e wb ⟨rfl,bb⟩;have c := k'4h BA.out bb;obtain ⟨⟨m0,m1,m2,m3⟩,m4,m5,m6,m7⟩ := I3.out.next c;have HZ := i' (k'65 (k'4h hb0.out c) (Nat.le_refl w.heap.size) (.bool xb) (.string xs) (.bool yb) (.string ys));clear bb c;go_wp2;exact bodyPost_ret (v := .agg #[.bool xb,.string xs,.bool yb,.string ys]) (by simp [results,Tryz.results66,go_sem,m0,m1,m2,m3]) rfl ⟨rfl,HZ.out⟩
theorem k'll {z : Int} (h : -9223372036854775808 ≤ z ∧ z ≤ 9223372036854775807) : z.natAbs < Top :=
 (k'ju (k := 60) rfl h.1 h.2).top (by decide)
theorem k'lm {z : Int} (h : -9223372036854775808 ≤ z ∧ z ≤ 9223372036854775807) : (Nm.dg D9 z.natAbs).length ≤ 1000000 :=
 (k'ju (k := 60) rfl h.1 h.2).len (by decide)
theorem k'ln {L : List Int} {a : Int} (h : a ∈ Pl.trim L) : a ∈ L := by
 obtain ⟨k,hk,rfl⟩ := List.mem_iff_getElem.1 h;have h1 : k < L.length := Nat.lt_of_lt_of_le hk (Pl.trim_length L);rw [← Pl.cf_lt hk,Pl.cf_trim,Pl.cf_lt h1];exact List.getElem_mem h1
theorem k'lo {p : List Int} : decide (zl p = zl p) = true := by simp
theorem k'lp (L : List Int) (v : Value) (w : World) (h : Rn w v L) (hl : L.length ≤ 1000) (ht : ∀ a ∈ L,-9223372036854775808 ≤ a ∧ a ≤ 9223372036854775807) : Calls Tryz.prog 65 #[v] w (RpPost (Pl.trim L) w) := by
 have HN := i' (k'kp L v w h hl ht);have HT := i' (fun v w' (h' : RP w' v (Pl.trim L)) => k'km (Pl.trim L) v w' h' (Nat.le_trans (Pl.trim_length _) hl) (fun a ha => k'lm (ht a (k'ln ha))));obtain ⟨a,b,off,cap,rfl,-,-⟩ := h;generalize Pl.trim L = T at *;clear ht;go_enter Tryz.func65,Tryz.ntmps65;go_wp2_with fail;refine HN.out.mono ?_;rintro e w1 ⟨v1,rfl,r1,b1⟩;have R1 := i' r1;have B1 := i' b1;clear r1 b1;go_wp2_with fail;refine (HT.out _ _ R1.out).mono ?_;rintro e w2 ⟨v2,rfl,r2,b2⟩;have R2 := i' r2;have B2 := i' (k'4h B1.out b2);clear r2 b2;go_wp2;go_ret;exact ⟨_,rfl,R2.out,B2.out⟩
theorem k'lq (L : List Int) (v vl : Value) (w : World) (hv : Rp w v (Pl.trim L)) (h : Rn w vl L) (hl : L.length ≤ 1000) (ht : ∀ a ∈ L,-9223372036854775808 ≤ a ∧ a ≤ 9223372036854775807) : Calls Tryz.prog 64 #[v,.int .i64 0,vl] w (BPost true w) := by
 have HP := i' (k'lp L vl w h hl ht);have HS := i' (fun v2 w' (hb : Below w.heap.size w w') (h2 : Rp w' v2 (Pl.trim L)) => k'kv (zl (Pl.trim L)) (zl (Pl.trim L)) v v2 w' (hv.below hb) h2);rw [k'lo] at HS;obtain ⟨a,b,off,cap,rfl,-,-⟩ := h;obtain ⟨a1,b1,o1,c1,rfl,-,-,-,-⟩ := hv.open_;generalize hT : Pl.trim L = T at *;generalize hTl : T.length = tl at *;clear ht hv hT hTl;go_enter Tryz.func64,Tryz.ntmps64;go_wp2_with fail;refine HP.out.mono ?_;rintro e w1 ⟨v1,rfl,r1,b1⟩;have R1 := i' r1;have B1 := i' b1;clear r1 b1;go_wp2_with fail;refine (HS.out _ _ B1.out R1.out).mono ?_;rintro e w2 ⟨rfl,b2⟩;have B2 := i' (k'4h B1.out b2);clear b2;go_wp2;go_ret;exact ⟨rfl,B2.out⟩
structure UInv (p q r t : List Int) (m : Nat) : Prop where
 div : Pl.dvs q (p.length - m) p = (Pl.dvs q (r.length - m) r).map (· ++ t)
 len : r.length - m + t.length = p.length - m
def USz (p q r : List Int) : Prop := (2 * Pl.mx q) ^ (r.length + 1 - q.length) * Pl.mx r ≤ (2 * Pl.mx q) ^ (p.length + 1 - q.length) * Pl.mx p
theorem k'ls (q r : List Int) (h1 : 1 ≤ Pl.mx q) : Pl.mx (Pl.step 1 (Pl.lead r / Pl.lead q) q r) ≤ 2 * Pl.mx q * Pl.mx r := by
 refine Nat.le_trans (Pl.mx_step _ _ _ _) ?_;have h2 : (Pl.lead r / Pl.lead q).natAbs * Pl.mx q ≤ Pl.mx r * Pl.mx q := Nat.mul_le_mul_right _ (Nat.le_trans (Int.natAbs_ediv_le_natAbs _ _) (Pl.mx_cf r _));have h3 : Pl.mx r ≤ Pl.mx q * Pl.mx r := Nat.le_mul_of_pos_left _ h1;rw [Nat.mul_comm (Pl.mx r)] at h2;rw [Nat.mul_assoc];have : (1 : Int).natAbs * Pl.mx r = Pl.mx r := by simp
 omega
theorem USz.step {p q r : List Int} (h : USz p q r) (h1 : 1 ≤ Pl.mx q) (hq : 0 < q.length) (hl : q.length ≤ r.length) : USz p q (Pl.step 1 (Pl.lead r / Pl.lead q) q r) := by
 have e : r.length + 1 - q.length = (r.length - 1 + 1 - q.length) + 1 := by omega
 refine Nat.le_trans ?_ h;rw [e,Nat.pow_succ,Nat.mul_assoc,Pl.step_length];exact Nat.mul_le_mul_left _ (k'ls q r h1)
theorem USz.top {p q r : List Int} (h : USz p q r) (hq : 1 ≤ Pl.mx q) (hl : q.length ≤ r.length) (hB : (2 * Pl.mx q) ^ (p.length + 1 - q.length) * Pl.mx p < Top) : 2 * Pl.mx q * Pl.mx r < Top := by
 refine Nat.lt_of_le_of_lt ?_ (Nat.lt_of_le_of_lt h hB);apply Nat.mul_le_mul_right;have e : r.length + 1 - q.length = (r.length - q.length) + 1 := by omega
 rw [e,Nat.pow_succ];have := Nat.pow_pos (n := r.length - q.length) (show 0 < 2 * Pl.mx q by omega)
 exact Nat.le_mul_of_pos_left _ this
theorem k'lt (r q : List Int) (last : Nat) (t : Int) (hq : q.length = last + 1) (hr : q.length ≤ r.length) :
 upd (r.take (r.length - 1)) (r.length - 1 - last) (q.take last) t last = Pl.step 1 t q r := by
 apply List.ext_getElem (by rw [k'ge,Pl.step_length]; simp)
 intro k h1 h2;have hk : k < r.length - 1 := by rw [k'ge] at h1; simp at h1; omega
 have e0 : Pl.cf (r.take (r.length - 1)) k = Pl.cf r k := by rw [Pl.cf_lt (by simp; omega),List.getElem_take,← Pl.cf_lt (by omega)]
 rw [k'gf,e0,← Pl.cf_lt h2,Pl.cf_step,if_pos hk];have e : r.length - q.length = r.length - 1 - last := by omega
 rw [e];by_cases g : r.length - 1 - last ≤ k
 ·rw [if_pos ⟨g,by omega⟩,if_pos g]
  have e2 : Pl.cf (q.take last) (k - (r.length - 1 - last)) = Pl.cf q (k - (r.length - 1 - last)) := by
   rw [Pl.cf_lt (by simp; omega),Pl.cf_lt (by omega)]; simp
  rw [e2,Int.one_mul,Int.mul_comm t]
 ·rw [if_neg (by omega),if_neg g,Int.one_mul]; omega
theorem UInv.step {p q r t : List Int} {m : Nat} (h : UInv p q r t m) (hq : q.length = m + 1) (hl : q.length ≤ r.length) (hd : Pl.lead r % Pl.lead q = 0) : UInv p q (Pl.step 1 (Pl.lead r / Pl.lead q) q r) ((Pl.lead r / Pl.lead q) :: t) m := by
 have e : r.length - m = (r.length - 1 - m) + 1 := by omega
 refine ⟨?_,by have := h.len; rw [Pl.step_length]; simp; omega⟩
 rw [h.div,e,Pl.dvs,if_pos hd,Pl.step_length]
 cases Pl.dvs q (r.length - 1 - m) (Pl.step 1 (Pl.lead r / Pl.lead q) q r) <;> simp
theorem UInv.none {p q r t : List Int} {m : Nat} (h : UInv p q r t m) (hl : m < r.length) (hd : ¬ Pl.lead r % Pl.lead q = 0) : Pl.dvs q (p.length - m) p = none := by
 rw [h.div,show r.length - m = (r.length - 1 - m) + 1 by omega,Pl.dvs,if_neg hd]; rfl
theorem UInv.last {p q r t : List Int} {m : Nat} (h : UInv p q r t m) (hl : r.length = m) : Pl.dvs q (p.length - m) p = if Pl.trim r = [] then some t else Option.none := by
 rw [h.div,hl,Nat.sub_self,Pl.dvs]
 split <;> simp
theorem k'lu (n : Nat) (t : List Int) (z : Int) : (List.replicate (n + 1) 0 ++ t).set n z = List.replicate n 0 ++ (z :: t) := by
 have e : List.replicate (n + 1) (0 : Int) = List.replicate n 0 ++ [0] := by rw [List.replicate_succ']
 rw [e,List.append_assoc,List.set_append_right _ _ (by simp)]
 simp
theorem But.trans2 {c : Nat} {u v w : World} (h : But c u v) (k : Below u.heap.size v w) : But c u w :=
 ⟨k.os.trans h.os,k.tape.trans h.tape,k.output.trans h.output,Nat.le_trans h.size k.size,fun i hi hn => (k.block i hi).trans (h.block i hi hn)⟩
def QuoPost (res : Option (List Int)) (c : Nat) (w : World) (en : Ending) (w' : World) : Prop :=
 ∃ (a : Option Addr) (n cap : Nat),en = .returned (.slice a n cap) ∧ But c w w' ∧ ((∃ t,res = some t ∧ Ck w' c 0 ∧ Rp w' (.slice a n cap) t) ∨ (res = none ∧ Ck w' c 10))
theorem k'lv (c : Nat) (p q : List Int) (v1 v2 : Value) (w : World) (h1 : Rp w v1 p) (h2 : Rp w v2 q) (hc : Ck w c 0) (hl1 : p.length ≤ 50) (hl2 : q.length ≤ 50)
 (hq0 : q ≠ []) (hqn : Pl.Nrm q) (hq1 : 1 ≤ Pl.mx q) (hlt : q.length ≤ p.length) (ht2 : ∀ a ∈ q,a.natAbs < Top) (hB : (2 * Pl.mx q) ^ (p.length + 1 - q.length) * Pl.mx p < Top) :
 Calls Tryz.prog 111 #[.pointer (some ⟨c,0,none⟩),v1,v2] w (QuoPost (Pl.dvs q (p.length + 1 - q.length) p) c w) := by
 have HCl := i' (k'gd p v1 w h1 (by omega))
 have HDg := i' (fun w' (hb : Below w.heap.size w w') => k'f1 (zl q) v2 w' (h2.below hb));have hql := List.length_pos_iff.2 hq0;obtain ⟨a1,b1,o1,c1,rfl,_⟩ := h1.open_;obtain ⟨a2,b2,o2,c2,rfl,h22,h23,h24,h25⟩ := h2.open_;obtain rfl := h24 hq0;have H25 := i' h25;have HC := i' hc;have hcl := hc.lt;have HT2 := i' ht2;have HQ1 := i' hq1;have HB := i' hB;have HLq := i' (Pl.lead_ne hqn hq0);have hp0 : p ≠ [] := by intro e0; rw [e0] at hlt; simp at hlt; exact hq0 hlt
 have HP0 := i' hp0;rw [k'e0] at HDg;obtain ⟨n1,hn1⟩ : ∃ n,n = p.length := ⟨_,rfl⟩;obtain ⟨m,hm⟩ : ∃ m,q.length = m + 1 := ⟨q.length - 1,by omega⟩
 have hmc : m ≤ c2 := by omega
 rw [show p.length + 1 - q.length = p.length - m by omega]
 obtain ⟨n2,hn2⟩ : ∃ n,n = q.length := ⟨_,rfl⟩;have hmn : m < n2 := by omega
 have hmn2 : (n2 : Int) - 1 = (m : Int) := by omega
 have HMN := i' hmn2;generalize hres : Pl.dvs q (p.length - m) p = res;have HRes := i' hres;rw [← hn1] at hl1 hlt HCl ⊢;rw [← hn2] at hl2 hlt HDg ⊢;have HN1 := i' hn1;have HM := i' hm;have hmk0 : m < n1 := by omega
 obtain ⟨no,hno⟩ : ∃ no,n1 = m + no := ⟨n1 - m,by omega⟩
 have hno1 : 0 < no := by omega
 have hno2 : no ≤ 50 := by omega
 have hsub : (n1 : Int) - (m : Int) = (no : Int) := by omega
 have hmax : max ((n1 : Int) - (m : Int)) 0 = (no : Int) := by omega
 have hmax2 : max (no : Int) 0 = (no : Int) := by omega
 have HMx := i' (And.intro hsub (And.intro hmax hmax2));have HNo := i' hno;have HK := i' (fun w => k'eb no w (by omega))
 clear h1 h2 h22 h23 h24 h25 hc ht2 hq1 hB hn1 hn2 hm hp0 hq0 hql hmn2 hqn hres hno hsub hmax hmax2;go_enter Tryz.func111,Tryz.ntmps111;go_wp2_with fail;refine HCl.out.mono ?_;rintro en w1 ⟨a3,n3,c3,rfl,hr1,ho1,hb1⟩;obtain rfl : n3 = n1 := by
  obtain ⟨_,_,_,_,e1,_⟩ := hr1.open_;injection e1 with _ e2 _;exact e2.trans HN1.out.symm
 obtain ⟨g,rfl,hg,haw⟩ := ho1 HP0.out;have hcap : n3 ≤ c3 ∧ c3 ≤ maxLen := by
  obtain ⟨_,_,_,_,e1,e2,e3,_⟩ := hr1.open_;injection e1 with _ e4 e5;subst e4 e5;exact ⟨e2,e3⟩
 obtain ⟨hc1,hc2⟩ := hcap;unfold maxLen at hc2;have HB1 := i' hb1;have HA1 := i' haw;clear hr1 ho1 hb1 haw;go_wp2_with fail;refine (HDg.out _ HB1.out).mono ?_;rintro en w2 ⟨rfl,hb2⟩;have HA2 := i' (HA1.out.below hb2);have HB2 := i' (k'4h HB1.out hb2);have hgw2 := HA2.out.lt;clear hb2;rw [HMN.out];have hk := HK.out;have hs1 := HMx.out.1;have hs2 := HMx.out.2.2;go_wp2;clear hk hs1 hs2;obtain ⟨g2,hg2⟩ : ∃ g2,g2 = w2.heap.size := ⟨_,rfl⟩;obtain ⟨w4,hw4⟩ : ∃ w4 : World,w4 = w2.alloc (.cells (wv (List.replicate no 0)).toArray 44) := ⟨_,rfl⟩;have HA4 : Hid (Aw w4 g p) := by rw [hw4]; exact HA2.out.alloc _
 have HO4 : Hid (Aw w4 g2 (List.replicate no 0)) := by rw [hw4,hg2]; exact Aw.made w2 _
 have HB4 : Hid (Below w.heap.size w w4) := by rw [hw4]; exact HB2.out.alloc HB2.out.size _
 rw [← hw4,← hg2];have hgg : g < g2 := by omega
 have hg2s : w.heap.size ≤ g2 := by omega
 clear hw4 hg2 HA1 HA2 HB1 HB2 hgw2 HCl HDg;go_loopw [7] (fun rv wr => ∃ (wz : World) (k : Nat) (r t o : List Int) (en : Int),wz = wr ∧ k ≤ n3 ∧ m ≤ k ∧ rv = .slice (some ⟨g,0,none⟩) k c3 ∧ Hid (r.length = k) ∧ Hid (o.length = no) ∧ Hid (USz p q r) ∧ Hid (Aw wz g r) ∧ Hid (Aw wz g2 o) ∧ Hid (But c w wz) ∧ Hid (Ck wz c en) ∧
  ((Hid (en = 0) ∧ Hid (UInv p q r t m) ∧ Hid (o = List.replicate (k - m) 0 ++ t)) ∨ (Hid (en = 10) ∧ Hid (res = none))))
  (fun rv _ => lenOf rv)
 case atStart =>
  refine ⟨w4,n3,p,[],List.replicate no 0,0,rfl,Nat.le_refl _,by omega,rfl,HN1.out.symm,List.length_replicate,Nat.le_refl _,HA4.out,HO4.out,But.of_below HB4.out,HC.out.below HB4.out,Or.inl ⟨rfl,⟨?_,by simp⟩,?_⟩⟩
  ·cases Pl.dvs q (p.length - m) p <;> simp
  ·have h5 : n3 = m + no := HNo.out
   show _ = _;rw [show n3 - m = no by omega,List.append_nil]
 case round =>
  clear HA4 HO4 HB4;obtain ⟨wz,k,r,t,o,en,rfl,hk,hmk,rfl,hrl,hol,husz,haw,hao,hbut,hck,hst⟩ := hrel;by_cases hgo : m < k ∧ en = 0
  ·obtain ⟨hlt2,rfl⟩ := hgo
   obtain ⟨j,hjk⟩ : ∃ j,k = j + 1 := ⟨k - 1,by omega⟩
   have hst2 : Hid (UInv p q r t m) ∧ Hid (o = List.replicate (k - m) 0 ++ t) := by
    rcases hst with ⟨_,h5,h6⟩ | ⟨h5,_⟩
    ·exact ⟨h5,h6⟩
    ·exact absurd h5.out (by decide)
   obtain ⟨hinv,ho⟩ := hst2;have hjr : j < r.length := by have h5 : r.length = k := hrl.out; omega
   have hmq : m < q.length := by have h5 : q.length = m + 1 := HM.out; omega
   have hqr : q.length ≤ r.length := by have h5 : q.length = m + 1 := HM.out; have h6 : r.length = k := hrl.out; omega
   have HTop := i' (husz.out.top HQ1.out hqr HB.out);have hlead : Hid (Pl.cf r j = Pl.lead r) := by show _ = _; unfold Pl.lead; rw [hrl.out,hjk]; rfl
   have hleadq : Hid (Pl.cf q m = Pl.lead q) := by show _ = _; unfold Pl.lead; rw [HM.out]; rfl
   have htr : (Pl.lead r).natAbs < Top := by rw [← hlead.out]; exact (k'gq (q := q) HQ1.out HTop.out j 0).1
   have htq : (Pl.lead q).natAbs < Top := by rw [← hleadq.out,Pl.cf_lt hmq]; exact HT2.out _ (List.getElem_mem hmq)
   obtain ⟨t0,t1⟩ := haw.out.cell j hjr;rw [← Pl.cf_lt hjr,hlead.out] at t0 t1;have hq0c := (H25.out m hmq).1;have hq1c := (H25.out m hmq).2;rw [← Pl.cf_lt hmq,hleadq.out] at hq0c hq1c;have hnc := HC.out.ne hq0c;have q0 := hbut.out.cell hq0c hnc;have q1 := hbut.out.cell hq1c hnc;have hgl := haw.out.lt;have hg2l := hao.out.lt;have hb2 := World.block_lt_of_cell? w _ hq0c;simp only at hb2;have c0 := hck.out.cell;have u1 := World.new_ne wz _ t0;have u2 := World.new_ne wz _ t1;have u3 := World.new_ne wz _ q0;have u4 := World.new_ne wz _ q1;have x0 : (0 : Int) ≤ (j : Int) := by omega
   have x1 : (j : Int) < (k : Int) := by omega
   have vj : (k : Int) - 1 = (j : Int) := by omega
   have vw : IntKind.i64.wrap (j : Int) = (j : Int) := IntWalk.i64_in _ (by omega)
   have HJK := i' hjk;have VV := i' (And.intro vj vw);have hjk2 : j < k := by omega
   have x2 : (0 : Int) ≤ (m : Int) := by omega
   have x3 : (m : Int) < (n2 : Int) := by omega
   have hd0 : decide ((m : Int) < (k : Int)) = true := by rw [decide_eq_true_eq]; omega
   obtain ⟨e2,he2,hD⟩ : ∃ e2 : Int,Hid ((e2 = 0 ∧ Pl.lead r % Pl.lead q = 0) ∨ (e2 = 10 ∧ ¬ Pl.lead r % Pl.lead q = 0)) ∧ Hid (∀ w,Ck w c 0 → Calls Tryz.prog 129 #[.pointer (some ⟨c,0,none⟩),Z (Pl.lead r),Z (Pl.lead q)] w (KPost (Z (Pl.lead r / Pl.lead q)) c e2 w)) := by
    by_cases hd : Pl.lead r % Pl.lead q = 0
    ·exact ⟨0,Or.inl ⟨rfl,hd⟩,fun w hc => k'hf c (Pl.lead r) (Pl.lead q) 0 w hc htr htq HLq.out hd⟩
    ·exact ⟨10,Or.inr ⟨rfl,hd⟩,fun w hc => k'hg c (Pl.lead r) (Pl.lead q) 0 10 w rfl hc htr htq HLq.out hd⟩
   have HRL := i' hjr;have HQL := i' hmq;have HQR := i' hqr;have hgc : g ≠ c := by omega
   have hg2c : g2 ≠ c := by omega
   have hzc : wz.heap.size ≠ c := by have := hck.out.lt; omega
   have HA0 := i' haw.out;have HO0 := i' hao.out;have HBz := i' hbut.out;clear htr htq hq0c hq1c hjr hmq hqr haw hao hbut hst hjk vj vw;unfold Z at hD;have vj := VV.out.1;have vw := VV.out.2;go_upto_region 4 with (fail);go_region_held3 (fun W' => W'.cell? ⟨g,j * 2,none⟩ = some (.bool (zb (Pl.lead r))) ∧ W'.cell? ⟨g,j * 2 + 1,none⟩ = some (.string (zs (Pl.lead r))) ∧ W'.cell? ⟨b2,o2 + m * 2,none⟩ = some (.bool (zb (Pl.lead q))) ∧ W'.cell? ⟨b2,o2 + m * 2 + 1,none⟩ = some (.string (zs (Pl.lead q)))) (go_keep)
    (first
     | (go_at_call 129; (with_reducible refine (hD.out _ (by exact hck.out.drew)).mono ?_); rintro e w5 ⟨rfl,b5,d5⟩; have c5 := ((But.refl c wz).drew).trans b5; have p0 := c5.cell t0 hgc; have p1 := c5.cell t1 hgc; have p2 := c5.cell q0 hnc; have p3 := c5.cell q1 hnc; have tag1 := i' (And.intro c5 d5); clear b5 c5 d5)
     | (go_at_call 129; (with_reducible refine (hD.out _ (by exact (hck.out.alloc _).drew)).mono ?_); rintro e w5 ⟨rfl,b5,d5⟩; have c5 := (((But.refl c wz).alloc _).drew).trans b5; have p0 := c5.cell t0 hgc; have p1 := c5.cell t1 hgc; have p2 := c5.cell q0 hnc; have p3 := c5.cell q1 hnc; have z0 := b5.cell (a := ⟨wz.heap.size,0,none⟩) (v := .bool false) (by simp [go_sem]) hzc; have z1 := b5.cell (a := ⟨wz.heap.size,1,none⟩) (v := .string ⟨#[]⟩) (by simp [go_sem]) hzc; have z2 := b5.frozen (a := ⟨wz.heap.size,0,none⟩) (v := .bool false) (by simp [go_sem]) (by simp [go_sem]) hzc; have z3 := b5.frozen (a := ⟨wz.heap.size,1,none⟩) (v := .string ⟨#[]⟩) (by simp [go_sem]) (by simp [go_sem]) hzc; have tag2 := i' (And.intro c5 d5); clear b5 c5 d5))
   all_goals
    clear vj vw;obtain ⟨tv,htv⟩ : ∃ tv,tv = Pl.lead r / Pl.lead q := ⟨_,rfl⟩;rw [← htv];have HTV := i' htv
    first
     | (obtain ⟨c5, d5⟩ := tag1.out
        obtain ⟨wF,hwF⟩ : ∃ wF : World,wF = w5.alloc (.cells #[.bool (zb tv),.string (zs tv)] 44) := ⟨_,rfl⟩;obtain ⟨B10,hB10⟩ : ∃ B,B = w5.heap.size := ⟨_,rfl⟩;have F1 : Hid (But c wz wF) := by rw [hwF]; exact c5.alloc _
        have F2 : Hid (wF.cell? ⟨B10,0,none⟩ = some (.bool (zb tv)) ∧ wF.cell? ⟨B10,1,none⟩ = some (.string (zs tv))) := by rw [hwF,hB10]; exact ⟨by simp [go_sem],by simp [go_sem]⟩
        have F3 : Hid (wz.heap.size ≤ B10) := by rw [hB10]; exact c5.size
        have F4 : Hid (Ck wF c e2) := by rw [hwF]; exact d5.alloc _
        clear tag1)
     | (obtain ⟨c5, d5⟩ := tag2.out
        obtain ⟨wF,hwF⟩ : ∃ wF : World,wF = (w5.setCell ⟨wz.heap.size,0,none⟩ (.bool (zb tv))).setCell ⟨wz.heap.size,1,none⟩ (.string (zs tv)) := ⟨_,rfl⟩;obtain ⟨B10,hB10⟩ : ∃ B,B = wz.heap.size := ⟨_,rfl⟩;have F1 : Hid (But c wz wF) := by rw [hwF]; exact (c5.new (p := ⟨wz.heap.size,0,none⟩) (Nat.le_refl _) _).new (p := ⟨wz.heap.size,1,none⟩) (Nat.le_refl _) _
        have F2 : Hid (wF.cell? ⟨B10,0,none⟩ = some (.bool (zb tv)) ∧ wF.cell? ⟨B10,1,none⟩ = some (.string (zs tv))) := by rw [hwF,hB10]; exact ⟨by simp [go_sem,z0,z1],by simp [go_sem,z0,z1]⟩
        have F3 : Hid (wz.heap.size ≤ B10) := by rw [hB10]; exact Nat.le_refl _
        have F4 : Hid (Ck wF c e2) := by rw [hwF]; exact (d5.other ⟨wz.heap.size,0,none⟩ _ (Ne.symm hzc)).other ⟨wz.heap.size,1,none⟩ _ (Ne.symm hzc)
        clear tag2 z0 z1 z2 z3)
    rw [← hwF,← hB10];clear hwF hB10 htv c5 d5 p0 p1 p2 p3;obtain ⟨s,hs⟩ : ∃ s,s = j - m := ⟨_,rfl⟩;have hjm : m ≤ j := by have h5 := HJK.out; omega
    have HAF : Hid (Aw wF g (r.take j)) := (F1.out.aw HA0.out hgc).take j;have HOF : Hid (Aw wF g2 o) := F1.out.aw HO0.out hg2c;have HBF : Hid (But c w wF) := HBz.out.trans F1.out;have hBg : B10 ≠ g := by have h5 := F3.out; have h6 := HA0.out.lt; omega
    have hgF := HAF.out.lt;have hqr := HQR.out;have hmq2 : q.length = m + 1 := HM.out;have hrl2 : r.length = j + 1 := hrl.out.trans HJK.out;have hsno : s < no := by have h5 : n3 = m + no := HNo.out; omega
    have htvm : tv.natAbs ≤ Pl.mx r := by rw [HTV.out]; exact Nat.le_trans (Int.natAbs_ediv_le_natAbs _ _) (Pl.mx_cf r _)
    have hmxs : ∀ k,(Pl.cf (r.take j) k).natAbs ≤ Pl.mx r := by
     intro k;by_cases hk2 : k < j
     ·rw [Pl.cf_lt (by simp; omega),List.getElem_take,← Pl.cf_lt (by omega)]
      exact Pl.mx_cf r k
     ·rw [Pl.cf_ge (by simp; omega)]; simp
    have hmxm : ∀ k,(Pl.cf (q.take m) k * tv).natAbs ≤ Pl.mx q * Pl.mx r := by
     intro k;rw [Int.natAbs_mul];refine Nat.mul_le_mul ?_ htvm;by_cases hk2 : k < m
     ·rw [Pl.cf_lt (by simp; omega),List.getElem_take,← Pl.cf_lt (by omega)]
      exact Pl.mx_cf q k
     ·rw [Pl.cf_ge (by simp; omega)]; simp
    have htop := HTop.out;rw [Nat.mul_assoc] at htop;have hone : Pl.mx r ≤ Pl.mx q * Pl.mx r := Nat.le_mul_of_pos_left _ HQ1.out;have HSub := i' (fun wv hcv hgv (hp : ∀ k (hk : k < (q.take m).length),wv.cell? ⟨b2,o2 + k * 2,none⟩ = some (.bool (zb (q.take m)[k])) ∧ wv.cell? ⟨b2,o2 + k * 2 + 1,none⟩ = some (.string (zs (q.take m)[k]))) =>
     k'gi c g s m (c3 - s) c2 b2 o2 (some ⟨g,s * 2,none⟩) (some ⟨b2,o2,none⟩) (r.take j) (q.take m) tv e2 wv hcv hgv (by simp; omega) (by omega) (by simp; omega) (by omega) (fun _ => rfl) (fun _ => rfl) (by omega)
     hp (by omega) (by omega) (fun k _ => Nat.lt_of_le_of_lt (hmxs _) (by omega)) (fun k hk2 => by rw [Pl.cf_lt (by simp; omega),List.getElem_take]; exact HT2.out _ (List.getElem_mem _)) (fun k _ => Nat.lt_of_le_of_lt (hmxm _) (by omega)) (fun k _ => by have h5 := hmxs (s + k); have h6 := hmxm k; omega))
    have hups := k'lt r q m tv HM.out hqr;rw [hrl2,Nat.add_sub_cancel,← hs] at hups;rw [hups] at HSub;have HQy : Hid (∀ k (hk : k < (q.take m).length),wF.cell? ⟨b2,o2 + k * 2,none⟩ = some (.bool (zb (q.take m)[k])) ∧ wF.cell? ⟨b2,o2 + k * 2 + 1,none⟩ = some (.string (zs (q.take m)[k]))) := by
     intro k hk2;have hk3 : k < q.length := by simp at hk2; omega
     have h5 := H25.out k hk3;rw [List.getElem_take];exact ⟨HBF.out.cell h5.1 hnc,HBF.out.cell h5.2 hnc⟩
    have HLs : Hid ((Pl.step 1 tv q r).length = j) := by show _ = _; rw [Pl.step_length,hrl2]; omega
    have HUS : Hid (USz p q (Pl.step 1 tv q r)) := by rw [HTV.out]; exact husz.out.step HQ1.out (by omega) hqr
    have HFin : Hid ((Hid (e2 = 0) ∧ Hid (UInv p q (Pl.step 1 tv q r) (tv :: t) m) ∧ Hid (o.set s tv = List.replicate (j - m) 0 ++ (tv :: t))) ∨ (Hid (e2 = 10) ∧ Hid (res = none))) := by
     rcases he2.out with ⟨h5,h6⟩ | ⟨h5,h6⟩
     ·refine Or.inl ⟨h5,?_,?_⟩
      ·rw [HTV.out]; exact hinv.out.step HM.out hqr h6
      ·show _ = _
       have h7 : k - m = s + 1 := by have h8 : k = j + 1 := HJK.out; omega
       rw [ho.out,h7,← hs];have h9 := k'lu s t tv;exact h9
     ·refine Or.inr ⟨h5,?_⟩
      show _ = _;rw [← HRes.out];exact hinv.out.none (by omega) h6
    have k0 := F2.out.1;have k1 := F2.out.2;have HOL := i' (show s < o.length by rw [hol.out]; exact hsno)
    have v0 : (0 : Int) ≤ (s : Int) := by omega
    have v1 : (s : Int) ≤ (j : Int) := by omega
    have v2 : (j : Int) ≤ (c3 : Int) := by omega
    have v3 : (m : Int) ≤ (c2 : Int) := by omega
    have v4 : ¬ c3 = s := by omega
    have v6 : (s : Int) < (no : Int) := by omega
    have vm : j - s = m := by omega
    have vq : (j : Int) - (m : Int) = (s : Int) := by omega
    have vw1 : IntKind.i64.wrap (s : Int) = (s : Int) := IntWalk.i64_in _ (by omega)
    have VV2 := i' (And.intro vm (And.intro vq vw1));clear hups htop hmxs hmxm hrl2 hmq2 hqr hs vm vq vw1 htvm hone;have vj := VV.out.1;go_upto_region 6 with (fail);have vm := VV2.out.1;have vq := VV2.out.2.1;have vw1 := VV2.out.2.2;go_region_held3 (fun W' => W'.cell? ⟨B10,0,none⟩ = some (.bool (zb tv)) ∧ W'.cell? ⟨B10,1,none⟩ = some (.string (zs tv))) (go_keep)
     (first
      | (go_at_call 137; (with_reducible refine (HSub.out _ (by exact F4.out.drew) (by exact HAF.out.drew) (by intro k hk; rw [k'gs,k'gs]; exact HQy.out k hk)).mono ?_); rintro e w7 ⟨⟨v5,rfl⟩,b5,a5⟩; have p0 := b5.cell k0 hBg; have p1 := b5.cell k1 hBg; have G1 := i' (And.intro b5 a5); clear b5 a5))
    all_goals
     have hb7 : But g wF w7 := ⟨G1.out.1.os,G1.out.1.tape,G1.out.1.output,G1.out.1.size,G1.out.1.block⟩;have HO7 := i' (hb7.aw HOF.out (by omega))
     have HC7 := i' (hb7.ck F4.out (by omega))
     have HA7 := i' G1.out.2;have HB7 := i' (hb7.lowC hg hgF);obtain ⟨o0,o1⟩ := HO7.out.cell s HOL.out;have f0 := HO7.out.free (s * 2);have f1 := HO7.out.free (s * 2 + 1);have HO8 := i' (HO7.out.set s HOL.out tv);have HA8 := i' ((HA7.out.other ⟨g2,s * 2,none⟩ (.bool (zb tv)) (by simp only; omega)).other ⟨g2,s * 2 + 1,none⟩ (.string (zs tv)) (by simp only; omega))
     have HC8 := i' ((HC7.out.other ⟨g2,s * 2,none⟩ (.bool (zb tv)) (by simp only; omega)).other ⟨g2,s * 2 + 1,none⟩ (.string (zs tv)) (by simp only; omega))
     have HB8 : Hid (But c w ((w7.setCell ⟨g2,s * 2,none⟩ (.bool (zb tv))).setCell ⟨g2,s * 2 + 1,none⟩ (.string (zs tv)))) :=
      ((HBF.out.trans2 HB7.out).new (p := ⟨g2,s * 2,none⟩) hg2s _).new (p := ⟨g2,s * 2 + 1,none⟩) hg2s _
     have HOs : Hid ((o.set s tv).length = no) := by show _ = _; rw [List.length_set]; exact hol.out
     clear vm vw1 hb7;go_wp2;go_roundw
     case rel => exact ⟨_,j,_,tv :: t,_,e2,rfl,by omega,hjm,rfl,HLs.out,HOs.out,HUS.out,HA8.out,HO8.out,HB8.out,HC8.out,HFin.out⟩
     case measure => simp [lenOf]; omega
  ·have hmr : Pl.mx r < Top := by
    refine Nat.lt_of_le_of_lt ?_ (Nat.lt_of_le_of_lt husz.out HB.out);exact Nat.le_mul_of_pos_left _ (Nat.pow_pos (by have h5 := HQ1.out; omega))
   have HTr := i' (k'fo (.slice (some ⟨g,0,none⟩) k c3) r wz (Rp.of_whole haw.out k c3 hrl.out (by omega) (by unfold maxLen; omega)) (fun a ha => Nat.lt_of_le_of_lt (Pl.mx_mem ha) hmr))
   have HQ : Hid (∀ e3 : Int,(if Pl.trim r = [] then e3 = en else e3 = if en = 0 then 10 else en) → ((∃ t',res = some t' ∧ e3 = 0 ∧ o = t') ∨ (res = none ∧ e3 = 10))) := by
    intro e3 he3;rcases hst with ⟨h5,h6,h7⟩ | ⟨h5,h6⟩
    ·have h0 : en = 0 := h5
     subst h0;have hkm : k = m := by
      rcases Nat.lt_or_ge m k with g1 | g1
      ·exact absurd ⟨g1,rfl⟩ hgo
      ·omega
     have h8 := h6.out.last (hrl.out.trans hkm);rw [HRes.out] at h8;by_cases ht : Pl.trim r = []
     ·rw [if_pos ht] at h8 he3
      refine Or.inl ⟨t,h8,he3,?_⟩;rw [h7.out,hkm,Nat.sub_self]; rfl
     ·rw [if_neg ht] at h8 he3
      exact Or.inr ⟨h8,he3⟩
    ·have h0 : en = 10 := h5
     subst h0;refine Or.inr ⟨h6,?_⟩
     split at he3 <;> simpa using he3
   have HEn : Hid (m < k → (en == 0) = false) := fun h5 => by
    simp only [beq_eq_false_iff_ne];intro h6;exact hgo ⟨h5,h6⟩
   have HOP : Hid (∀ w',Aw w' g2 o → Rp w' (.slice (some ⟨g2,0,none⟩) no no) o) := fun w' h5 => Rp.of_whole h5 no no hol.out (Nat.le_refl _) (by unfold maxLen; omega)
   have hg2c : g2 ≠ c := by omega
   have c0 := hck.out.cell;have HKz := i' (fun w' (h5 : Ck w' c en) => k'ee c false ⟨#[]⟩ 10 en w' h5);clear hgo hst hmr;rcases Nat.lt_or_ge m k with hlt3 | hge3
   ·have hd0 : decide ((m : Int) < (k : Int)) = true := by rw [decide_eq_true_eq]; omega
    have hd1 := HEn.out hlt3;go_wp2_with fail;refine HTr.out.mono ?_;rintro en2 w3 ⟨v3,rfl,hr3,hb3⟩;obtain ⟨a4,b4,o4,c4,rfl,h42,h43,h44⟩ := hr3.open_;have HB3 := i' (hbut.out.trans (But.of_below hb3));have HC3 := i' (hck.out.below hb3);have HO3 := i' (hao.out.below hb3);have hl4 : (Pl.trim r).length ≤ k := by have h5 := Pl.trim_length r; rw [hrl.out] at h5; exact h5
    clear hr3 hb3 h42 h43 h44;by_cases ht : Pl.trim r = []
    ·have HQ2 := i' (HQ.out en (by rw [if_pos ht]))
     have HT0 := i' ht;have e0 : (Pl.trim r).length = 0 := by rw [ht]; rfl
     clear ht;go_wp2;go_ret;refine ⟨_,_,_,rfl,HB3.out,?_⟩;rcases HQ2.out with ⟨t',h5,h6,h7⟩ | ⟨h5,h6⟩
     ·exact Or.inl ⟨t',h5,by rw [← h6]; exact HC3.out,by rw [← h7]; exact HOP.out _ HO3.out⟩
     ·exact Or.inr ⟨h5,by rw [← h6]; exact HC3.out⟩
    ·have HQ2 := i' (HQ.out _ (by rw [if_neg ht]))
     have e0 : 0 < (Pl.trim r).length := List.length_pos_iff.2 ht;clear ht;generalize (Pl.trim r).length = lt at *;have hpos : (0 : Int) < (lt : Int) := by omega
     go_wp2_with fail;refine (HKz.out _ HC3.out).mono ?_;rintro en3 w5 ⟨rfl,b5,d5⟩;have HB5 := i' (HB3.out.trans b5);have HC5 := i' d5;have HO5 := i' (b5.aw HO3.out hg2c);clear b5 d5;generalize (if en = 0 then (10 : Int) else en) = e3 at *
     go_wp2;go_ret;refine ⟨_,_,_,rfl,HB5.out,?_⟩;rcases HQ2.out with ⟨t',h5,h6,h7⟩ | ⟨h5,h6⟩
     ·exact Or.inl ⟨t',h5,by rw [← h6]; exact HC5.out,by rw [← h7]; exact HOP.out _ HO5.out⟩
     ·exact Or.inr ⟨h5,by rw [← h6]; exact HC5.out⟩
   ·have hd0 : decide ((m : Int) < (k : Int)) = false := by rw [decide_eq_false_iff_not]; omega
    go_wp2_with fail;refine HTr.out.mono ?_;rintro en2 w3 ⟨v3,rfl,hr3,hb3⟩;obtain ⟨a4,b4,o4,c4,rfl,h42,h43,h44⟩ := hr3.open_;have HB3 := i' (hbut.out.trans (But.of_below hb3));have HC3 := i' (hck.out.below hb3);have HO3 := i' (hao.out.below hb3);have hl4 : (Pl.trim r).length ≤ k := by have h5 := Pl.trim_length r; rw [hrl.out] at h5; exact h5
    clear hr3 hb3 h42 h43 h44;by_cases ht : Pl.trim r = []
    ·have HQ2 := i' (HQ.out en (by rw [if_pos ht]))
     have HT0 := i' ht;have e0 : (Pl.trim r).length = 0 := by rw [ht]; rfl
     clear ht;go_wp2;go_ret;refine ⟨_,_,_,rfl,HB3.out,?_⟩;rcases HQ2.out with ⟨t',h5,h6,h7⟩ | ⟨h5,h6⟩
     ·exact Or.inl ⟨t',h5,by rw [← h6]; exact HC3.out,by rw [← h7]; exact HOP.out _ HO3.out⟩
     ·exact Or.inr ⟨h5,by rw [← h6]; exact HC3.out⟩
    ·have HQ2 := i' (HQ.out _ (by rw [if_neg ht]))
     have e0 : 0 < (Pl.trim r).length := List.length_pos_iff.2 ht;clear ht;generalize (Pl.trim r).length = lt at *;have hpos : (0 : Int) < (lt : Int) := by omega
     go_wp2_with fail;refine (HKz.out _ HC3.out).mono ?_;rintro en3 w5 ⟨rfl,b5,d5⟩;have HB5 := i' (HB3.out.trans b5);have HC5 := i' d5;have HO5 := i' (b5.aw HO3.out hg2c);clear b5 d5;generalize (if en = 0 then (10 : Int) else en) = e3 at *
     go_wp2;go_ret;refine ⟨_,_,_,rfl,HB5.out,?_⟩;rcases HQ2.out with ⟨t',h5,h6,h7⟩ | ⟨h5,h6⟩
     ·exact Or.inl ⟨t',h5,by rw [← h6]; exact HC5.out,by rw [← h7]; exact HOP.out _ HO5.out⟩
     ·exact Or.inr ⟨h5,by rw [← h6]; exact HC5.out⟩
theorem k'lw (c : Nat) (p q : List Int) (v1 v2 : Value) (w : World) (h1 : Rp w v1 p) (h2 : Rp w v2 q) (hc : Ck w c 0) (hl1 : p.length ≤ 50) (hl2 : q.length ≤ 50)
 (ht1 : ∀ a ∈ p,a.natAbs < Top) (hlt : p.length < q.length) :
 Calls Tryz.prog 111 #[.pointer (some ⟨c,0,none⟩),v1,v2] w (QuoPost (Pl.dvs q 0 p) c w) := by
 have HCl := i' (k'gd p v1 w h1 (by omega))
 have HDg := i' (fun w' (hb : Below w.heap.size w w') => k'f1 (zl q) v2 w' (h2.below hb));have HTr := i' (fun v w' hr => k'fo v p w' hr ht1);have HC := i' hc;have HE : Hid (Pl.dvs q 0 p = if Pl.trim p = [] then some [] else none) := by show _ = _; rw [Pl.dvs]
 obtain ⟨a1,b1,o1,c1,rfl,_⟩ := h1.open_;obtain ⟨a2,b2,o2,c2,rfl,_⟩ := h2.open_;rw [k'e0] at HDg;obtain ⟨n1,hn1⟩ : ∃ n,n = p.length := ⟨_,rfl⟩;obtain ⟨m,hm⟩ : ∃ m,q.length = m + 1 := ⟨q.length - 1,by omega⟩
 obtain ⟨n2,hn2⟩ : ∃ n,n = q.length := ⟨_,rfl⟩;generalize hres : Pl.dvs q 0 p = res at *;have hmn2 : (n2 : Int) - 1 = (m : Int) := by omega
 have HMN := i' hmn2;rw [← hn1] at hl1 hlt HCl ⊢;rw [← hn2] at hl2 hlt HDg ⊢;have HN1 := i' hn1;have hle0 : n1 ≤ m := by omega
 obtain ⟨d,hd⟩ : ∃ d,m = n1 + d := ⟨m - n1,by omega⟩
 have hd50 : d ≤ 50 := by omega
 have hmax : (n1 : Int) - (m : Int) = -(d : Int) := by omega
 have hmax2 : max (-(d : Int)) 0 = 0 := by omega
 have HMx := i' (And.intro hmax hmax2);have HK : Hid (∀ w,(Instr.makeSlice 23 (.int .i64 0) (.int .i64 0)).run Tryz.prog w = .ok (.slice (some ⟨w.heap.size,0,none⟩) 0 0) (w.alloc (.cells (wv ([] : List Int)).toArray 44))) := fun w => k'eb 0 w (by omega)
 have HTl := i' (Pl.trim_length p);clear h1 h2 hc ht1 hn1 hn2 hmn2 hmax hmax2 hres hm hd;go_enter Tryz.func111,Tryz.ntmps111;go_wp2_with fail;refine HCl.out.mono ?_;rintro en w1 ⟨a3,n3,c3,rfl,hr1,-,hb1⟩;obtain rfl : n3 = n1 := by
  obtain ⟨_,_,_,_,e1,_⟩ := hr1.open_;injection e1 with _ e2 _;exact e2.trans HN1.out.symm
 have HR1 := i' hr1;have HB1 := i' hb1;clear hr1 hb1;go_wp2_with fail;refine (HDg.out _ HB1.out).mono ?_;rintro en w2 ⟨rfl,hb2⟩;have HR2 := i' (HR1.out.below hb2);have HB2 := i' (k'4h HB1.out hb2);clear hb2;rw [HMN.out];have hk := HK.out;have hs1 := HMx.out.1;have hs2 := HMx.out.2;go_wp2;clear hk hs1 hs2;obtain ⟨g2,hg2⟩ : ∃ g2,g2 = w2.heap.size := ⟨_,rfl⟩;obtain ⟨w4,hw4⟩ : ∃ w4 : World,w4 = w2.alloc (.cells (wv ([] : List Int)).toArray 44) := ⟨_,rfl⟩;have HR4 : Hid (Rp w4 (.slice a3 n3 c3) p) := by rw [hw4]; exact HR2.out.below ((Below.refl _ _).alloc (Nat.le_refl _) _)
 have HB4 : Hid (Below w.heap.size w w4) := by rw [hw4]; exact HB2.out.alloc HB2.out.size _
 rw [← hw4,← hg2];have HO4 : Hid (∀ w',Rp w' (.slice (some ⟨g2,0,none⟩) 0 0) []) := fun w' => Rp.mk (b := g2) (off := 0) rfl (Nat.le_refl _) (by decide) (fun h => absurd rfl h) (fun k hk => absurd hk (by simp))
 clear hw4 hg2 HR2 HB2 HR1 HB1;go_loop [7] (fun v => v = .slice a3 n3 c3) (fun _ => 0)
 case atStart => rfl
 case round =>
  obtain rfl := hrel;have hd0 : decide ((m : Int) < (n3 : Int)) = false := by rw [decide_eq_false_iff_not]; omega
  go_wp2_with fail;refine (HTr.out _ _ HR4.out).mono ?_;rintro en2 w5 ⟨v5,rfl,hr5,hb5⟩;obtain ⟨a5,b5,o5,c5,rfl,-⟩ := hr5.open_;have HB5 := i' (k'4h HB4.out hb5);clear hr5 hb5;have hl4 : (Pl.trim p).length ≤ n3 := by have h5 := HTl.out; have h6 : n3 = p.length := HN1.out; omega
  have c0 := (HC.out.below HB5.out).cell;have HC5 := i' (HC.out.below HB5.out);by_cases ht : Pl.trim p = []
  ·have HQ : Hid (res = some []) := by show _ = _; rw [HE.out,if_pos ht]
   have e0 : (Pl.trim p).length = 0 := by rw [ht]; rfl
   clear ht;go_wp2;go_ret;exact ⟨_,_,_,rfl,But.of_below HB5.out,Or.inl ⟨[],HQ.out,HC5.out,HO4.out _⟩⟩
  ·have HQ : Hid (res = none) := by show _ = _; rw [HE.out,if_neg ht]
   have e0 : 0 < (Pl.trim p).length := List.length_pos_iff.2 ht;clear ht;generalize (Pl.trim p).length = lt at *;have hpos : (0 : Int) < (lt : Int) := by omega
   have HKz := i' (k'ee c false ⟨#[]⟩ 10 0 w5 HC5.out);go_wp2_with fail;refine HKz.out.mono ?_;rintro en3 w6 ⟨rfl,b6,d6⟩;have HB6 := i' ((But.of_below HB5.out).trans b6);have HC6 := i' d6;clear b6 d6;go_wp2;go_ret;exact ⟨_,_,_,rfl,HB6.out,Or.inr ⟨HQ.out,HC6.out⟩⟩
def ResO (o : Option (List Int)) (w : World) (en : Ending) (w' : World) : Prop := (∃ t,o = some t ∧ ResP t w en w') ∨ (o = none ∧ ResE 10 w en w')
theorem k'ly (p q : List Int) (v1 v2 : Value) (w : World) (h1 : Rp w v1 p) (h2 : Rp w v2 q) (hp : VP p) (hq : VP q) (hc : ckd (zl p) (zl q) = 0) :
 Calls Tryz.prog 54 #[v1,v2] w (ResO (Pl.dvs q (p.length + 1 - q.length) p) w) := by
 obtain ⟨f1,f2⟩ := k'hv hp hq hc;have l1 := hp.len;have l2 := hq.len;have HD := i' (k'hb (zl p) (zl q) v1 v2 w h1 h2 (k'ey hp.top) (k'ey hq.top));rw [hc] at HD;have HR : Hid (∀ c w',Below w.heap.size w w' → Ck w' c 0 → Calls Tryz.prog 111 #[.pointer (some ⟨c,0,none⟩),v1,v2] w' (QuoPost (Pl.dvs q (p.length + 1 - q.length) p) c w')) := fun c w' hb hck => by
  rcases Nat.lt_or_ge p.length q.length with g | g
  ·rw [show p.length + 1 - q.length = 0 by omega]
   exact k'lw c p q v1 v2 w' (h1.below hb) (h2.below hb) hck (by omega) (by omega) hp.top g
  ·exact k'lv c p q v1 v2 w' (h1.below hb) (h2.below hb) hck (by omega) (by omega) f1 hq.nrm (k'hw hq f1) g hq.top (f2 g)
 generalize Pl.dvs q (p.length + 1 - q.length) p = r at *;clear h1 h2 hp hq hc f1 f2 l1 l2;go_enter Tryz.func54,Tryz.ntmps54;go_wp2_with fail;refine HD.out.mono ?_;rintro en w1 ⟨rfl,b1⟩;obtain ⟨w2,hw2⟩ : ∃ w2 : World,w2 = w1.alloc (.cells #[.int .i64 0] 96) := ⟨_,rfl⟩;have HK : Hid (Ck w2 w1.heap.size 0) := by show Ck _ _ _; rw [hw2]; exact heap_alloc_new w1 _
 have B2 : Hid (Below w.heap.size w w2) := by show Below _ _ _; rw [hw2]; exact b1.alloc b1.size _
 have hsz := b1.size;clear b1;go_wp2_with fail;rw [← hw2];clear hw2;refine (HR.out _ _ B2.out HK.out).mono ?_;rintro en w3 ⟨a3,n3,c3,rfl,b3,h3⟩;have B3 := i' (B2.out.trans (b3.lowC hsz HK.out.lt));clear b3;rcases h3 with ⟨t,ht,hk3,r3⟩ | ⟨ht,hk3⟩
 ·have HT := i' ht
  have HK3 := i' hk3;have R3 := i' r3;clear ht hk3 r3;go_wp2_with fail;refine (k'fp _ _ _ _ _ HK3.out).mono ?_;rintro en w4 ⟨rfl,b4⟩;have B4 := i' (k'4h B3.out b4);have R4 := i' (R3.out.below b4);clear b4;go_wp2;go_ret2;exact Or.inl ⟨t,HT.out,_,rfl,R4.out,B4.out⟩
 ·have HT := i' ht
  have HK3 := i' hk3;clear ht hk3;go_wp2_with fail;refine (k'fq _ _ 10 (by decide) _ HK3.out).mono ?_
  rintro en w4 ⟨rfl,b4⟩;have B4 := i' (k'4h B3.out b4);clear b4;go_wp2;go_ret2;exact Or.inr ⟨HT.out,rfl,B4.out⟩
theorem k'm0 (p : List Int) (v : Value) (w : World) (h : Rp w v p) (hp : VP p) :
 Calls Tryz.prog 34 #[v] w (ResP (Pl.prim p) w) := by
 have HD := i' (k'f0 p v w h hp);have HR := i' (fun c w' (hb : Below w.heap.size w w') hck => k'hn c p v 0 w' (h.below hb) hck hp.nrm (by have := hp.len; omega) hp.top)
 generalize Pl.prim p = r at *;clear h hp;go_enter Tryz.func34,Tryz.ntmps34;go_wp2_with fail;refine HD.out.mono ?_;rintro en w1 ⟨rfl,b1⟩;obtain ⟨w2,hw2⟩ : ∃ w2 : World,w2 = w1.alloc (.cells #[.int .i64 0] 96) := ⟨_,rfl⟩;have HK : Hid (Ck w2 w1.heap.size 0) := by show Ck _ _ _; rw [hw2]; exact heap_alloc_new w1 _
 have B2 : Hid (Below w.heap.size w w2) := by show Below _ _ _; rw [hw2]; exact b1.alloc b1.size _
 clear b1;go_wp2_with fail;rw [← hw2];clear hw2;refine (HR.out _ _ B2.out HK.out).mono ?_;rintro en w3 ⟨v3,rfl,r3,b3⟩;obtain ⟨a3,bb3,o3,c3,rfl,-⟩ := r3.open_;have HK3 := i' (HK.out.below b3);have B3 := i' (k'4h B2.out b3);have R3 := i' r3;clear b3 r3;go_wp2_with fail;refine (k'fp _ _ _ _ _ HK3.out).mono ?_;rintro en w4 ⟨rfl,b4⟩;have B4 := i' (k'4h B3.out b4);have R4 := i' (R3.out.below b4);clear b4;go_wp2;go_ret2;exact ⟨_,rfl,R4.out,B4.out⟩
theorem k'm2 (p : List Int) (v : Value) (w : World) (h : Rp w v p) (hp : VP p) :
 Calls Tryz.prog 33 #[v] w (Ret (.tuple #[Z (Pl.cont p : Nat),.int .i64 0]) w) := by
 obtain ⟨w0,hw0⟩ : ∃ w0 : World,w0 = w.alloc (.cells #[.bool false,.string ⟨#[]⟩] 44) := ⟨_,rfl⟩;have HA0 : Hid (Aw w0 w.heap.size [0]) := by show Aw _ _ _; rw [hw0]; exact Aw.made w [0]
 have B0 : Hid (Below w.heap.size w w0) := by show Below _ _ _; rw [hw0]; exact (Below.refl _ _).alloc (Nat.le_refl _) _
 have HD := i' (k'f0 p v w0 (h.below B0.out) hp);have HR := i' (fun c w' (hb : Below w.heap.size w w') hck => k'hl c p v 0 w' (h.below hb) hck hp.top);generalize ((Pl.cont p : Nat) : Int) = r at *;clear h hp;go_enter Tryz.func33,Tryz.ntmps33;go_wp2_with fail;rw [← hw0];clear hw0;refine HD.out.mono ?_;rintro en w1 ⟨rfl,b1⟩;have HA1 := i' (HA0.out.below b1);have b1 := k'4h B0.out b1;obtain ⟨w2,hw2⟩ : ∃ w2 : World,w2 = w1.alloc (.cells #[.int .i64 0] 96) := ⟨_,rfl⟩;have HK : Hid (Ck w2 w1.heap.size 0) := by show Ck _ _ _; rw [hw2]; exact heap_alloc_new w1 _
 have B2 : Hid (Below w.heap.size w w2) := by show Below _ _ _; rw [hw2]; exact b1.alloc b1.size _
 have HA2 : Hid (Aw w2 w.heap.size [0]) := by rw [hw2]; exact HA1.out.alloc _
 clear b1;go_wp2_with fail;rw [← hw2];clear hw2;refine (HR.out _ _ B2.out HK.out).mono ?_;rintro en w3 ⟨rfl,b3⟩;have HK3 := i' (HK.out.below b3);have B3 := i' (k'4h B2.out b3);have HA3 := i' (HA2.out.below b3);clear b3;unfold Z;go_wp2_with fail;refine (k'fr _ _ _ _ HK3.out).mono ?_;rintro en w4 ⟨rfl,b4⟩;have B4 := i' (k'4h B3.out b4);have HA4 := i' (HA3.out.below b4);clear b4;obtain ⟨e0,e1⟩ := HA4.out.cell 0 (by simp)
 simp only [Nat.zero_mul,Nat.zero_add,List.getElem_cons_zero] at e0 e1;have f0 := HA4.out.free 0;have f1 := HA4.out.free 1;have HB8 := i' ((B4.out.setCell (p := ⟨w.heap.size,0,none⟩) (Nat.le_refl _) (.bool (zb r))).setCell (p := ⟨w.heap.size,1,none⟩) (Nat.le_refl _) (.string (zs r)));go_wp2;exact bodyPost_ret (v := .tuple #[.agg #[.bool (zb r),.string (zs r)],.int .i64 0]) (by simp [results,Tryz.results33,go_sem,e0,e1]) rfl ⟨rfl,HB8.out⟩
def ckg (L1 L2 : List (Bool × ByteArray)) : Int :=
 if (vldP L1 && vldP L2) = true then (if 0 < L1.length ∧ 0 < L2.length ∧ (max ((L1.length : Int) - 1) ((L2.length : Int) - 1) + 3) * (max ((L1.length : Int) - 1) ((L2.length : Int) - 1) + 3) * (max (glb L1) (glb L2) + 8) > 65536 then 7 else 0) else 2
theorem k'm4 (p q : List Int) (v1 v2 : Value) (w : World) (h1 : Rp w v1 p) (h2 : Rp w v2 q) (hp : VP p) (hq : VP q) (hc : ckg (zl p) (zl q) = 0)
 (S : List Int → List Int → Prop) (hS : Pl.Euk S) (hS1 : q.length ≤ p.length → S (Pl.prim p) (Pl.prim q)) (hS2 : p.length < q.length → S (Pl.prim q) (Pl.prim p)) :
 Calls Tryz.prog 55 #[v1,v2] w (ResP (Pl.gcdP p q) w) := by
 have HR := i' (fun c w' (hb : Below w.heap.size w w') hck => k'hs c p q v1 v2 0 w' (h1.below hb) (h2.below hb) hck hp.nrm hq.nrm (by have := hp.len; omega) (by have := hq.len; omega) hp.top hq.top S hS hS1 hS2)
 obtain ⟨L1,e1⟩ : ∃ L,L = zl p := ⟨_,rfl⟩;obtain ⟨L2,e2⟩ : ∃ L,L = zl q := ⟨_,rfl⟩;have z1 : Small L1 := by rw [e1]; exact k'ey hp.top
 have z2 : Small L2 := by rw [e2]; exact k'ey hq.top
 have k1 : vldP L1 = true := by rw [e1]; exact hp.ok
 have k2 : vldP L2 = true := by rw [e2]; exact hq.ok
 unfold Rp at h1 h2;rw [← e1] at h1 hc;rw [← e2] at h2 hc;generalize Pl.gcdP p q = G at *;clear hp hq hS hS1 hS2 e1 e2;have HV1 := i' (fun w' (hb : Below w.heap.size w w') => k'ex L1 v1 w' (h1.below hb) z1);have HV2 := i' (fun w' (hb : Below w.heap.size w w') => k'ex L2 v2 w' (h2.below hb) z2);have HD1 := i' (fun w' (hb : Below w.heap.size w w') => k'f1 L1 v1 w' (h1.below hb));have HD2 := i' (fun w' (hb : Below w.heap.size w w') => k'f1 L2 v2 w' (h2.below hb));have HG1 := i' (fun w' (hb : Below w.heap.size w w') => k'f3 L1 v1 w' (h1.below hb) z1);have HG2 := i' (fun w' (hb : Below w.heap.size w w') => k'f3 L2 v2 w' (h2.below hb) z2);have G1 := k'h9 L1;have G2 := k'h9 L2;have L1b := k'ha (L := L1);have L2b := k'ha (L := L2);have hn1 := L1b k1;have hn2 := L2b k2;unfold ckg at hc;rw [k1,k2] at hc;rw [k1] at HV1;rw [k2] at HV2;clear L1b L2b k1 k2;rw [show (true && true) = true from rfl,if_pos rfl] at hc;obtain ⟨p1,b1,o1,c1,rfl,-,-,-,-⟩ := h1;obtain ⟨p2,b2,o2,c2,rfl,-,-,-,-⟩ := h2;clear z1 z2;generalize glb L1 = g1 at *;generalize glb L2 = g2 at *;generalize L1.length = n1 at *;generalize L2.length = n2 at *;have HH := hc;clear hc;obtain ⟨sd,hsd⟩ : ∃ sd : Int,max ((n1 : Int) - 1) ((n2 : Int) - 1) = sd := ⟨_,rfl⟩;obtain ⟨gb,hgb⟩ : ∃ gb : Int,max g1 g2 = gb := ⟨_,rfl⟩;rw [hsd,hgb] at HH;have hsd1 : -1 ≤ sd ∧ sd ≤ 24 := by omega
 have hgb1 : 0 ≤ gb ∧ gb ≤ 65536 := by omega
 obtain ⟨s2,hs2⟩ : ∃ s2 : Int,(sd + 3) * (sd + 3) = s2 := ⟨_,rfl⟩;have hs21 : 0 ≤ s2 ∧ s2 ≤ 27 * 27 := by
  have h1 := Int.mul_le_mul (show sd + 3 ≤ 27 by omega) (show sd + 3 ≤ 27 by omega) (by omega) (by omega)
  have h2 := Int.mul_nonneg (show 0 ≤ sd + 3 by omega) (show 0 ≤ sd + 3 by omega)
  omega
 obtain ⟨m,hm⟩ : ∃ m : Int,s2 * (gb + 8) = m := ⟨_,rfl⟩;have hm1 : 0 ≤ m ∧ m ≤ 27 * 27 * 65544 := by
  have h1 := Int.mul_le_mul hs21.2 (show gb + 8 ≤ 65544 by omega) (by omega) (by omega)
  have h2 := Int.mul_nonneg hs21.1 (show 0 ≤ gb + 8 by omega)
  omega
 have w1' : IntKind.i64.wrap ((sd + 3) * (sd + 3)) = s2 := by rw [hs2]; exact IntWalk.i64_in _ (by omega)
 have w2' : IntKind.i64.wrap (s2 * (gb + 8)) = m := by rw [hm]; exact IntWalk.i64_in _ (by omega)
 rw [hs2,hm] at HH;have hz : ¬ (0 < n1 ∧ 0 < n2 ∧ m > 65536) := by
  intro h;rw [if_pos h] at HH;exact absurd HH (by decide)
 clear HH hs2 hm;rcases Nat.eq_zero_or_pos n1 with h0 | h0
 ·subst h0
  clear hz;go_enter Tryz.func55,Tryz.ntmps55;go_wp2_with fail;refine (HV1.out _ (Below.refl _ _)).mono ?_;rintro e w1 ⟨rfl,b1⟩;have B1 := i' (b1);clear b1;go_wp2_with fail;refine (HV2.out _ B1.out).mono ?_;rintro e w2 ⟨rfl,b2⟩;have B2 := i' (k'4h B1.out b2);clear b2;go_wp2_with fail;refine (HD1.out _ B2.out).mono ?_;rintro e w3 ⟨rfl,b3⟩;have B3 := i' (k'4h B2.out b3);clear b3;go_wp2_with fail;refine (HD2.out _ B3.out).mono ?_;rintro e w4 ⟨rfl,b4⟩;have B4 := i' (k'4h B3.out b4);clear b4;go_wp2_with fail;refine (HG1.out _ B4.out).mono ?_;rintro e w5 ⟨rfl,b5⟩;have B5 := i' (k'4h B4.out b5);clear b5;go_wp2_with fail;refine (HG2.out _ B5.out).mono ?_;rintro e w6 ⟨rfl,b6⟩;have B6 := i' (k'4h B5.out b6);clear b6;obtain ⟨w7,hw7⟩ : ∃ w7 : World,w7 = w6.alloc (.cells #[.int .i64 0] 96) := ⟨_,rfl⟩;have HK : Hid (Ck w7 w6.heap.size 0) := by show Ck _ _ _; rw [hw7]; exact heap_alloc_new w6 _
  have B7 : Hid (Below w.heap.size w w7) := by show Below _ _ _; rw [hw7]; exact B6.out.alloc B6.out.size _
  go_wp2_with fail;rw [← hw7];clear hw7;refine (HR.out _ _ B7.out HK.out).mono ?_;rintro en w8 ⟨v3,rfl,r3,b3⟩;obtain ⟨a3,bb3,o3,c3,rfl,-⟩ := r3.open_;have HK3 := i' (HK.out.below b3);have B8 := i' (k'4h B7.out b3);have R3 := i' r3;clear b3 r3;go_wp2_with fail;refine (k'fp _ _ _ _ _ HK3.out).mono ?_;rintro en w9 ⟨rfl,b4⟩;have B9 := i' (k'4h B8.out b4);have R4 := i' (R3.out.below b4);clear b4;go_wp2;go_ret2;exact ⟨_,rfl,R4.out,B9.out⟩
 rcases Nat.eq_zero_or_pos n2 with h0' | h0'
 ·subst h0'
  clear hz;go_enter Tryz.func55,Tryz.ntmps55;go_wp2_with fail;refine (HV1.out _ (Below.refl _ _)).mono ?_;rintro e w1 ⟨rfl,b1⟩;have B1 := i' (b1);clear b1;go_wp2_with fail;refine (HV2.out _ B1.out).mono ?_;rintro e w2 ⟨rfl,b2⟩;have B2 := i' (k'4h B1.out b2);clear b2;go_wp2_with fail;refine (HD1.out _ B2.out).mono ?_;rintro e w3 ⟨rfl,b3⟩;have B3 := i' (k'4h B2.out b3);clear b3;go_wp2_with fail;refine (HD2.out _ B3.out).mono ?_;rintro e w4 ⟨rfl,b4⟩;have B4 := i' (k'4h B3.out b4);clear b4;go_wp2_with fail;refine (HG1.out _ B4.out).mono ?_;rintro e w5 ⟨rfl,b5⟩;have B5 := i' (k'4h B4.out b5);clear b5;go_wp2_with fail;refine (HG2.out _ B5.out).mono ?_;rintro e w6 ⟨rfl,b6⟩;have B6 := i' (k'4h B5.out b6);clear b6;obtain ⟨w7,hw7⟩ : ∃ w7 : World,w7 = w6.alloc (.cells #[.int .i64 0] 96) := ⟨_,rfl⟩;have HK : Hid (Ck w7 w6.heap.size 0) := by show Ck _ _ _; rw [hw7]; exact heap_alloc_new w6 _
  have B7 : Hid (Below w.heap.size w w7) := by show Below _ _ _; rw [hw7]; exact B6.out.alloc B6.out.size _
  go_wp2_with fail;rw [← hw7];clear hw7;refine (HR.out _ _ B7.out HK.out).mono ?_;rintro en w8 ⟨v3,rfl,r3,b3⟩;obtain ⟨a3,bb3,o3,c3,rfl,-⟩ := r3.open_;have HK3 := i' (HK.out.below b3);have B8 := i' (k'4h B7.out b3);have R3 := i' r3;clear b3 r3;go_wp2_with fail;refine (k'fp _ _ _ _ _ HK3.out).mono ?_;rintro en w9 ⟨rfl,b4⟩;have B9 := i' (k'4h B8.out b4);have R4 := i' (R3.out.below b4);clear b4;go_wp2;go_ret2;exact ⟨_,rfl,R4.out,B9.out⟩
 ·have hz4 : decide (65536 < m) = false := by rw [decide_eq_false_iff_not]; intro h; exact hz ⟨h0,h0',h⟩
  clear hz;go_enter Tryz.func55,Tryz.ntmps55;go_wp2_with fail;refine (HV1.out _ (Below.refl _ _)).mono ?_;rintro e w1 ⟨rfl,b1⟩;have B1 := i' (b1);clear b1;go_wp2_with fail;refine (HV2.out _ B1.out).mono ?_;rintro e w2 ⟨rfl,b2⟩;have B2 := i' (k'4h B1.out b2);clear b2;go_wp2_with fail;refine (HD1.out _ B2.out).mono ?_;rintro e w3 ⟨rfl,b3⟩;have B3 := i' (k'4h B2.out b3);clear b3;go_wp2_with fail;refine (HD2.out _ B3.out).mono ?_;rintro e w4 ⟨rfl,b4⟩;have B4 := i' (k'4h B3.out b4);clear b4;go_wp2_with fail;refine (HG1.out _ B4.out).mono ?_;rintro e w5 ⟨rfl,b5⟩;have B5 := i' (k'4h B4.out b5);clear b5;go_wp2_with fail;refine (HG2.out _ B5.out).mono ?_;rintro e w6 ⟨rfl,b6⟩;have B6 := i' (k'4h B5.out b6);clear b6;obtain ⟨w7,hw7⟩ : ∃ w7 : World,w7 = w6.alloc (.cells #[.int .i64 0] 96) := ⟨_,rfl⟩;have HK : Hid (Ck w7 w6.heap.size 0) := by show Ck _ _ _; rw [hw7]; exact heap_alloc_new w6 _
  have B7 : Hid (Below w.heap.size w w7) := by show Below _ _ _; rw [hw7]; exact B6.out.alloc B6.out.size _
  go_wp2_with fail;rw [← hw7];clear hw7;refine (HR.out _ _ B7.out HK.out).mono ?_;rintro en w8 ⟨v3,rfl,r3,b3⟩;obtain ⟨a3,bb3,o3,c3,rfl,-⟩ := r3.open_;have HK3 := i' (HK.out.below b3);have B8 := i' (k'4h B7.out b3);have R3 := i' r3;clear b3 r3;go_wp2_with fail;refine (k'fp _ _ _ _ _ HK3.out).mono ?_;rintro en w9 ⟨rfl,b4⟩;have B9 := i' (k'4h B8.out b4);have R4 := i' (R3.out.below b4);clear b4;go_wp2;go_ret2;exact ⟨_,rfl,R4.out,B9.out⟩
end Go.Proofs.YtepddegphdlbeaaGreat
