/- What the theorem leans on, part Y16. -/
import Derived.Test.YtepddegphdlbeaaGreatY8
import Derived.Test.YtepddegphdlbeaaGreatY7
import Derived.Test.YtepddegphdlbeaaGreatY6
import Derived.Test.YtepddegphdlbeaaGreatY5
import Derived.Test.YtepddegphdlbeaaGreatY4
import Derived.Test.YtepddegphdlbeaaGreatY2
import Derived.Test.YtepddegphdlbeaaGreatY1
import Derived.Test.YtepddegphdlbeaaGreatY0
import Derived.Test.YtepddegphdlbeaaGreatProg
import Derived.WalkKit
import Derived.WalkSpells
import Derived.WalkLawsBesides
import Derived.Lib.Hide
import Derived.Deep.QuietTactic
import Derived.BigQuiet
import Derived.Shelf.Small.Bits
import Derived.Shelf.Small.Wraps
import Derived.Shelf.Strconv.Itoa0
import Derived.Shelf.Bits.Mul64
import Derived.Ground.Names2Prog
import Derived.Shelf.Slices.SearchI
import Derived.Shelf.Spec.BitsCarry
import Derived.Deep.LoopGhost
import Derived.Deep.RegionHeld3
import Derived.Laws.AppendOwnNone
import Derived.Test.YtepddegphdlbeaaGreatY3
import Derived.Deep.DeepCutAuto
import Derived.Test.YtepddegphdlbeaaGreatY10
import Derived.Test.YtepddegphdlbeaaGreatY9
import Derived.Test.YtepddegphdlbeaaGreatY15
import Derived.Test.YtepddegphdlbeaaGreatY12
import Derived.Test.YtepddegphdlbeaaGreatY11
import Derived.Below
import Derived.Test.YtepddegphdlbeaaGreatY13
import Derived.RangeFuncNested
import Derived.RangeFuncBound
import Derived.RangeFuncCalls
import Derived.RangeFuncLeaves
import Derived.Shelf.Abstract
import Derived.Shelf.RegionOpen
import Derived.OwnWalkIn
import Derived.TacticsInMore
import Derived.LoopNIn
import Derived.LoopIn
import Derived.OrdersIn
import Derived.Deep.RegionHeld
import Derived.Maps.AppendAt
import Derived.Lib.SliceRun
import Derived.IntWalk
import Derived.Test.YtepddegphdlbeaaGreatY14
set_option maxRecDepth 100000
set_option maxHeartbeats 16000000
set_option linter.all false
namespace Go.Proofs.YtepddegphdlbeaaGreat
open Go.RowKit
def qV (x y : Int) (v1 v2 : Value) : Value := .agg #[.bool (decide (x < 0)),v1,.bool (decide (y < 0)),v2]
def RQPost (x y : Int) (w : World) (e : Ending) (w' : World) : Prop := ∃ v1 v2,e = .returned (qV x y v1 v2) ∧ Rz w' v1 x ∧ Rz w' v2 y ∧ Below w.heap.size w w'
theorem Ri.set4 {w : World} {g : Nat} {v : Value} {xs : List Nat} {b0 b1 : Bool} {p p' : Option Addr} {n c n' c' : Nat} (h : Ri w v xs) (q : ZC4 (.bool b0) (.slice p n c) (.bool b1) (.slice p' n' c') w g) (x y z u : Value) : Ri ((((w.setCell ⟨g,0,none⟩ x).setCell ⟨g,1,none⟩ y).setCell ⟨g,2,none⟩ z).setCell ⟨g,3,none⟩ u) v xs := by
 obtain ⟨⟨h1,h2,h3,h4⟩,_⟩ := q;refine (((h.set h1 (fun _ => by simp)).set (old := .slice p n c) ?_ (fun _ => by simp)).set (old := .bool b1) ?_ (fun _ => by simp)).set (old := .slice p' n' c') ?_ (fun _ => by simp) <;> simp [go_sem,h1,h2,h3,h4]
def lg (n d : Int) : Int := if d < 0 then -((Nat.gcd n.natAbs d.natAbs : Nat) : Int) else ((Nat.gcd n.natAbs d.natAbs : Nat) : Int)
theorem len9 {z : Int} {k : Nat} (h : z.natAbs < D9 ^ k) : (Nm.dg D9 z.natAbs).length ≤ k := Nm.len_le_of_val D92 (Nm.nrm_dg D92 _) (by rwa [Nm.val_dg D92])
theorem k'j6 (n d : Int) (v1 v2 : Value) (w : World) (k : Nat) (hk : k ≤ 90000) (hn : n.natAbs < D9 ^ k) (hd : d.natAbs < D9 ^ k) (h0 : d < 0) (h1 : Rz w v1 n) (h2 : Rz w v2 d) :
 Calls Tryz.prog 106 #[iV n v1,iV d v2] w (RQPost (n / lg n d) (d / lg n d) w) := by
 obtain ⟨G,hG⟩ : ∃ G : Int,((Nat.gcd n.natAbs d.natAbs : Nat) : Int) = G := ⟨_,rfl⟩;obtain ⟨G2,hG2⟩ : ∃ G2 : Int,lg n d = G2 := ⟨_,rfl⟩;have hGG : G2 = -G := by rw [← hG2,← hG]; unfold lg; rw [if_pos h0]
 have hgp : 0 < Nat.gcd n.natAbs d.natAbs := Nat.gcd_pos_of_pos_right _ (by omega)
 have hgl : Nat.gcd n.natAbs d.natAbs ≤ d.natAbs := Nat.gcd_le_right _ (by omega)
 have hG0 : G2 ≠ 0 := by omega
 have hGk : G2.natAbs < D9 ^ k := by omega
 have H_gcd : Hid (∀ v1 v2 w,Rz w v1 n → Rz w v2 d → Calls Tryz.prog 97 #[iV n v1,iV d v2] w (IntPost G w)) := fun v1 v2 w h1 h2 => by
  have h := k'8e n d v1 v2 w h1 h2 (Nat.le_trans (len9 hn) (by omega)) (Nat.le_trans (len9 hd) (by omega))
  rwa [hG] at h
 have H_sign : Hid (∀ v w,Rz w v d → Calls Tryz.prog 50 #[iV d v] w (SignPost (-1) w)) := fun v w h => by
  have h5 := k'85 d v w h;rwa [show d.sign = -1 from Int.sign_eq_neg_one_of_neg h0] at h5
 have H_neg : Hid (∀ v w,Rz w v G → Calls Tryz.prog 136 #[iV G v] w (IntPost G2 w)) := fun v w h => by
  have h5 := k'84 G v w h;rwa [← hGG] at h5
 have H_q1 := i' (fun v1 v2 w g1 g2 => k'by n G2 v1 v2 w k hk hn hGk g1 g2 hG0);have H_q2 := i' (fun v1 v2 w g1 g2 => k'by d G2 v1 v2 w k hk hd hGk g1 g2 hG0);have R1 : Hid (Rz w v1 n) := h1;have R2 : Hid (Rz w v2 d) := h2;rw [hG2];clear hG hG2 hGG hgp hgl hG0 hGk hn hd h0 hk;obtain ⟨p1,b1,o1,c1,rfl,hr1⟩ := h1;obtain ⟨p2,b2,o2,c2,rfl,hr2⟩ := h2;clear hr1 hr2;obtain ⟨z1,hz1⟩ : ∃ z,n / G2 = z := ⟨_,rfl⟩;obtain ⟨z2,hz2⟩ : ∃ z,d / G2 = z := ⟨_,rfl⟩;rw [hz1] at H_q1 ⊢;rw [hz2] at H_q2 ⊢;unfold QIPost at H_q1 H_q2;unfold IntPost at H_gcd  H_neg;unfold SignPost at H_sign;unfold RQPost;unfold iV at *;generalize n % G2 = m1 at *;generalize d % G2 = m2 at *;clear hz1 hz2;obtain ⟨bn,hbn⟩ : ∃ b,decide (n < 0) = b := ⟨_,rfl⟩;obtain ⟨bd,hbd⟩ : ∃ b,decide (d < 0) = b := ⟨_,rfl⟩;obtain ⟨bz1,hbz1⟩ : ∃ b,decide (z1 < 0) = b := ⟨_,rfl⟩;obtain ⟨bz2,hbz2⟩ : ∃ b,decide (z2 < 0) = b := ⟨_,rfl⟩;unfold qV;rw [hbz1,hbz2];rw [hbn] at H_gcd H_q1 ⊢;rw [hbd] at H_gcd H_sign H_q2 ⊢;rw [hbz1] at H_q1;rw [hbz2] at H_q2;clear hbn hbd hbz1 hbz2;generalize (Nm.dg D9 n.natAbs).length = l1 at *;generalize (Nm.dg D9 d.natAbs).length = l2 at *;generalize decide (G < 0) = bg at *;generalize decide (G2 < 0) = bg2 at *;generalize decide (m1 < 0) = bm1 at *;generalize decide (m2 < 0) = bm2 at *;obtain ⟨w0,hw0⟩ : ∃ w0 : World,w0 = ((w.alloc (.cells #[.bool bn,.slice p1 l1 c1] 52)).alloc (.cells #[.bool bd,.slice p2 l2 c2] 52)).alloc (.cells #[.bool false,.slice none 0 0,.bool false,.slice none 0 0] 66) := ⟨_,rfl⟩;have hb0 : Hid (Below w.heap.size w w0) := by rw [hw0]; exact (((Below.refl _ _).alloc (Nat.le_refl _) _).alloc (by simp) _).alloc (by simp; omega) _
 have I1 : Hid (ZC (.bool bn) (.slice p1 l1 c1) w0 w.heap.size) := by rw [hw0]; exact ((ZC.new rfl).alloc _).alloc _
 have I2 : Hid (ZC (.bool bd) (.slice p2 l2 c2) w0 (w.heap.size + 1)) := by rw [hw0]; exact (ZC.new (by simp)).alloc _
 have I3 : Hid (ZC4 (.bool false) (.slice none 0 0) (.bool false) (.slice none 0 0) w0 (w.heap.size + 1 + 1)) := by
  rw [hw0]; have := ZC4.made0 (x := .bool false) (y := .slice none 0 0) (z := .bool false) (u := .slice none 0 0) (t := 66) ((w.alloc (.cells #[.bool bn,.slice p1 l1 c1] 52)).alloc (.cells #[.bool bd,.slice p2 l2 c2] 52)); show ZC4 _ _ _ _ _ _; simpa using this
 have R1 : Hid (Rz w0 (.slice p1 l1 c1) n) := Ri.below R1.out hb0.out (Nat.le_refl _);have R2 : Hid (Rz w0 (.slice p2 l2 c2) d) := Ri.below R2.out hb0.out (Nat.le_refl _);have Hw0 := i' hw0;clear hw0;go_enter Tryz.func106,Tryz.ntmps106;go_wp2_with fail;rw [← Hw0.out];refine (H_gcd.out _ _ _ R1.out R2.out).mono ?_;rintro e y5 ⟨v5,rfl,r5,b9⟩;obtain ⟨p5,q5,o5,c5,rfl,hr5⟩ := r5;have R5 : Hid (Rz y5 (.slice p5 (Nm.dg D9 G.natAbs).length c5) G) := ⟨p5,q5,o5,c5,rfl,hr5⟩;clear hr5;generalize (Nm.dg D9 G.natAbs).length = l5 at *;obtain ⟨u5,hu5⟩ : ∃ u : World,u = y5.alloc (.cells #[.bool bg,.slice p5 l5 c5] 52) := ⟨_,rfl⟩;have D : Hid (Below w0.heap.size w0 u5) := by rw [hu5]; exact b9.alloc b9.size _
 have T5 : Hid (ZC (.bool bg) (.slice p5 l5 c5) u5 y5.heap.size) := by rw [hu5]; exact ZC.new rfl
 have R5 : Hid (Rz u5 (.slice p5 l5 c5) G) := by rw [hu5]; exact R5.out.allocd _
 have hy5 : Hid (w0.heap.size ≤ y5.heap.size) := b9.size;have Hu5 := i' hu5;clear hu5 b9;go_upto_region 2 with (fail);rw [← Hu5.out];clear Hu5;obtain ⟨k2,k3,_⟩ := I2.out.next D.out;go_wp2_with fail;refine (H_sign.out _ _ (Ri.below R2.out D.out (Nat.le_refl _))).mono ?_;rintro e ys ⟨rfl,b9⟩;have T5 := i' (T5.out.next b9);have R5 : Hid (Rz ys (.slice p5 l5 c5) G) := Ri.below R5.out b9 (Nat.le_refl _);have D := i' (k'4h D.out b9);clear b9 k2 k3;obtain ⟨k4,k5,k4f,k5f⟩ := T5.out;go_wp2_with fail;refine (H_neg.out _ _ R5.out).mono ?_;rintro e y7 ⟨v7,rfl,r7,b9⟩;obtain ⟨p7,q7,o7,c7,rfl,hr7⟩ := r7;have R7 : Hid (Rz y7 (.slice p7 (Nm.dg D9 G2.natAbs).length c7) G2) := ⟨p7,q7,o7,c7,rfl,hr7⟩;clear hr7;generalize (Nm.dg D9 G2.natAbs).length = l7 at *;have T5 := i' (T5.out.next b9);have D7 := k'4h D.out b9;obtain ⟨m4,m5,m4f,m5f⟩ := T5.out;obtain ⟨u7,hu7⟩ : ∃ u : World,u = (y7.setCell ⟨y5.heap.size,0,none⟩ (.bool bg2)).setCell ⟨y5.heap.size,1,none⟩ (.slice p7 l7 c7) := ⟨_,rfl⟩;have D : Hid (Below w0.heap.size w0 u7) := by rw [hu7]; exact k'61 D7 hy5.out _ _
 have T5 : Hid (ZC (.bool bg2) (.slice p7 l7 c7) u7 y5.heap.size) := by rw [hu7]; exact T5.out.set
 have R5 : Hid (Rz u7 (.slice p7 l7 c7) G2) := by rw [hu7]; exact R7.out.set2 m4 m5 (fun _ => by simp)
 have Hu7 := i' hu7;clear hu7 b9 D7 R7 k4 k5 k4f k5f;go_upto_region 4 with (fail);rw [← Hu7.out];clear Hu7 m4 m5 m4f m5f;obtain ⟨k0,k1,_⟩ := I1.out.next D.out;obtain ⟨k4,k5,_⟩ := T5.out;go_wp2_with fail;refine (H_q1.out _ _ _ (Ri.below R1.out D.out (Nat.le_refl _)) R5.out).mono ?_;rintro e y6 ⟨v6,x6,rfl,r6,s6,b9⟩;obtain ⟨p6,q6,o6,c6,rfl,hr6⟩ := r6;obtain ⟨p6x,q6x,o6x,c6x,rfl,hs6⟩ := s6;have RR6 : Hid (Rz y6 (.slice p6 (Nm.dg D9 z1.natAbs).length c6) z1) := ⟨p6,q6,o6,c6,rfl,hr6⟩;clear hr6 hs6;generalize (Nm.dg D9 z1.natAbs).length = l6 at *;generalize (Nm.dg D9 m1.natAbs).length = l6x at *;obtain ⟨u6,hu6⟩ : ∃ u : World,u = (y6.alloc (.cells #[.bool bz1,.slice p6 l6 c6] 52)).alloc (.cells #[.bool bm1,.slice p6x l6x c6x] 52) := ⟨_,rfl⟩;have E : Hid (Below u7.heap.size u7 u6) := by rw [hu6]; exact (b9.alloc b9.size _).alloc (by simp; exact Nat.le_succ_of_le b9.size) _
 have D := i' (k'4h D.out E.out);have T5 := i' (T5.out.next E.out);have R5 := i' (Ri.below R5.out E.out (Nat.le_refl _));have T6 : Hid (ZC (.bool bz1) (.slice p6 l6 c6) u6 y6.heap.size) := by rw [hu6]; exact (ZC.new rfl).alloc _
 have RR6 : Hid (Rz u6 (.slice p6 l6 c6) z1) := by rw [hu6]; exact (RR6.out.allocd _).allocd _
 have Hu6 := i' hu6;clear hu6 b9 E k0 k1 k4 k5;go_upto_region 5 with (fail);rw [← Hu6.out];clear Hu6;obtain ⟨k0,k1,_⟩ := I2.out.next D.out;obtain ⟨k4,k5,_⟩ := T5.out;go_wp2_with fail;refine (H_q2.out _ _ _ (Ri.below R2.out D.out (Nat.le_refl _)) R5.out).mono ?_;rintro e y8 ⟨v8,x8,rfl,r8,s8,b9⟩;obtain ⟨p8,q8,o8,c8,rfl,hr8⟩ := r8;obtain ⟨p8x,q8x,o8x,c8x,rfl,hs8⟩ := s8;have RR8 : Hid (Rz y8 (.slice p8 (Nm.dg D9 z2.natAbs).length c8) z2) := ⟨p8,q8,o8,c8,rfl,hr8⟩;clear hr8 hs8;generalize (Nm.dg D9 z2.natAbs).length = l8 at *;generalize (Nm.dg D9 m2.natAbs).length = l8x at *;obtain ⟨u8,hu8⟩ : ∃ u : World,u = (y8.alloc (.cells #[.bool bz2,.slice p8 l8 c8] 52)).alloc (.cells #[.bool bm2,.slice p8x l8x c8x] 52) := ⟨_,rfl⟩;have E : Hid (Below u6.heap.size u6 u8) := by rw [hu8]; exact (b9.alloc b9.size _).alloc (by simp; exact Nat.le_succ_of_le b9.size) _
 have D := i' (k'4h D.out E.out);have T5 := i' (T5.out.next E.out);have R5 := i' (Ri.below R5.out E.out (Nat.le_refl _));have T6 := i' (T6.out.next E.out);have RR6 := i' (Ri.below RR6.out E.out (Nat.le_refl _));have T8 : Hid (ZC (.bool bz2) (.slice p8 l8 c8) u8 y8.heap.size) := by rw [hu8]; exact (ZC.new rfl).alloc _
 have RR8 : Hid (Rz u8 (.slice p8 l8 c8) z2) := by rw [hu8]; exact (RR8.out.allocd _).allocd _
 have Hu8 := i' hu8;clear hu8 b9 E k0 k1 k4 k5;go_upto_region 6 with (fail);rw [← Hu8.out];clear Hu8;obtain ⟨k0,k1,_⟩ := T6.out;obtain ⟨k2,k3,_⟩ := T8.out;have Q3 := I3.out.next D.out;have Q3h := i' Q3;obtain ⟨⟨n0,n1,n2,n3⟩,n4,n5,n6,n7⟩ := Q3;have HZ := i' (k'65 (k'4h hb0.out D.out) (g := w.heap.size + 1 + 1) (by omega) (.bool bz1) (.slice p6 l6 c6) (.bool bz2) (.slice p8 l8 c8))
 have HR1 := i' (Ri.set4 RR6.out Q3h.out (.bool bz1) (.slice p6 l6 c6) (.bool bz2) (.slice p8 l8 c8));have HR2 := i' (Ri.set4 RR8.out Q3h.out (.bool bz1) (.slice p6 l6 c6) (.bool bz2) (.slice p8 l8 c8));go_wp2;exact bodyPost_ret (v := .agg #[.bool bz1,.slice p6 l6 c6,.bool bz2,.slice p8 l8 c8]) (by simp [results,Tryz.results106,go_sem,n0,n1,n2,n3]) rfl ⟨_,_,rfl,HR1.out,HR2.out,HZ.out⟩
theorem k'j7 (n d : Int) (v1 v2 : Value) (w : World) (k : Nat) (hk : k ≤ 90000) (hn : n.natAbs < D9 ^ k) (hd : d.natAbs < D9 ^ k) (h0 : 0 < d) (h1 : Rz w v1 n) (h2 : Rz w v2 d) :
 Calls Tryz.prog 106 #[iV n v1,iV d v2] w (RQPost (n / lg n d) (d / lg n d) w) := by
 obtain ⟨G,hG⟩ : ∃ G : Int,((Nat.gcd n.natAbs d.natAbs : Nat) : Int) = G := ⟨_,rfl⟩;obtain ⟨G2,hG2⟩ : ∃ G2 : Int,lg n d = G2 := ⟨_,rfl⟩;have hGG : G2 = G := by rw [← hG2,← hG]; unfold lg; rw [if_neg (by omega)]
 have hgp : 0 < Nat.gcd n.natAbs d.natAbs := Nat.gcd_pos_of_pos_right _ (by omega)
 have hgl : Nat.gcd n.natAbs d.natAbs ≤ d.natAbs := Nat.gcd_le_right _ (by omega)
 have hG0 : G2 ≠ 0 := by omega
 have hGk : G2.natAbs < D9 ^ k := by omega
 have H_gcd : Hid (∀ v1 v2 w,Rz w v1 n → Rz w v2 d → Calls Tryz.prog 97 #[iV n v1,iV d v2] w (IntPost G w)) := fun v1 v2 w h1 h2 => by
  have h := k'8e n d v1 v2 w h1 h2 (Nat.le_trans (len9 hn) (by omega)) (Nat.le_trans (len9 hd) (by omega))
  rwa [hG] at h
 have H_sign : Hid (∀ v w,Rz w v d → Calls Tryz.prog 50 #[iV d v] w (SignPost 1 w)) := fun v w h => by
  have h5 := k'85 d v w h;rwa [show d.sign = 1 from Int.sign_eq_one_of_pos h0] at h5
 have H_q1 := i' (fun v1 v2 w g1 g2 => k'by n G2 v1 v2 w k hk hn hGk g1 g2 hG0);have H_q2 := i' (fun v1 v2 w g1 g2 => k'by d G2 v1 v2 w k hk hd hGk g1 g2 hG0);have R1 : Hid (Rz w v1 n) := h1;have R2 : Hid (Rz w v2 d) := h2;rw [hG2];rw [hGG] at H_q1 H_q2 ⊢;clear hG hG2 hGG hgp hgl hG0 hGk hn hd h0 hk;obtain ⟨p1,b1,o1,c1,rfl,hr1⟩ := h1;obtain ⟨p2,b2,o2,c2,rfl,hr2⟩ := h2;clear hr1 hr2;obtain ⟨z1,hz1⟩ : ∃ z,n / G = z := ⟨_,rfl⟩;obtain ⟨z2,hz2⟩ : ∃ z,d / G = z := ⟨_,rfl⟩;rw [hz1] at H_q1 ⊢;rw [hz2] at H_q2 ⊢;unfold QIPost at H_q1 H_q2;unfold IntPost at H_gcd;unfold SignPost at H_sign;unfold RQPost;unfold iV at *;generalize n % G = m1 at *;generalize d % G = m2 at *;clear hz1 hz2;obtain ⟨bn,hbn⟩ : ∃ b,decide (n < 0) = b := ⟨_,rfl⟩;obtain ⟨bd,hbd⟩ : ∃ b,decide (d < 0) = b := ⟨_,rfl⟩;obtain ⟨bz1,hbz1⟩ : ∃ b,decide (z1 < 0) = b := ⟨_,rfl⟩;obtain ⟨bz2,hbz2⟩ : ∃ b,decide (z2 < 0) = b := ⟨_,rfl⟩;unfold qV;rw [hbz1,hbz2];rw [hbn] at H_gcd H_q1 ⊢;rw [hbd] at H_gcd H_sign H_q2 ⊢;rw [hbz1] at H_q1;rw [hbz2] at H_q2;clear hbn hbd hbz1 hbz2;generalize (Nm.dg D9 n.natAbs).length = l1 at *;generalize (Nm.dg D9 d.natAbs).length = l2 at *;generalize decide (G < 0) = bg at *;generalize decide (m1 < 0) = bm1 at *;generalize decide (m2 < 0) = bm2 at *;obtain ⟨w0,hw0⟩ : ∃ w0 : World,w0 = ((w.alloc (.cells #[.bool bn,.slice p1 l1 c1] 52)).alloc (.cells #[.bool bd,.slice p2 l2 c2] 52)).alloc (.cells #[.bool false,.slice none 0 0,.bool false,.slice none 0 0] 66) := ⟨_,rfl⟩;have hb0 : Hid (Below w.heap.size w w0) := by rw [hw0]; exact (((Below.refl _ _).alloc (Nat.le_refl _) _).alloc (by simp) _).alloc (by simp; omega) _
 have I1 : Hid (ZC (.bool bn) (.slice p1 l1 c1) w0 w.heap.size) := by rw [hw0]; exact ((ZC.new rfl).alloc _).alloc _
 have I2 : Hid (ZC (.bool bd) (.slice p2 l2 c2) w0 (w.heap.size + 1)) := by rw [hw0]; exact (ZC.new (by simp)).alloc _
 have I3 : Hid (ZC4 (.bool false) (.slice none 0 0) (.bool false) (.slice none 0 0) w0 (w.heap.size + 1 + 1)) := by
  rw [hw0]; have := ZC4.made0 (x := .bool false) (y := .slice none 0 0) (z := .bool false) (u := .slice none 0 0) (t := 66) ((w.alloc (.cells #[.bool bn,.slice p1 l1 c1] 52)).alloc (.cells #[.bool bd,.slice p2 l2 c2] 52)); show ZC4 _ _ _ _ _ _; simpa using this
 have R1 : Hid (Rz w0 (.slice p1 l1 c1) n) := Ri.below R1.out hb0.out (Nat.le_refl _);have R2 : Hid (Rz w0 (.slice p2 l2 c2) d) := Ri.below R2.out hb0.out (Nat.le_refl _);have Hw0 := i' hw0;clear hw0;go_enter Tryz.func106,Tryz.ntmps106;go_wp2_with fail;rw [← Hw0.out];refine (H_gcd.out _ _ _ R1.out R2.out).mono ?_;rintro e y5 ⟨v5,rfl,r5,b9⟩;obtain ⟨p5,q5,o5,c5,rfl,hr5⟩ := r5;have R5 : Hid (Rz y5 (.slice p5 (Nm.dg D9 G.natAbs).length c5) G) := ⟨p5,q5,o5,c5,rfl,hr5⟩;clear hr5;generalize (Nm.dg D9 G.natAbs).length = l5 at *;obtain ⟨u5,hu5⟩ : ∃ u : World,u = y5.alloc (.cells #[.bool bg,.slice p5 l5 c5] 52) := ⟨_,rfl⟩;have D : Hid (Below w0.heap.size w0 u5) := by rw [hu5]; exact b9.alloc b9.size _
 have T5 : Hid (ZC (.bool bg) (.slice p5 l5 c5) u5 y5.heap.size) := by rw [hu5]; exact ZC.new rfl
 have R5 : Hid (Rz u5 (.slice p5 l5 c5) G) := by rw [hu5]; exact R5.out.allocd _
 have hy5 : Hid (w0.heap.size ≤ y5.heap.size) := b9.size;have Hu5 := i' hu5;clear hu5 b9;go_upto_region 2 with (fail);rw [← Hu5.out];clear Hu5;obtain ⟨k2,k3,_⟩ := I2.out.next D.out;go_wp2_with fail;refine (H_sign.out _ _ (Ri.below R2.out D.out (Nat.le_refl _))).mono ?_;rintro e ys ⟨rfl,b9⟩;have T5 := i' (T5.out.next b9);have R5 : Hid (Rz ys (.slice p5 l5 c5) G) := Ri.below R5.out b9 (Nat.le_refl _);have D := i' (k'4h D.out b9);clear b9 k2 k3;obtain ⟨k0,k1,_⟩ := I1.out.next D.out;obtain ⟨k4,k5,_⟩ := T5.out;go_wp2_with fail;refine (H_q1.out _ _ _ (Ri.below R1.out D.out (Nat.le_refl _)) R5.out).mono ?_;rintro e y6 ⟨v6,x6,rfl,r6,s6,b9⟩;obtain ⟨p6,q6,o6,c6,rfl,hr6⟩ := r6;obtain ⟨p6x,q6x,o6x,c6x,rfl,hs6⟩ := s6;have RR6 : Hid (Rz y6 (.slice p6 (Nm.dg D9 z1.natAbs).length c6) z1) := ⟨p6,q6,o6,c6,rfl,hr6⟩;clear hr6 hs6;generalize (Nm.dg D9 z1.natAbs).length = l6 at *;generalize (Nm.dg D9 m1.natAbs).length = l6x at *;obtain ⟨u6,hu6⟩ : ∃ u : World,u = (y6.alloc (.cells #[.bool bz1,.slice p6 l6 c6] 52)).alloc (.cells #[.bool bm1,.slice p6x l6x c6x] 52) := ⟨_,rfl⟩;have E : Hid (Below ys.heap.size ys u6) := by rw [hu6]; exact (b9.alloc b9.size _).alloc (by simp; exact Nat.le_succ_of_le b9.size) _
 have D := i' (k'4h D.out E.out);have T5 := i' (T5.out.next E.out);have R5 := i' (Ri.below R5.out E.out (Nat.le_refl _));have T6 : Hid (ZC (.bool bz1) (.slice p6 l6 c6) u6 y6.heap.size) := by rw [hu6]; exact (ZC.new rfl).alloc _
 have RR6 : Hid (Rz u6 (.slice p6 l6 c6) z1) := by rw [hu6]; exact (RR6.out.allocd _).allocd _
 have Hu6 := i' hu6;clear hu6 b9 E k0 k1 k4 k5;go_upto_region 5 with (fail);rw [← Hu6.out];clear Hu6;obtain ⟨k0,k1,_⟩ := I2.out.next D.out;obtain ⟨k4,k5,_⟩ := T5.out;go_wp2_with fail;refine (H_q2.out _ _ _ (Ri.below R2.out D.out (Nat.le_refl _)) R5.out).mono ?_;rintro e y8 ⟨v8,x8,rfl,r8,s8,b9⟩;obtain ⟨p8,q8,o8,c8,rfl,hr8⟩ := r8;obtain ⟨p8x,q8x,o8x,c8x,rfl,hs8⟩ := s8;have RR8 : Hid (Rz y8 (.slice p8 (Nm.dg D9 z2.natAbs).length c8) z2) := ⟨p8,q8,o8,c8,rfl,hr8⟩;clear hr8 hs8;generalize (Nm.dg D9 z2.natAbs).length = l8 at *;generalize (Nm.dg D9 m2.natAbs).length = l8x at *;obtain ⟨u8,hu8⟩ : ∃ u : World,u = (y8.alloc (.cells #[.bool bz2,.slice p8 l8 c8] 52)).alloc (.cells #[.bool bm2,.slice p8x l8x c8x] 52) := ⟨_,rfl⟩;have E : Hid (Below u6.heap.size u6 u8) := by rw [hu8]; exact (b9.alloc b9.size _).alloc (by simp; exact Nat.le_succ_of_le b9.size) _
 have D := i' (k'4h D.out E.out);have T5 := i' (T5.out.next E.out);have R5 := i' (Ri.below R5.out E.out (Nat.le_refl _));have T6 := i' (T6.out.next E.out);have RR6 := i' (Ri.below RR6.out E.out (Nat.le_refl _));have T8 : Hid (ZC (.bool bz2) (.slice p8 l8 c8) u8 y8.heap.size) := by rw [hu8]; exact (ZC.new rfl).alloc _
 have RR8 : Hid (Rz u8 (.slice p8 l8 c8) z2) := by rw [hu8]; exact (RR8.out.allocd _).allocd _
 have Hu8 := i' hu8;clear hu8 b9 E k0 k1 k4 k5;go_upto_region 6 with (fail);rw [← Hu8.out];clear Hu8;obtain ⟨k0,k1,_⟩ := T6.out;obtain ⟨k2,k3,_⟩ := T8.out;have Q3 := I3.out.next D.out;have Q3h := i' Q3;obtain ⟨⟨n0,n1,n2,n3⟩,n4,n5,n6,n7⟩ := Q3;have HZ := i' (k'65 (k'4h hb0.out D.out) (g := w.heap.size + 1 + 1) (by omega) (.bool bz1) (.slice p6 l6 c6) (.bool bz2) (.slice p8 l8 c8))
 have HR1 := i' (Ri.set4 RR6.out Q3h.out (.bool bz1) (.slice p6 l6 c6) (.bool bz2) (.slice p8 l8 c8));have HR2 := i' (Ri.set4 RR8.out Q3h.out (.bool bz1) (.slice p6 l6 c6) (.bool bz2) (.slice p8 l8 c8));go_wp2;exact bodyPost_ret (v := .agg #[.bool bz1,.slice p6 l6 c6,.bool bz2,.slice p8 l8 c8]) (by simp [results,Tryz.results106,go_sem,n0,n1,n2,n3]) rfl ⟨_,_,rfl,HR1.out,HR2.out,HZ.out⟩
theorem k'j8 (n d : Int) (v1 v2 : Value) (w : World) (k : Nat) (hk : k ≤ 90000) (hn : n.natAbs < D9 ^ k) (hd : d.natAbs < D9 ^ k) (h0 : d ≠ 0) (h1 : Rz w v1 n) (h2 : Rz w v2 d) :
 Calls Tryz.prog 106 #[iV n v1,iV d v2] w (RQPost (n / lg n d) (d / lg n d) w) := by
 rcases Int.lt_or_gt_of_ne h0 with h | h
 ·exact k'j6 n d v1 v2 w k hk hn hd h h1 h2
 ·exact k'j7 n d v1 v2 w k hk hn hd h h1 h2
theorem k'j9 {a b : Bool} {s t : ByteArray} : vldR a s b t = (vld a s && vld b t && !b && decide (0 < t.size)) := by
 unfold vldR sgV
 cases vld b t <;> cases b <;> by_cases h : 0 < t.size <;> simp [h]
theorem k'ja (a b : Bool) (s t : ByteArray) (w : World) (hs : s.size ≤ 100000) (ht : t.size ≤ 100000) :
 Calls Tryz.prog 46 #[rat a s b t] w (RQPost (sg a (bv s)) (sg b (bv t)) w) := by
 have H_f1 := i' (fun w => k'aa a s w hs);have H_f2 := i' (fun w => k'aa b t w ht);obtain ⟨x,hx⟩ : ∃ x,sg a (bv s) = x := ⟨_,rfl⟩;obtain ⟨y,hy⟩ : ∃ y,sg b (bv t) = y := ⟨_,rfl⟩;rw [hx] at H_f1 ⊢;rw [hy] at H_f2 ⊢;unfold IntPost iV at H_f1 H_f2;unfold RQPost qV rat;clear hx hy hs ht;generalize decide (x < 0) = bx at *;generalize decide (y < 0) = b_y at *;obtain ⟨w0,hw0⟩ : ∃ w0 : World,w0 = (w.alloc (.cells #[.bool a,.string s,.bool b,.string t] 59)).alloc (.cells #[.bool false,.slice none 0 0,.bool false,.slice none 0 0] 66) := ⟨_,rfl⟩;have hb0 : Hid (Below w.heap.size w w0) := by rw [hw0]; exact ((Below.refl _ _).alloc (Nat.le_refl _) _).alloc (by simp) _
 have I1 : Hid (ZC4 (.bool a) (.string s) (.bool b) (.string t) w0 w.heap.size) := by
  rw [hw0]; exact (ZC4.made0 w).next (k'5u _ _)
 have I3 : Hid (ZC4 (.bool false) (.slice none 0 0) (.bool false) (.slice none 0 0) w0 (w.heap.size + 1)) := by
  rw [hw0]; have := ZC4.made0 (x := .bool false) (y := .slice none 0 0) (z := .bool false) (u := .slice none 0 0) (t := 66) (w.alloc (.cells #[.bool a,.string s,.bool b,.string t] 59)); show ZC4 _ _ _ _ _ _; simpa using this
 have Hw0 := i' hw0;clear hw0;go_enter Tryz.func46,Tryz.ntmps46;go_upto_region 1 with (fail);rw [← Hw0.out];obtain ⟨⟨k0,k1,k2,k3⟩,_⟩ := I1.out;go_region_held3 (fun W' => W'.cell? ⟨w.heap.size,0,none⟩ = some (.bool a) ∧ W'.cell? ⟨w.heap.size,1,none⟩ = some (.string s) ∧ W'.cell? ⟨w.heap.size,2,none⟩ = some (.bool b) ∧ W'.cell? ⟨w.heap.size,3,none⟩ = some (.string t)) (go_keep)
  (first
   | (go_at_call 37; (with_reducible refine (H_f1.out  _ ).mono ?_); rintro e w1 ⟨v1,rfl,r1,b1⟩; (try (have b1 := k'60 b1)); have E : Hid (Below w0.heap.size w0 w1) := (by first | exact b1 | exact k'4h ((Below.refl _ _).drew) b1); have pk0 := k'4i E.out k0; have pk1 := k'4i E.out k1; have pk2 := k'4i E.out k2; have pk3 := k'4i E.out k3; have G1 := i' r1; obtain ⟨pp1,bb1,oo1,cc1,rfl,hr1⟩ := r1; clear hr1; have Q3 := I3.out.next E.out; have Q3h := i' Q3; obtain ⟨⟨n0,n1,n2,n3⟩,n4,n5,n6,n7⟩ := Q3; clear b1)
   | (go_at_call 37; (with_reducible refine (H_f2.out  _ ).mono ?_); rintro e w2 ⟨v2,rfl,r2,b2⟩; (try (have b2 := k'60 b2)); have E := i' (k'4h E.out b2); have pk0 := k'4i E.out k0; have pk1 := k'4i E.out k1; have pk2 := k'4i E.out k2; have pk3 := k'4i E.out k3; have G1 := i' (Ri.below G1.out b2 (Nat.le_refl _)); have G2 := i' r2; obtain ⟨pp2,bb2,oo2,cc2,rfl,hr2⟩ := r2; clear hr2; have Q3 := I3.out.next E.out; have Q3h := i' Q3; obtain ⟨⟨n0,n1,n2,n3⟩,n4,n5,n6,n7⟩ := Q3; clear b2)
   | fail)
 have HZ := i' (k'65 (k'4h hb0.out E.out) (g := w.heap.size + 1) (by omega) (.bool bx) (.slice pp1 (Nm.dg D9 x.natAbs).length cc1) (.bool b_y) (.slice pp2 (Nm.dg D9 y.natAbs).length cc2))
 have HR1 := i' (Ri.set4 G1.out Q3h.out (.bool bx) (.slice pp1 (Nm.dg D9 x.natAbs).length cc1) (.bool b_y) (.slice pp2 (Nm.dg D9 y.natAbs).length cc2));have HR2 := i' (Ri.set4 G2.out Q3h.out (.bool bx) (.slice pp1 (Nm.dg D9 x.natAbs).length cc1) (.bool b_y) (.slice pp2 (Nm.dg D9 y.natAbs).length cc2));go_wp2;exact bodyPost_ret (v := .agg #[.bool bx,.slice pp1 (Nm.dg D9 x.natAbs).length cc1,.bool b_y,.slice pp2 (Nm.dg D9 y.natAbs).length cc2]) (by simp [results,Tryz.results46,go_sem,n0,n1,n2,n3]) rfl ⟨_,_,rfl,HR1.out,HR2.out,HZ.out⟩
theorem k'jb {x y : Int} {k : Nat} (h1 : x.natAbs < D9 ^ k) (h2 : y.natAbs < D9 ^ k) : (x * y).natAbs < D9 ^ (k + k) := by
 rw [Int.natAbs_mul,Nat.pow_add];exact Nat.mul_lt_mul'' h1 h2
theorem k'jc {x y : Int} {k : Nat} (h1 : x.natAbs < D9 ^ k) (h2 : y.natAbs < D9 ^ k) : (x + y).natAbs < D9 ^ (k + 1) := by
 rw [Nat.pow_succ];have h3 : D9 ^ k * 2 ≤ D9 ^ k * D9 := Nat.mul_le_mul_left _ (by decide)
 omega
theorem up9 {x : Int} {j k : Nat} (h : x.natAbs < D9 ^ j) (hj : j ≤ k) : x.natAbs < D9 ^ k := Nat.lt_of_lt_of_le h (Nat.pow_le_pow_right (by decide) hj)
theorem k'je (x1 y1 x2 y2 : Int) (v1 v2 v3 v4 : Value) (w : World) (k : Nat) (hk : k ≤ 20000) (hx1 : x1.natAbs < D9 ^ k) (hy1 : y1.natAbs < D9 ^ k) (hx2 : x2.natAbs < D9 ^ k) (hy2 : y2.natAbs < D9 ^ k) (h1 : Rz w v1 x1) (h2 : Rz w v2 y1) (h3 : Rz w v3 x2) (h4 : Rz w v4 y2) :
 Calls Tryz.prog 60 #[qV x1 y1 v1 v2,qV x2 y2 v3 v4] w (SignPost (x1 * y2 - x2 * y1).sign w) := by
 have m12 := k'jb hx1 hy2;have m21 := k'jb hx2 hy1;have H_m1 := i' (fun v1 v2 w g1 g2 => k'86 x1 y2 v1 v2 w g1 g2 (Nat.le_trans (len9 hx1) (by omega)) (Nat.le_trans (len9 hy2) (by omega)))
 have H_m2 := i' (fun v1 v2 w g1 g2 => k'86 x2 y1 v1 v2 w g1 g2 (Nat.le_trans (len9 hx2) (by omega)) (Nat.le_trans (len9 hy1) (by omega)))
 have H_c := i' (fun v1 v2 w g1 g2 => k'89 (x1 * y2) (x2 * y1) v1 v2 w g1 g2 (Nat.le_trans (len9 m12) (by omega)) (Nat.le_trans (len9 m21) (by omega)))
 generalize x1 * y2 = X1 at *;generalize x2 * y1 = X2 at *;have R1 : Hid (Rz w v1 x1) := h1;have R2 : Hid (Rz w v2 y1) := h2;have R3 : Hid (Rz w v3 x2) := h3;have R4 : Hid (Rz w v4 y2) := h4;obtain ⟨p1,b1,o1,c1,rfl,hr1⟩ := h1;obtain ⟨p2,b2,o2,c2,rfl,hr2⟩ := h2;obtain ⟨p3,b3,o3,c3,rfl,hr3⟩ := h3;obtain ⟨p4,b4,o4,c4,rfl,hr4⟩ := h4;clear hr1 hr2 hr3 hr4 m12 m21 hx1 hy1 hx2 hy2 hk;unfold qV;unfold IntPost iV at *;unfold SignPost at *;generalize decide (x1 < 0) = bx1 at *;generalize decide (y1 < 0) = by1 at *;generalize decide (x2 < 0) = bx2 at *;generalize decide (y2 < 0) = by2 at *;generalize (Nm.dg D9 x1.natAbs).length = l1 at *;generalize (Nm.dg D9 y1.natAbs).length = l2 at *;generalize (Nm.dg D9 x2.natAbs).length = l3 at *;generalize (Nm.dg D9 y2.natAbs).length = l4 at *;obtain ⟨w0,hw0⟩ : ∃ w0 : World,w0 = (w.alloc (.cells #[.bool bx1,.slice p1 l1 c1,.bool by1,.slice p2 l2 c2] 66)).alloc (.cells #[.bool bx2,.slice p3 l3 c3,.bool by2,.slice p4 l4 c4] 66) := ⟨_,rfl⟩;have hb0 : Hid (Below w.heap.size w w0) := by rw [hw0]; exact ((Below.refl _ _).alloc (Nat.le_refl _) _).alloc (by simp) _
 have I1 : Hid (ZC4 (.bool bx1) (.slice p1 l1 c1) (.bool by1) (.slice p2 l2 c2) w0 w.heap.size) := by
  rw [hw0]; exact (ZC4.made0 w).next (k'5u _ _)
 have I2 : Hid (ZC4 (.bool bx2) (.slice p3 l3 c3) (.bool by2) (.slice p4 l4 c4) w0 (w.heap.size + 1)) := by
  rw [hw0];have := ZC4.made0 (x := .bool bx2) (y := .slice p3 l3 c3) (z := .bool by2) (u := .slice p4 l4 c4) (t := 66) (w.alloc (.cells #[.bool bx1,.slice p1 l1 c1,.bool by1,.slice p2 l2 c2] 66))
  skip
  show ZC4 _ _ _ _ _ _;simpa using this
 have R1 : Hid (Rz w0 (.slice p1 l1 c1) x1) := Ri.below R1.out hb0.out (Nat.le_refl _);have R2 : Hid (Rz w0 (.slice p2 l2 c2) y1) := Ri.below R2.out hb0.out (Nat.le_refl _);have R3 : Hid (Rz w0 (.slice p3 l3 c3) x2) := Ri.below R3.out hb0.out (Nat.le_refl _);have R4 : Hid (Rz w0 (.slice p4 l4 c4) y2) := Ri.below R4.out hb0.out (Nat.le_refl _);have Hw0 := i' hw0;clear hw0;go_enter Tryz.func60,Tryz.ntmps60;go_upto_region 1 with (fail);rw [← Hw0.out];obtain ⟨⟨k0,k1,k2,k3⟩,_⟩ := I1.out;obtain ⟨⟨k4,k5,k6,k7⟩,_⟩ := I2.out;have e1 : ¬ w.heap.size = w.heap.size + 1 + 1 := by omega
 have e2 : ¬ w.heap.size + 1 + 1 = w.heap.size := by omega
 have e3 : ¬ w.heap.size + 1 = w.heap.size + 1 + 1 := by omega
 have e4 : ¬ w.heap.size + 1 + 1 = w.heap.size + 1 := by omega
 go_region_held3 (fun W' => W'.cell? ⟨w.heap.size,0,none⟩ = some (.bool bx1) ∧ W'.cell? ⟨w.heap.size,1,none⟩ = some (.slice p1 l1 c1) ∧ W'.cell? ⟨w.heap.size,2,none⟩ = some (.bool by1) ∧ W'.cell? ⟨w.heap.size,3,none⟩ = some (.slice p2 l2 c2) ∧ W'.cell? ⟨w.heap.size + 1,0,none⟩ = some (.bool bx2) ∧ W'.cell? ⟨w.heap.size + 1,1,none⟩ = some (.slice p3 l3 c3) ∧ W'.cell? ⟨w.heap.size + 1,2,none⟩ = some (.bool by2) ∧ W'.cell? ⟨w.heap.size + 1,3,none⟩ = some (.slice p4 l4 c4)) (go_keep)
  (first
   | (go_at_call 83; (with_reducible refine (H_m1.out _ _ _ (by first | exact R1.out | exact Ri.drew R1.out | exact Ri.below R1.out E.out (Nat.le_refl _)) (by first | exact R4.out | exact Ri.drew R4.out | exact Ri.below R4.out E.out (Nat.le_refl _))).mono ?_); rintro e w1 ⟨v1,rfl,r1,b1⟩; (try (have b1 := k'60 b1)); have E : Hid (Below w0.heap.size w0 w1) := (by first | exact b1 | exact k'4h ((Below.refl _ _).drew) b1); have pk0 := k'4i E.out k0; have pk1 := k'4i E.out k1; have pk2 := k'4i E.out k2; have pk3 := k'4i E.out k3; have pk4 := k'4i E.out k4; have pk5 := k'4i E.out k5; have pk6 := k'4i E.out k6; have pk7 := k'4i E.out k7; have G1 := i' r1; obtain ⟨pp1,bb1,oo1,cc1,rfl,hr1⟩ := r1; clear hr1; clear b1)
   | (go_at_call 83; (with_reducible refine (H_m2.out _ _ _ (by first | exact R3.out | exact Ri.drew R3.out | exact Ri.below R3.out E.out (Nat.le_refl _)) (by first | exact R2.out | exact Ri.drew R2.out | exact Ri.below R2.out E.out (Nat.le_refl _))).mono ?_); rintro e w2 ⟨v2,rfl,r2,b2⟩; (try (have b2 := k'60 b2)); have E := i' (k'4h E.out b2); have pk0 := k'4i E.out k0; have pk1 := k'4i E.out k1; have pk2 := k'4i E.out k2; have pk3 := k'4i E.out k3; have pk4 := k'4i E.out k4; have pk5 := k'4i E.out k5; have pk6 := k'4i E.out k6; have pk7 := k'4i E.out k7; have G1 := i' (Ri.below G1.out b2 (Nat.le_refl _)); have G2 := i' r2; obtain ⟨pp2,bb2,oo2,cc2,rfl,hr2⟩ := r2; clear hr2; clear b2)
   | (go_at_call 113; (with_reducible refine (H_c.out _ _ _ (by first | exact G1.out | exact Ri.drew G1.out | exact Ri.below G1.out E.out (Nat.le_refl _)) (by first | exact G2.out | exact Ri.drew G2.out | exact Ri.below G2.out E.out (Nat.le_refl _))).mono ?_); rintro e w3 ⟨rfl,b3⟩; (try (have b3 := k'60 b3)); have E := i' (k'4h E.out b3); have pk0 := k'4i E.out k0; have pk1 := k'4i E.out k1; have pk2 := k'4i E.out k2; have pk3 := k'4i E.out k3; have pk4 := k'4i E.out k4; have pk5 := k'4i E.out k5; have pk6 := k'4i E.out k6; have pk7 := k'4i E.out k7; have G1 := i' (Ri.below G1.out b3 (Nat.le_refl _)); have G2 := i' (Ri.below G2.out b3 (Nat.le_refl _)); clear b3)
   | fail)
 have HZ := i' (k'4h hb0.out E.out);go_wp2;go_ret;exact ⟨rfl,HZ.out⟩
theorem k'jf (x1 y1 x2 y2 : Int) (v1 v2 v3 v4 : Value) (w : World) (k : Nat) (hk : k ≤ 20000) (hx1 : x1.natAbs < D9 ^ k) (hy1 : y1.natAbs < D9 ^ k) (hx2 : x2.natAbs < D9 ^ k) (hy2 : y2.natAbs < D9 ^ k) (hp1 : 0 < y1) (hp2 : 0 < y2) (h1 : Rz w v1 x1) (h2 : Rz w v2 y1) (h3 : Rz w v3 x2) (h4 : Rz w v4 y2) :
 Calls Tryz.prog 62 #[qV x1 y1 v1 v2,qV x2 y2 v3 v4] w (RQPost (x1 * x2 / lg (x1 * x2) (y1 * y2)) (y1 * y2 / lg (x1 * x2) (y1 * y2)) w) := by
 have m12 := k'jb hx1 hy2;have m21 := k'jb hx2 hy1;have n12 := k'jb hx1 hx2;have d12 := k'jb hy1 hy2;have H_m1 := i' (fun v1 v2 w g1 g2 => k'86 x1 x2 v1 v2 w g1 g2 (Nat.le_trans (len9 hx1) (by omega)) (Nat.le_trans (len9 hx2) (by omega)))
 have H_m2 := i' (fun v1 v2 w g1 g2 => k'86 y1 y2 v1 v2 w g1 g2 (Nat.le_trans (len9 hy1) (by omega)) (Nat.le_trans (len9 hy2) (by omega)))
 have hD0 : y1 * y2 ≠ 0 := by
  have := Int.mul_pos hp1 hp2;omega
 have H_l := i' (fun v1 v2 w g1 g2 => k'j8 (x1 * x2) (y1 * y2) v1 v2 w (k + k + 1) (by omega) (up9 n12 (by omega)) (up9 d12 (by omega)) hD0 g1 g2)
 obtain ⟨z1,hz1⟩ : ∃ z,(x1 * x2) / lg (x1 * x2) (y1 * y2) = z := ⟨_,rfl⟩;obtain ⟨z2,hz2⟩ : ∃ z,(y1 * y2) / lg (x1 * x2) (y1 * y2) = z := ⟨_,rfl⟩;rw [hz1,hz2] at H_l ⊢;clear hz1 hz2 hD0 hp1 hp2;obtain ⟨bz1,hbz1⟩ : ∃ b,decide (z1 < 0) = b := ⟨_,rfl⟩;obtain ⟨bz2,hbz2⟩ : ∃ b,decide (z2 < 0) = b := ⟨_,rfl⟩;unfold RQPost qV at H_l ⊢;rw [hbz1,hbz2] at H_l ⊢;clear hbz1 hbz2;clear n12 d12;generalize x1 * x2 = X1 at *;generalize y1 * y2 = X2 at *;have R1 : Hid (Rz w v1 x1) := h1;have R2 : Hid (Rz w v2 y1) := h2;have R3 : Hid (Rz w v3 x2) := h3;have R4 : Hid (Rz w v4 y2) := h4;obtain ⟨p1,b1,o1,c1,rfl,hr1⟩ := h1;obtain ⟨p2,b2,o2,c2,rfl,hr2⟩ := h2;obtain ⟨p3,b3,o3,c3,rfl,hr3⟩ := h3;obtain ⟨p4,b4,o4,c4,rfl,hr4⟩ := h4;clear hr1 hr2 hr3 hr4 m12 m21 hx1 hy1 hx2 hy2 hk
 skip
 unfold IntPost iV at *
 skip
 generalize decide (x1 < 0) = bx1 at *;generalize decide (y1 < 0) = by1 at *;generalize decide (x2 < 0) = bx2 at *;generalize decide (y2 < 0) = by2 at *;generalize (Nm.dg D9 x1.natAbs).length = l1 at *;generalize (Nm.dg D9 y1.natAbs).length = l2 at *;generalize (Nm.dg D9 x2.natAbs).length = l3 at *;generalize (Nm.dg D9 y2.natAbs).length = l4 at *;obtain ⟨w0,hw0⟩ : ∃ w0 : World,w0 = ((w.alloc (.cells #[.bool bx1,.slice p1 l1 c1,.bool by1,.slice p2 l2 c2] 66)).alloc (.cells #[.bool bx2,.slice p3 l3 c3,.bool by2,.slice p4 l4 c4] 66)).alloc (.cells #[.bool false,.slice none 0 0,.bool false,.slice none 0 0] 66) := ⟨_,rfl⟩;have hb0 : Hid (Below w.heap.size w w0) := by rw [hw0]; exact (((Below.refl _ _).alloc (Nat.le_refl _) _).alloc (by simp) _).alloc (by simp; omega) _
 have I1 : Hid (ZC4 (.bool bx1) (.slice p1 l1 c1) (.bool by1) (.slice p2 l2 c2) w0 w.heap.size) := by
  rw [hw0]; exact (ZC4.made0 w).next (k'5v _ _ _)
 have I2 : Hid (ZC4 (.bool bx2) (.slice p3 l3 c3) (.bool by2) (.slice p4 l4 c4) w0 (w.heap.size + 1)) := by
  rw [hw0];have := ZC4.made0 (x := .bool bx2) (y := .slice p3 l3 c3) (z := .bool by2) (u := .slice p4 l4 c4) (t := 66) (w.alloc (.cells #[.bool bx1,.slice p1 l1 c1,.bool by1,.slice p2 l2 c2] 66));have := this.next (k'5u _ (.cells #[.bool false,.slice none 0 0,.bool false,.slice none 0 0] 66));show ZC4 _ _ _ _ _ _;simpa using this
 have I3 : Hid (ZC4 (.bool false) (.slice none 0 0) (.bool false) (.slice none 0 0) w0 (w.heap.size + 1 + 1)) := by
  rw [hw0]; have := ZC4.made0 (x := .bool false) (y := .slice none 0 0) (z := .bool false) (u := .slice none 0 0) (t := 66) ((w.alloc (.cells #[.bool bx1,.slice p1 l1 c1,.bool by1,.slice p2 l2 c2] 66)).alloc (.cells #[.bool bx2,.slice p3 l3 c3,.bool by2,.slice p4 l4 c4] 66)); show ZC4 _ _ _ _ _ _; simpa using this
 have R1 : Hid (Rz w0 (.slice p1 l1 c1) x1) := Ri.below R1.out hb0.out (Nat.le_refl _);have R2 : Hid (Rz w0 (.slice p2 l2 c2) y1) := Ri.below R2.out hb0.out (Nat.le_refl _);have R3 : Hid (Rz w0 (.slice p3 l3 c3) x2) := Ri.below R3.out hb0.out (Nat.le_refl _);have R4 : Hid (Rz w0 (.slice p4 l4 c4) y2) := Ri.below R4.out hb0.out (Nat.le_refl _);have Hw0 := i' hw0;clear hw0;go_enter Tryz.func62,Tryz.ntmps62;go_upto_region 1 with (fail);rw [← Hw0.out];obtain ⟨⟨k0,k1,k2,k3⟩,_⟩ := I1.out;obtain ⟨⟨k4,k5,k6,k7⟩,_⟩ := I2.out;have e1 : ¬ w.heap.size = w.heap.size + 1 + 1 := by omega
 have e2 : ¬ w.heap.size + 1 + 1 = w.heap.size := by omega
 have e3 : ¬ w.heap.size + 1 = w.heap.size + 1 + 1 := by omega
 have e4 : ¬ w.heap.size + 1 + 1 = w.heap.size + 1 := by omega
 go_region_held3 (fun W' => W'.cell? ⟨w.heap.size,0,none⟩ = some (.bool bx1) ∧ W'.cell? ⟨w.heap.size,1,none⟩ = some (.slice p1 l1 c1) ∧ W'.cell? ⟨w.heap.size,2,none⟩ = some (.bool by1) ∧ W'.cell? ⟨w.heap.size,3,none⟩ = some (.slice p2 l2 c2) ∧ W'.cell? ⟨w.heap.size + 1,0,none⟩ = some (.bool bx2) ∧ W'.cell? ⟨w.heap.size + 1,1,none⟩ = some (.slice p3 l3 c3) ∧ W'.cell? ⟨w.heap.size + 1,2,none⟩ = some (.bool by2) ∧ W'.cell? ⟨w.heap.size + 1,3,none⟩ = some (.slice p4 l4 c4)) (go_keep)
  (first
   | (go_at_call 83; (with_reducible refine (H_m1.out _ _ _ (by first | exact R1.out | exact Ri.drew R1.out | exact Ri.below R1.out E.out (Nat.le_refl _)) (by first | exact R3.out | exact Ri.drew R3.out | exact Ri.below R3.out E.out (Nat.le_refl _))).mono ?_); rintro e w1 ⟨v1,rfl,r1,b1⟩; (try (have b1 := k'60 b1)); have E : Hid (Below w0.heap.size w0 w1) := (by first | exact b1 | exact k'4h ((Below.refl _ _).drew) b1); have pk0 := k'4i E.out k0; have pk1 := k'4i E.out k1; have pk2 := k'4i E.out k2; have pk3 := k'4i E.out k3; have pk4 := k'4i E.out k4; have pk5 := k'4i E.out k5; have pk6 := k'4i E.out k6; have pk7 := k'4i E.out k7; have G1 := i' r1; obtain ⟨pp1,bb1,oo1,cc1,rfl,hr1⟩ := r1; clear hr1; have Q3 := I3.out.next E.out; have Q3h := i' Q3; obtain ⟨⟨n0,n1,n2,n3⟩,n4,n5,n6,n7⟩ := Q3; clear b1)
   | (go_at_call 83; (with_reducible refine (H_m2.out _ _ _ (by first | exact R2.out | exact Ri.drew R2.out | exact Ri.below R2.out E.out (Nat.le_refl _)) (by first | exact R4.out | exact Ri.drew R4.out | exact Ri.below R4.out E.out (Nat.le_refl _))).mono ?_); rintro e w2 ⟨v2,rfl,r2,b2⟩; (try (have b2 := k'60 b2)); have E := i' (k'4h E.out b2); have pk0 := k'4i E.out k0; have pk1 := k'4i E.out k1; have pk2 := k'4i E.out k2; have pk3 := k'4i E.out k3; have pk4 := k'4i E.out k4; have pk5 := k'4i E.out k5; have pk6 := k'4i E.out k6; have pk7 := k'4i E.out k7; have G1 := i' (Ri.below G1.out b2 (Nat.le_refl _)); have G2 := i' r2; obtain ⟨pp2,bb2,oo2,cc2,rfl,hr2⟩ := r2; clear hr2; have Q3 := I3.out.next E.out; have Q3h := i' Q3; obtain ⟨⟨n0,n1,n2,n3⟩,n4,n5,n6,n7⟩ := Q3; clear b2)
   | (go_at_call 106; (with_reducible refine (H_l.out _ _ _ (by first | exact G1.out | exact Ri.drew G1.out | exact Ri.below G1.out E.out (Nat.le_refl _)) (by first | exact G2.out | exact Ri.drew G2.out | exact Ri.below G2.out E.out (Nat.le_refl _))).mono ?_); rintro e w3 ⟨v3,x3,rfl,r3,s3,b3⟩; (try (have b3 := k'60 b3)); have E := i' (k'4h E.out b3); have pk0 := k'4i E.out k0; have pk1 := k'4i E.out k1; have pk2 := k'4i E.out k2; have pk3 := k'4i E.out k3; have pk4 := k'4i E.out k4; have pk5 := k'4i E.out k5; have pk6 := k'4i E.out k6; have pk7 := k'4i E.out k7; have G1 := i' (Ri.below G1.out b3 (Nat.le_refl _)); have G2 := i' (Ri.below G2.out b3 (Nat.le_refl _)); have G3 := i' r3; have J3 := i' s3; obtain ⟨pp3,bb3,oo3,cc3,rfl,hr3⟩ := r3; obtain ⟨pq3,bq3,oq3,cq3,rfl,hs3⟩ := s3; clear hr3 hs3; have Q3 := I3.out.next E.out; have Q3h := i' Q3; obtain ⟨⟨n0,n1,n2,n3⟩,n4,n5,n6,n7⟩ := Q3; clear b3)
   | fail)
 have HZ := i' (k'65 (k'4h hb0.out E.out) (g := w.heap.size + 1 + 1) (by omega) (.bool bz1) (.slice pp3 (Nm.dg D9 z1.natAbs).length cc3) (.bool bz2) (.slice pq3 (Nm.dg D9 z2.natAbs).length cq3))
 have HR1 := i' (Ri.set4 G3.out Q3h.out (.bool bz1) (.slice pp3 (Nm.dg D9 z1.natAbs).length cc3) (.bool bz2) (.slice pq3 (Nm.dg D9 z2.natAbs).length cq3));have HR2 := i' (Ri.set4 J3.out Q3h.out (.bool bz1) (.slice pp3 (Nm.dg D9 z1.natAbs).length cc3) (.bool bz2) (.slice pq3 (Nm.dg D9 z2.natAbs).length cq3));go_wp2;exact bodyPost_ret (v := .agg #[.bool bz1,.slice pp3 (Nm.dg D9 z1.natAbs).length cc3,.bool bz2,.slice pq3 (Nm.dg D9 z2.natAbs).length cq3]) (by simp [results,Tryz.results62,go_sem,n0,n1,n2,n3]) rfl ⟨_,_,rfl,HR1.out,HR2.out,HZ.out⟩
theorem k'jg (x1 y1 x2 y2 : Int) (v1 v2 v3 v4 : Value) (w : World) (k : Nat) (hk : k ≤ 20000) (hx1 : x1.natAbs < D9 ^ k) (hy1 : y1.natAbs < D9 ^ k) (hx2 : x2.natAbs < D9 ^ k) (hy2 : y2.natAbs < D9 ^ k) (hp1 : 0 < y1) (hp2 : 0 < y2) (h1 : Rz w v1 x1) (h2 : Rz w v2 y1) (h3 : Rz w v3 x2) (h4 : Rz w v4 y2) :
 Calls Tryz.prog 61 #[qV x1 y1 v1 v2,qV x2 y2 v3 v4] w (RQPost ((x1 * y2 + x2 * y1) / lg (x1 * y2 + x2 * y1) (y1 * y2)) (y1 * y2 / lg (x1 * y2 + x2 * y1) (y1 * y2)) w) := by
 have m12 := k'jb hx1 hy2;have m21 := k'jb hx2 hy1;have H_m1 := i' (fun v1 v2 w g1 g2 => k'86 x1 y2 v1 v2 w g1 g2 (Nat.le_trans (len9 hx1) (by omega)) (Nat.le_trans (len9 hy2) (by omega)))
 have H_m2 := i' (fun v1 v2 w g1 g2 => k'86 x2 y1 v1 v2 w g1 g2 (Nat.le_trans (len9 hx2) (by omega)) (Nat.le_trans (len9 hy1) (by omega)))
 have d12 := k'jb hy1 hy2;have n12 := k'jc m12 m21;have H_a := i' (fun v1 v2 w g1 g2 => k'87 (x1 * y2) (x2 * y1) v1 v2 w g1 g2 (Nat.le_trans (len9 m12) (by omega)) (Nat.le_trans (len9 m21) (by omega)))
 have H_m3 := i' (fun v1 v2 w g1 g2 => k'86 y1 y2 v1 v2 w g1 g2 (Nat.le_trans (len9 hy1) (by omega)) (Nat.le_trans (len9 hy2) (by omega)))
 have hD0 : y1 * y2 ≠ 0 := by
  have := Int.mul_pos hp1 hp2;omega
 have H_l := i' (fun v1 v2 w g1 g2 => k'j8 (x1 * y2 + x2 * y1) (y1 * y2) v1 v2 w (k + k + 1) (by omega) n12 (up9 d12 (by omega)) hD0 g1 g2)
 obtain ⟨z1,hz1⟩ : ∃ z,(x1 * y2 + x2 * y1) / lg (x1 * y2 + x2 * y1) (y1 * y2) = z := ⟨_,rfl⟩;obtain ⟨z2,hz2⟩ : ∃ z,(y1 * y2) / lg (x1 * y2 + x2 * y1) (y1 * y2) = z := ⟨_,rfl⟩;rw [hz1,hz2] at H_l ⊢;clear hz1 hz2 hD0 hp1 hp2;obtain ⟨bz1,hbz1⟩ : ∃ b,decide (z1 < 0) = b := ⟨_,rfl⟩;obtain ⟨bz2,hbz2⟩ : ∃ b,decide (z2 < 0) = b := ⟨_,rfl⟩;unfold RQPost qV at H_l ⊢;rw [hbz1,hbz2] at H_l ⊢;clear hbz1 hbz2;clear n12 d12;generalize x1 * y2 + x2 * y1 = X3 at *;generalize x1 * y2 = X1 at *;generalize x2 * y1 = X2 at *;generalize y1 * y2 = X4 at *;have R1 : Hid (Rz w v1 x1) := h1;have R2 : Hid (Rz w v2 y1) := h2;have R3 : Hid (Rz w v3 x2) := h3;have R4 : Hid (Rz w v4 y2) := h4;obtain ⟨p1,b1,o1,c1,rfl,hr1⟩ := h1;obtain ⟨p2,b2,o2,c2,rfl,hr2⟩ := h2;obtain ⟨p3,b3,o3,c3,rfl,hr3⟩ := h3;obtain ⟨p4,b4,o4,c4,rfl,hr4⟩ := h4;clear hr1 hr2 hr3 hr4 m12 m21 hx1 hy1 hx2 hy2 hk
 skip
 unfold IntPost iV at *
 skip
 generalize decide (x1 < 0) = bx1 at *;generalize decide (y1 < 0) = by1 at *;generalize decide (x2 < 0) = bx2 at *;generalize decide (y2 < 0) = by2 at *;generalize (Nm.dg D9 x1.natAbs).length = l1 at *;generalize (Nm.dg D9 y1.natAbs).length = l2 at *;generalize (Nm.dg D9 x2.natAbs).length = l3 at *;generalize (Nm.dg D9 y2.natAbs).length = l4 at *;obtain ⟨w0,hw0⟩ : ∃ w0 : World,w0 = ((w.alloc (.cells #[.bool bx1,.slice p1 l1 c1,.bool by1,.slice p2 l2 c2] 66)).alloc (.cells #[.bool bx2,.slice p3 l3 c3,.bool by2,.slice p4 l4 c4] 66)).alloc (.cells #[.bool false,.slice none 0 0,.bool false,.slice none 0 0] 66) := ⟨_,rfl⟩;have hb0 : Hid (Below w.heap.size w w0) := by rw [hw0]; exact (((Below.refl _ _).alloc (Nat.le_refl _) _).alloc (by simp) _).alloc (by simp; omega) _
 have I1 : Hid (ZC4 (.bool bx1) (.slice p1 l1 c1) (.bool by1) (.slice p2 l2 c2) w0 w.heap.size) := by
  rw [hw0]; exact (ZC4.made0 w).next (k'5v _ _ _)
 have I2 : Hid (ZC4 (.bool bx2) (.slice p3 l3 c3) (.bool by2) (.slice p4 l4 c4) w0 (w.heap.size + 1)) := by
  rw [hw0];have := ZC4.made0 (x := .bool bx2) (y := .slice p3 l3 c3) (z := .bool by2) (u := .slice p4 l4 c4) (t := 66) (w.alloc (.cells #[.bool bx1,.slice p1 l1 c1,.bool by1,.slice p2 l2 c2] 66));have := this.next (k'5u _ (.cells #[.bool false,.slice none 0 0,.bool false,.slice none 0 0] 66));show ZC4 _ _ _ _ _ _;simpa using this
 have I3 : Hid (ZC4 (.bool false) (.slice none 0 0) (.bool false) (.slice none 0 0) w0 (w.heap.size + 1 + 1)) := by
  rw [hw0]; have := ZC4.made0 (x := .bool false) (y := .slice none 0 0) (z := .bool false) (u := .slice none 0 0) (t := 66) ((w.alloc (.cells #[.bool bx1,.slice p1 l1 c1,.bool by1,.slice p2 l2 c2] 66)).alloc (.cells #[.bool bx2,.slice p3 l3 c3,.bool by2,.slice p4 l4 c4] 66)); show ZC4 _ _ _ _ _ _; simpa using this
 have R1 : Hid (Rz w0 (.slice p1 l1 c1) x1) := Ri.below R1.out hb0.out (Nat.le_refl _);have R2 : Hid (Rz w0 (.slice p2 l2 c2) y1) := Ri.below R2.out hb0.out (Nat.le_refl _);have R3 : Hid (Rz w0 (.slice p3 l3 c3) x2) := Ri.below R3.out hb0.out (Nat.le_refl _);have R4 : Hid (Rz w0 (.slice p4 l4 c4) y2) := Ri.below R4.out hb0.out (Nat.le_refl _);have Hw0 := i' hw0;clear hw0;go_enter Tryz.func61,Tryz.ntmps61;go_upto_region 1 with (fail);rw [← Hw0.out];obtain ⟨⟨k0,k1,k2,k3⟩,_⟩ := I1.out;obtain ⟨⟨k4,k5,k6,k7⟩,_⟩ := I2.out;have e1 : ¬ w.heap.size = w.heap.size + 1 + 1 := by omega
 have e2 : ¬ w.heap.size + 1 + 1 = w.heap.size := by omega
 have e3 : ¬ w.heap.size + 1 = w.heap.size + 1 + 1 := by omega
 have e4 : ¬ w.heap.size + 1 + 1 = w.heap.size + 1 := by omega
 go_region_held3 (fun W' => W'.cell? ⟨w.heap.size,0,none⟩ = some (.bool bx1) ∧ W'.cell? ⟨w.heap.size,1,none⟩ = some (.slice p1 l1 c1) ∧ W'.cell? ⟨w.heap.size,2,none⟩ = some (.bool by1) ∧ W'.cell? ⟨w.heap.size,3,none⟩ = some (.slice p2 l2 c2) ∧ W'.cell? ⟨w.heap.size + 1,0,none⟩ = some (.bool bx2) ∧ W'.cell? ⟨w.heap.size + 1,1,none⟩ = some (.slice p3 l3 c3) ∧ W'.cell? ⟨w.heap.size + 1,2,none⟩ = some (.bool by2) ∧ W'.cell? ⟨w.heap.size + 1,3,none⟩ = some (.slice p4 l4 c4)) (go_keep)
  (first
   | (go_at_call 83; (with_reducible refine (H_m1.out _ _ _ (by first | exact R1.out | exact Ri.drew R1.out | exact Ri.below R1.out E.out (Nat.le_refl _)) (by first | exact R4.out | exact Ri.drew R4.out | exact Ri.below R4.out E.out (Nat.le_refl _))).mono ?_); rintro e w1 ⟨v1,rfl,r1,b1⟩; (try (have b1 := k'60 b1)); have E : Hid (Below w0.heap.size w0 w1) := (by first | exact b1 | exact k'4h ((Below.refl _ _).drew) b1); have pk0 := k'4i E.out k0; have pk1 := k'4i E.out k1; have pk2 := k'4i E.out k2; have pk3 := k'4i E.out k3; have pk4 := k'4i E.out k4; have pk5 := k'4i E.out k5; have pk6 := k'4i E.out k6; have pk7 := k'4i E.out k7; have G1 := i' r1; obtain ⟨pp1,bb1,oo1,cc1,rfl,hr1⟩ := r1; clear hr1; have Q3 := I3.out.next E.out; have Q3h := i' Q3; obtain ⟨⟨n0,n1,n2,n3⟩,n4,n5,n6,n7⟩ := Q3; clear b1)
   | (go_at_call 83; (with_reducible refine (H_m2.out _ _ _ (by first | exact R3.out | exact Ri.drew R3.out | exact Ri.below R3.out E.out (Nat.le_refl _)) (by first | exact R2.out | exact Ri.drew R2.out | exact Ri.below R2.out E.out (Nat.le_refl _))).mono ?_); rintro e w2 ⟨v2,rfl,r2,b2⟩; (try (have b2 := k'60 b2)); have E := i' (k'4h E.out b2); have pk0 := k'4i E.out k0; have pk1 := k'4i E.out k1; have pk2 := k'4i E.out k2; have pk3 := k'4i E.out k3; have pk4 := k'4i E.out k4; have pk5 := k'4i E.out k5; have pk6 := k'4i E.out k6; have pk7 := k'4i E.out k7; have G1 := i' (Ri.below G1.out b2 (Nat.le_refl _)); have G2 := i' r2; obtain ⟨pp2,bb2,oo2,cc2,rfl,hr2⟩ := r2; clear hr2; have Q3 := I3.out.next E.out; have Q3h := i' Q3; obtain ⟨⟨n0,n1,n2,n3⟩,n4,n5,n6,n7⟩ := Q3; clear b2)
   | (go_at_call 82; (with_reducible refine (H_a.out _ _ _ (by first | exact G1.out | exact Ri.drew G1.out | exact Ri.below G1.out E.out (Nat.le_refl _)) (by first | exact G2.out | exact Ri.drew G2.out | exact Ri.below G2.out E.out (Nat.le_refl _))).mono ?_); rintro e w3 ⟨v3,rfl,r3,b3⟩; (try (have b3 := k'60 b3)); have E := i' (k'4h E.out b3); have pk0 := k'4i E.out k0; have pk1 := k'4i E.out k1; have pk2 := k'4i E.out k2; have pk3 := k'4i E.out k3; have pk4 := k'4i E.out k4; have pk5 := k'4i E.out k5; have pk6 := k'4i E.out k6; have pk7 := k'4i E.out k7; have G1 := i' (Ri.below G1.out b3 (Nat.le_refl _)); have G2 := i' (Ri.below G2.out b3 (Nat.le_refl _)); have G3 := i' r3; obtain ⟨pp3,bb3,oo3,cc3,rfl,hr3⟩ := r3; clear hr3; have Q3 := I3.out.next E.out; have Q3h := i' Q3; obtain ⟨⟨n0,n1,n2,n3⟩,n4,n5,n6,n7⟩ := Q3; clear b3)
   | (go_at_call 83; (with_reducible refine (H_m3.out _ _ _ (by first | exact R2.out | exact Ri.drew R2.out | exact Ri.below R2.out E.out (Nat.le_refl _)) (by first | exact R4.out | exact Ri.drew R4.out | exact Ri.below R4.out E.out (Nat.le_refl _))).mono ?_); rintro e w4 ⟨v4,rfl,r4,b4⟩; (try (have b4 := k'60 b4)); have E := i' (k'4h E.out b4); have pk0 := k'4i E.out k0; have pk1 := k'4i E.out k1; have pk2 := k'4i E.out k2; have pk3 := k'4i E.out k3; have pk4 := k'4i E.out k4; have pk5 := k'4i E.out k5; have pk6 := k'4i E.out k6; have pk7 := k'4i E.out k7; have G1 := i' (Ri.below G1.out b4 (Nat.le_refl _)); have G2 := i' (Ri.below G2.out b4 (Nat.le_refl _)); have G3 := i' (Ri.below G3.out b4 (Nat.le_refl _)); have G4 := i' r4; obtain ⟨pp4,bb4,oo4,cc4,rfl,hr4⟩ := r4; clear hr4; have Q3 := I3.out.next E.out; have Q3h := i' Q3; obtain ⟨⟨n0,n1,n2,n3⟩,n4,n5,n6,n7⟩ := Q3; clear b4)
   | (go_at_call 106; (with_reducible refine (H_l.out _ _ _ (by first | exact G3.out | exact Ri.drew G3.out | exact Ri.below G3.out E.out (Nat.le_refl _)) (by first | exact G4.out | exact Ri.drew G4.out | exact Ri.below G4.out E.out (Nat.le_refl _))).mono ?_); rintro e w5 ⟨v5,x5,rfl,r5,s5,b5⟩; (try (have b5 := k'60 b5)); have E := i' (k'4h E.out b5); have pk0 := k'4i E.out k0; have pk1 := k'4i E.out k1; have pk2 := k'4i E.out k2; have pk3 := k'4i E.out k3; have pk4 := k'4i E.out k4; have pk5 := k'4i E.out k5; have pk6 := k'4i E.out k6; have pk7 := k'4i E.out k7; have G1 := i' (Ri.below G1.out b5 (Nat.le_refl _)); have G2 := i' (Ri.below G2.out b5 (Nat.le_refl _)); have G3 := i' (Ri.below G3.out b5 (Nat.le_refl _)); have G4 := i' (Ri.below G4.out b5 (Nat.le_refl _)); have G5 := i' r5; have J5 := i' s5; obtain ⟨pp5,bb5,oo5,cc5,rfl,hr5⟩ := r5; obtain ⟨pq5,bq5,oq5,cq5,rfl,hs5⟩ := s5; clear hr5 hs5; have Q3 := I3.out.next E.out; have Q3h := i' Q3; obtain ⟨⟨n0,n1,n2,n3⟩,n4,n5,n6,n7⟩ := Q3; clear b5)
   | fail)
 have HZ := i' (k'65 (k'4h hb0.out E.out) (g := w.heap.size + 1 + 1) (by omega) (.bool bz1) (.slice pp5 (Nm.dg D9 z1.natAbs).length cc5) (.bool bz2) (.slice pq5 (Nm.dg D9 z2.natAbs).length cq5))
 have HR1 := i' (Ri.set4 G5.out Q3h.out (.bool bz1) (.slice pp5 (Nm.dg D9 z1.natAbs).length cc5) (.bool bz2) (.slice pq5 (Nm.dg D9 z2.natAbs).length cq5));have HR2 := i' (Ri.set4 J5.out Q3h.out (.bool bz1) (.slice pp5 (Nm.dg D9 z1.natAbs).length cc5) (.bool bz2) (.slice pq5 (Nm.dg D9 z2.natAbs).length cq5));go_wp2;exact bodyPost_ret (v := .agg #[.bool bz1,.slice pp5 (Nm.dg D9 z1.natAbs).length cc5,.bool bz2,.slice pq5 (Nm.dg D9 z2.natAbs).length cq5]) (by simp [results,Tryz.results61,go_sem,n0,n1,n2,n3]) rfl ⟨_,_,rfl,HR1.out,HR2.out,HZ.out⟩
theorem k'jh (a b : Bool) (s t : ByteArray) (w : World) (hs : s.size ≤ 140737488351232) (ht : t.size ≤ 140737488351232) :
 Calls Tryz.prog 45 #[rat a s b t] w (BPost (vldR a s b t) w) := by
 rw [k'j9];have HA := i' (fun w => k'6o a s w hs);have HB := i' (fun w => k'6o b t w ht);unfold BPost at *;unfold rat;obtain ⟨w0,hw0⟩ : ∃ w0 : World,w0 = w.alloc (.cells #[.bool a,.string s,.bool b,.string t] 59) := ⟨_,rfl⟩;have hb0 : Hid (Below w.heap.size w w0) := by rw [hw0]; exact k'5u _ _
 have I1 : Hid (ZC4 (.bool a) (.string s) (.bool b) (.string t) w0 w.heap.size) := by rw [hw0]; exact ZC4.made0 w
 have Hw0 := i' hw0;clear hw0;generalize vld a s = va at *;generalize vld b t = vb at *;go_enter Tryz.func45,Tryz.ntmps45;go_wp2_with fail;rw [← Hw0.out];refine (HA.out _).mono ?_;rintro e wa ⟨rfl,ba⟩;obtain ⟨⟨k0,k1,k2,k3⟩,_⟩ := I1.out.next ba;have BA := i' ba;have HZ := i' (k'4h hb0.out ba);clear ba
 cases va with
 | false =>
  go_wp2;go_ret;exact ⟨rfl,HZ.out⟩
 | true =>
  go_wp2_with fail;refine (HB.out _).mono ?_;rintro e wb ⟨rfl,bb⟩;have c := k'4h BA.out bb;obtain ⟨⟨k0,k1,k2,k3⟩,_⟩ := I1.out.next c;have HZ := i' (k'4h hb0.out c);clear bb c
  cases vb with
  | false =>
   go_wp2;go_ret;exact ⟨rfl,HZ.out⟩
  | true =>
   cases b with
   | true =>
    go_wp2;go_ret;exact ⟨rfl,HZ.out⟩
   | false =>
    by_cases h0 : 0 < t.size
    ·have e0 : decide (0 < t.size) = true := decide_eq_true h0
     have E0 := i' e0;clear e0;go_wp2;go_ret;exact ⟨by rw [E0.out]; rfl,HZ.out⟩
    ·have e0 : decide (0 < t.size) = false := decide_eq_false h0
     have E0 := i' e0;clear e0;go_wp2;go_ret;exact ⟨by rw [E0.out]; rfl,HZ.out⟩
theorem k'jn (c : Bool) (A : Nat) : zb (sg c A) = (c && decide (A ≠ 0)) ∧ zs (sg c A) = bs A := by
 have h := k'b2 c A;rw [wd] at h;injection h with h;have h1 := congrArg (fun l => l[0]?) h;have h2 := congrArg (fun l => l[1]?) h;simp at h1 h2;exact ⟨by rw [← h1]; simp,h2.symm⟩
theorem k'jo (c e : Bool) (A g : Nat) (hg : 0 < g) : sg c (g * A) / sg e g = sg (c != e) A := by
 have h := k'dd (a := c) (b := e) (m := g * A) (n := g) hg;rw [← h];unfold eq1;rw [Nat.mul_mod_right];simp [hg]
theorem k'jp (x y : Int) (hy : y ≠ 0) : lg x y = sg (zb y) (Nat.gcd x.natAbs y.natAbs) := by
 unfold lg sg zb;by_cases h : y < 0
 ·rw [if_pos h,decide_eq_true h,if_pos rfl]
 ·rw [if_neg h,decide_eq_false h,if_neg (by simp)]
theorem k'jq (x y : Int) (hy : y ≠ 0) (g : Nat) (hg : Nat.gcd x.natAbs y.natAbs = g) :
 x / lg x y = sg (zb x != zb y) (x.natAbs / g) ∧ y / lg x y = sg false (y.natAbs / g) := by
 have hgp : 0 < g := by rw [← hg]; exact Nat.gcd_pos_of_pos_right _ (by omega)
 obtain ⟨A,hA⟩ : g ∣ x.natAbs := by rw [← hg]; exact Nat.gcd_dvd_left _ _
 obtain ⟨B,hB⟩ : g ∣ y.natAbs := by rw [← hg]; exact Nat.gcd_dvd_right _ _
 have hx : x = sg (zb x) (g * A) := by rw [← hA]; exact (k'ab x).symm
 have hy2 : y = sg (zb y) (g * B) := by rw [← hB]; exact (k'ab y).symm
 have eA : x.natAbs / g = A := by rw [hA]; exact Nat.mul_div_cancel_left _ hgp
 have eB : y.natAbs / g = B := by rw [hB]; exact Nat.mul_div_cancel_left _ hgp
 rw [k'jp x y hy,hg,eA,eB];constructor
 ·conv => lhs; rw [hx]
  exact k'jo _ _ _ _ hgp
 ·have h5 := k'jo (zb y) (zb y) B g hgp
  rw [← hy2] at h5;rw [h5];simp
theorem k'jr (m n : Nat) (hm : m < Top) (hn : n < Top) (h0 : 0 < n) : LowOK m n (m / Nat.gcd m n) (n / Nat.gcd m n) := by
 have hg := Nat.gcd_pos_of_pos_right m h0;have hgn : Nat.gcd m n ≤ n := Nat.gcd_le_right m h0;have a1 : m / Nat.gcd m n < Top := Nat.lt_of_le_of_lt (Nat.div_le_self _ _) hm;have a2 : n / Nat.gcd m n < Top := Nat.lt_of_le_of_lt (Nat.div_le_self _ _) hn;have lt : ∀ {z},z < Top → (Nm.dg W z).length ≤ 900000000 := fun h => Nat.le_trans (k'4t h) (by decide)
 exact ⟨k'd8 m n (lt hm) (lt hn),k'ck _ _ hg (lt hm) (lt (by omega)),k'ck _ _ hg (lt hn) (lt (by omega)),rfl,rfl,Nat.le_trans (k'4t a1) (by decide),Nat.le_trans (k'4t a2) (by decide),a1,a2⟩
theorem k'js (x y : Int) (hy : y ≠ 0) : (((zb x != zb y) && decide (x.natAbs / Nat.gcd x.natAbs y.natAbs ≠ 0)) = zb (x / lg x y) ∧ bs (x.natAbs / Nat.gcd x.natAbs y.natAbs) = zs (x / lg x y)) ∧ false = zb (y / lg x y) ∧ bs (y.natAbs / Nat.gcd x.natAbs y.natAbs) = zs (y / lg x y) := by
 obtain ⟨e1,e2⟩ := k'jq x y hy _ rfl;obtain ⟨p1,p2⟩ := k'jn (zb x != zb y) (x.natAbs / Nat.gcd x.natAbs y.natAbs);obtain ⟨p3,p4⟩ := k'jn false (y.natAbs / Nat.gcd x.natAbs y.natAbs);rw [e1,e2,p1,p2,p3,p4];exact ⟨⟨rfl,rfl⟩,rfl,rfl⟩
def Fit (z : Int) (k : Nat) : Prop := z.natAbs < 256 ^ k
theorem Fit.top {z : Int} {k : Nat} (h : Fit z k) (hk : k ≤ 8192) : z.natAbs < Top := (k'de hk h).1
theorem Fit.len {z : Int} {k : Nat} (h : Fit z k) (hk : k ≤ 8192) : (Nm.dg D9 z.natAbs).length ≤ 1000000 := Nat.le_trans (k'de hk h).2 (by decide)
theorem Fit.size {z : Int} {k : Nat} (h : Fit z k) (hk : k ≤ 8192) : (zs z).size ≤ 8192 := k'6m (h.top hk)
theorem Fit.le {y z : Int} {k : Nat} (h : Fit z k) (hle : y.natAbs ≤ z.natAbs) : Fit y k := Nat.lt_of_le_of_lt hle h
theorem k'ju {n : Int} {k : Nat} (hk : k = 60) (h1 : -9223372036854775808 ≤ n) (h2 : n ≤ 9223372036854775807) : Fit n k := by
 subst hk;have h3 : n.natAbs < 256 ^ 8 := by omega
 exact Nat.lt_of_lt_of_le h3 (Nat.pow_le_pow_right (by decide) (by decide))
def Sz (n : Nat) (p : List Int) : Prop := ∀ k,(Pl.cf p k).natAbs < D9 ^ n
theorem Sz.mono {n m : Nat} {p : List Int} (h : Sz n p) (hm : n ≤ m) : Sz m p := fun k => Nat.lt_of_lt_of_le (h k) (Nat.pow_le_pow_right (by decide) hm)
theorem Sz.nil (n : Nat) : Sz n [] := fun k => by rw [Pl.cf_nil]; exact Nat.pow_pos (by decide)
theorem Sz.cf {n : Nat} {p q : List Int} (h : Sz n p) (hc : ∀ k,Pl.cf q k = Pl.cf p k) : Sz n q := fun k => by rw [hc]; exact h k
theorem Sz.trim {n : Nat} {p : List Int} (h : Sz n p) : Sz n (Pl.trim p) := h.cf (Pl.cf_trim p)
theorem Sz.len {n : Nat} {p : List Int} (h : Sz n p) (k : Nat) : (Nm.dg D9 (Pl.cf p k).natAbs).length ≤ n := len9 (h k)
theorem k'jv {n m : Nat} {a b : Nat} (ha : a < D9 ^ n) (hb : b < D9 ^ m) : a + b < D9 ^ (max n m + 1) := by
 have h1 : D9 ^ n ≤ D9 ^ max n m := Nat.pow_le_pow_right (by decide) (Nat.le_max_left _ _)
 have h2 : D9 ^ m ≤ D9 ^ max n m := Nat.pow_le_pow_right (by decide) (Nat.le_max_right _ _)
 rw [Nat.pow_succ,show D9 = 1000000000 from rfl];rw [show D9 = 1000000000 from rfl] at h1 h2 ha hb;omega
theorem k'jw {n m : Nat} {a b : Nat} (ha : a < D9 ^ n) (hb : b < D9 ^ m) : a * b < D9 ^ (n + m) := by
 rw [Nat.pow_add];exact Nat.mul_lt_mul_of_lt_of_le ha (Nat.le_of_lt hb) (Nat.pow_pos (by decide))
theorem Sz.add {n m : Nat} {p q : List Int} (h : Sz n p) (h' : Sz m q) : Sz (max n m + 1) (Pl.add p q) := fun k => by
 rw [Pl.cf_add];exact Nat.lt_of_le_of_lt (Int.natAbs_add_le _ _) (k'jv (h k) (h' k))
theorem Sz.scl {n m : Nat} {p : List Int} {c : Int} (h : Sz n p) (hc : c.natAbs < D9 ^ m) : Sz (m + n) (Pl.scl c p) := fun k => by
 rw [Pl.cf_scl,Int.natAbs_mul]; exact k'jw hc (h k)
theorem Sz.neg {n : Nat} {p : List Int} (h : Sz n p) : Sz n (Pl.scl (-1) p) := fun k => by
 rw [Pl.cf_scl,Int.natAbs_mul]; have := h k; simpa using this
theorem k'k5 {n m : Nat} {p q : List Int} (s1 : Sz n p) (s2 : Sz m q) (j i : Nat) : (Pl.conv p q j i).natAbs ≤ j * D9 ^ (n + m) := by
 induction j with
 | zero => simp [Pl.conv]
 | succ j ih =>
  rw [Pl.conv];have h2 : (if j ≤ i then Pl.cf p j * Pl.cf q (i - j) else 0).natAbs ≤ D9 ^ (n + m) := by
   split
   ·rw [Int.natAbs_mul]; exact Nat.le_of_lt (k'jw (s1 _) (s2 _))
   ·simp
  refine Nat.le_trans (Int.natAbs_add_le _ _) ?_;rw [Nat.succ_mul];omega
theorem k'k6 {n m : Nat} {p q : List Int} (s1 : Sz n p) (s2 : Sz m q) (j i : Nat) (hj : j ≤ 100000) : (Pl.conv p q j i).natAbs < D9 ^ (n + m + 1) := by
 refine Nat.lt_of_le_of_lt (k'k5 s1 s2 j i) ?_;rw [Nat.pow_succ,Nat.mul_comm j];exact Nat.mul_lt_mul_of_pos_left (by show j < 1000000000; omega) (Nat.pow_pos (by decide))
theorem Sz.mul {n m : Nat} {p q : List Int} (s1 : Sz n p) (s2 : Sz m q) (l : p.length ≤ 1000) : Sz (n + m + 1) (Pl.mul p q) := fun k => by
 rw [Pl.cf_mul]; exact k'k6 s1 s2 _ _ (by omega)
theorem bvk {s : ByteArray} {k n : Nat} (hk : n = k) (hs : s.size ≤ n) : bv s < 256 ^ k := by
 subst hk;have h5 := Nm.val_lt (k'3h s);rw [k'3i] at h5;exact Nat.lt_of_lt_of_le h5 (Nat.pow_le_pow_right (by decide) hs)
theorem k'k8 {z : Int} {n k : Nat} (h : z.natAbs < D9 ^ n) (hk : 4 * n = k) : Fit z k := by
 subst hk;refine Nat.lt_of_lt_of_le h ?_;rw [Nat.pow_mul];exact Nat.pow_le_pow_left (by decide) n
theorem k'k9 {p : List Int} {a : Int} (h : a ∈ p) : ∃ k,Pl.cf p k = a := by
 obtain ⟨k,hk,rfl⟩ := List.mem_iff_getElem.1 h;exact ⟨k,Pl.cf_lt hk⟩
theorem Sz.top {n : Nat} {p : List Int} (h : Sz n p) (hn : n ≤ 2000) : ∀ a ∈ p,a.natAbs < Top := by
 intro a ha;obtain ⟨k,rfl⟩ := k'k9 ha;exact (k'k8 (h k) rfl).top (by omega)
theorem Sz.len9 {n : Nat} {p : List Int} (h : Sz n p) (hn : n ≤ 2000) : ∀ a ∈ p,(Nm.dg D9 a.natAbs).length ≤ 1000000 := by
 intro a ha;obtain ⟨k,rfl⟩ := k'k9 ha;exact (k'k8 (h k) rfl).len (by omega)
theorem k'ka {p : List Int} (h : shP (zl p) = true) : Sz 16 p := by
 intro k;rcases Nat.lt_or_ge k p.length with g | g
 ·rw [Pl.cf_lt g]
  have h1 := k'fl h (zb p[k],zs p[k]) (List.mem_map.2 ⟨p[k],List.getElem_mem g,rfl⟩);have h2 := bvk (k := 16) rfl h1;rw [k'6k] at h2;exact Nat.lt_of_lt_of_le h2 (Nat.pow_le_pow_left (by decide) 16)
 ·rw [Pl.cf_ge g]; exact Nat.pow_pos (by decide)
theorem k'kb (f : Int → Int → Int) (h0 : f 0 0 = 0) (p q : List Int) (k : Nat) : Pl.cf (zipL f p q) k = f (Pl.cf p k) (Pl.cf q k) := by
 by_cases g : k < (zipL f p q).length
 ·rw [Pl.cf_lt g]; simp [zipL]
 ·rw [Pl.cf_ge (by omega)]
  have : ¬ k < max p.length q.length := by simpa [zipL] using g
  rw [Pl.cf_ge (p := p) (by omega),Pl.cf_ge (p := q) (by omega),h0]
theorem k'kc (p q : List Int) : Pl.trim (zipL (· + ·) p q) = Pl.trim (Pl.add p q) :=
 Pl.nrm_ext (Pl.nrm_trim _) (Pl.nrm_trim _) fun k => by rw [Pl.cf_trim,Pl.cf_trim,k'kb _ (by decide),Pl.cf_add]
theorem k'ke (p q : List Int) (hp : p ≠ []) (hq : q ≠ []) : Pl.cf (Pl.mul p q) (p.length + q.length - 2) = Pl.cf p (p.length - 1) * Pl.cf q (q.length - 1) := by
 have l2 := List.length_pos_iff.2 hq
 induction p with
 | nil => exact absurd rfl hp
 | cons a p ih =>
  rw [Pl.mul,Pl.cf_add,Pl.cf_scl]
  cases p with
  | nil =>
   have e : ([a] : List Int).length + q.length - 2 = q.length - 1 := by simp only [List.length_singleton]; omega
   rw [e,show ([a] : List Int).length - 1 = 0 from rfl,Pl.cf_cons_zero];have : Pl.cf (0 :: Pl.mul [] q) (q.length - 1) = 0 := by
    rcases Nat.eq_zero_or_pos (q.length - 1) with h | h
    ·rw [h,Pl.cf_cons_zero]
    ·rw [Pl.cf_ge (by simp [Pl.mul]; omega)]
   rw [this]; omega
  | cons b p =>
   have ih' := ih (by simp)
   have e : (a :: b :: p).length + q.length - 2 = ((b :: p).length + q.length - 2) + 1 := by simp only [List.length_cons]; omega
   rw [e,Pl.cf_cons_succ,ih',Pl.cf_ge (p := q) (by simp only [List.length_cons]; omega),Int.mul_zero,Int.zero_add]
   congr 1
theorem k'kf {p q : List Int} (hp : Pl.Nrm p) (hq : Pl.Nrm q) (h0 : p ≠ []) (h1 : q ≠ []) : Pl.Nrm (Pl.mul p q) := by
 intro h;have l1 := List.length_pos_iff.2 h0;have l2 := List.length_pos_iff.2 h1;have e := Pl.mul_length p q h0 h1;rw [← Pl.cf_lt (by omega),e,show p.length + q.length - 1 - 1 = p.length + q.length - 2 by omega,k'ke p q h0 h1]
 exact Int.mul_ne_zero (Pl.nrm_cf hp l1) (Pl.nrm_cf hq l2)
theorem k'kg {z : Int} (h : (zs z).size ≤ 16) (ht : z.natAbs < Top) : lenV (zb z) (zs z) ≤ 200 := by
 rw [k'an (k'6j ht)];unfold lenB
 split
 ·have : Lib.bitLen (zs z)[0].toNat ≤ 8 := Lib.bitLen_le8 ⟨(zs z)[0].toNat,UInt8.toNat_lt _⟩
  omega
 ·omega
theorem k'kh (L : List (Bool × ByteArray)) (B : Int) (hB : 0 ≤ B) (h : ∀ x ∈ L,lenV x.1 x.2 ≤ B) : glb L ≤ B := by
 have key : ∀ (L : List (Bool × ByteArray)) (m : Int),m ≤ B → (∀ x ∈ L,lenV x.1 x.2 ≤ B) → L.foldl (fun m x => max m (lenV x.1 x.2)) m ≤ B := by
  intro L
  induction L with
  | nil => intro m hm _; exact hm
  | cons x L ih =>
   intro m hm hx;refine ih _ ?_ (fun y hy => hx y (List.mem_cons_of_mem _ hy));have := hx x List.mem_cons_self;show max m (lenV x.1 x.2) ≤ B;omega
 exact key L 0 hB h
theorem k'ki {p : List Int} (h : shP (zl p) = true) (hp : VP p) : glb (zl p) ≤ 200 := by
 refine k'kh _ 200 (by decide) ?_
 intro x hx;have h1 := k'fl h x hx;obtain ⟨z,hz,rfl⟩ := List.mem_map.1 hx;exact k'kg h1 (hp.top z hz)
theorem k'kj {p q : List Int} (h1 : shP (zl p) = true) (h2 : shP (zl q) = true) (hp : VP p) (hq : VP q) (hl : p.length + q.length ≤ 26) : ckm (zl p) (zl q) = 0 := by
 have g1 := k'ki h1 hp;have g2 := k'ki h2 hq;unfold ckm;rw [hp.ok,hq.ok,show (true && true) = true from rfl,if_pos rfl,k'e0,k'e0]
 split
 ·rfl
 ·rw [if_neg (by omega)]
def RowW (w : World) (B : Nat) (v : Value) (p : List Int) : Prop := w.ownsRow B 44 2 v p.length (wv p)
theorem RowW.rp {w : World} {B : Nat} {v : Value} {p : List Int} (h : RowW w B v p) : Rp w v p := by
 rcases h.2 with ⟨rfl,h0⟩ | ⟨g,cap,cur,rfl,hB,hg,hn,hm,hs,ht⟩
 ·obtain rfl := List.eq_nil_of_length_eq_zero h0; exact Rw.nil w
 ·refine Rp.mk (b := g) (off := 0) rfl hn hm (fun _ => rfl) fun k hk => ⟨?_,?_⟩
  ·have := h.cells (g := g) rfl (k * 2) _ (k'e5 p k hk).1
   have hadd : ((⟨g,0,none⟩ : Addr).add (k * 2)) = ⟨g,0 + k * 2,none⟩ := by unfold Addr.add; split <;> simp_all
   rwa [hadd] at this
  ·have := h.cells (g := g) rfl (k * 2 + 1) _ (k'e5 p k hk).2
   have hadd : ((⟨g,0,none⟩ : Addr).add (k * 2 + 1)) = ⟨g,0 + (k * 2 + 1),none⟩ := by unfold Addr.add; split <;> simp_all
   rw [hadd] at this;simpa [Nat.add_assoc] using this
theorem RowW.below {w w' : World} {B : Nat} {v : Value} {p : List Int} (h : RowW w B v p) (hb : Below w.heap.size w w') : RowW w' B v p := by
 refine ⟨h.1,?_⟩;rcases h.2 with h0 | ⟨g,cap,cur,e,hB,hg,hn,hm,hs,ht⟩
 ·exact Or.inl h0
 ·exact Or.inr ⟨g,cap,cur,e,hB,(hb.block g (lt_of_block hg)).trans hg,hn,hm,hs,ht⟩
theorem k'km (p : List Int) (v : Value) (w : World) (h : RP w v p) (hl : p.length ≤ 1000) (ht : ∀ a ∈ p,(Nm.dg D9 a.natAbs).length ≤ 1000000) : Calls Tryz.prog 114 #[v] w (RpPost p w) := by
 obtain ⟨a,b,off,cap,rfl,h2,h3,h4,h5⟩ := h;have hi : (Tryz.prog.info? 44).map (fun i => (i.zero,i.size,i.bytes)) = some (some (.agg #[.bool false,.string ⟨#[]⟩]),2,24) := by kernel_rfl
 obtain ⟨i0,hi0,hz0,hz1,hz2⟩ := info_parts hi;have HI := i' (And.intro hi0 (And.intro hz0 (And.intro hz1 hz2)));have HF := i' (fun k (hk : k < p.length) u w (h : Rz w u (p[k]'hk)) => k'8t p[k] u w h (ht _ (List.getElem_mem hk)));obtain ⟨n,hn⟩ : ∃ n,n = p.length := ⟨_,rfl⟩;rw [← hn] at hl ⊢;have HN := i' hn;have H4 := i' h4;have H5 := i' h5;clear h2 h3 h4 h5 hi hi0 hz0 hz1 hz2 hn ht;go_enter Tryz.func114,Tryz.ntmps114;go_wp2;go_loopw [3,4] (fun v iv wr => ∃ (wz : World) (k : Nat),wz = wr ∧ k ≤ n ∧ iv = .int .i64 (k : Int) ∧ Hid (RowW wz w.heap.size v (p.take k)) ∧ Hid (Below w.heap.size w wz))
  (fun _ iv _ => n - (intOf iv).toNat)
 case atStart => exact ⟨w,0,rfl,Nat.zero_le _,rfl,World.ownsRow_nil _ _ _ _,Below.refl _ _⟩
 case round =>
  obtain ⟨wz,k,rfl,hk,rfl,hrow,hbl⟩ := hrel;by_cases hlt : k < n
  ·have hkp : k < p.length := by have h5 : n = p.length := HN.out; omega
   obtain rfl := H4.out (by intro e; rw [e] at hkp; exact absurd hkp (Nat.not_lt_zero _))
   obtain ⟨uk,g0,g1,g2⟩ := H5.out k hkp;have c0 := k'4i hbl.out g0;have c1 := k'4i hbl.out g1;have HFk := i' (HF.out k hkp uk wz (g2.below hbl.out));clear g0 g1 g2;unfold iV at HFk;have HTk : Hid (p.take k ++ [p[k]] = p.take (k + 1)) := (List.take_succ_eq_append_getElem hkp).symm;have hkk : (k : Int) < (n : Int) := by omega
   have hk0 : (0 : Int) ≤ (k : Int) := by omega
   generalize p[k] = z at *;clear hkp;go_wp2_with fail;refine HFk.out.mono ?_;rintro e w5 ⟨rfl,b5⟩;have HW5 := i' (hrow.out.below b5);have HB5 := i' (k'4h hbl.out b5);clear b5 hrow hbl c0 c1;simp only [k'9e];go_wp2_with (at_builtin; refine wpList_append_own _ rfl _ _ 23 rfl w.heap.size 44 i0 (.agg #[.bool false,.string ⟨#[]⟩]) 2 24 Tryz.underlying23 HI.out.1 HI.out.2.1 HI.out.2.2.1 HI.out.2.2.2 rfl (by decide) _ _ _ rfl (HW5.out.alloc _) ⟨w5.heap.size,0,none⟩ 1 1 [.bool (zb z),.string (zs z)] rfl rfl ?dc1 ?dc2 ?dc3 ?dc4 ?dc5 ?_)
   case dc1 => exact k'f9 _ _ _ _
   case dc2 =>
    intro x hx;simp at hx;rcases hx with rfl | rfl
    ·rfl
    ·rfl
   case dc3 => unfold maxLen; simp; omega
   case dc4 => simp; omega
   case dc5 => have h5 := HB5.out.size; simp; omega
   intro v' w1 hown1 hgrow1 _;have HN1 : Hid (RowW w1 w.heap.size v' (p.take (k + 1))) := by
    show World.ownsRow _ _ _ _ _ _ _;rw [← HTk.out,k'e7,List.length_append,List.length_take];exact hown1
   have HB1 : Hid (Below w.heap.size w w1) := (HB5.out.alloc HB5.out.size _).grown hgrow1 (by have h5 := HB5.out.size; simp; omega) (fun q hq => (HW5.out.lt q hq).1)
   clear hown1 hgrow1;go_wp2;go_roundw
   case rel => exact ⟨_,k + 1,rfl,by omega,by go_num,HN1.out,HB1.out⟩
   case measure => simp [intOf]; omega
  ·obtain rfl : k = n := by omega
   have HRo : Hid (Rp wz u3 p) := by
    have h5 := hrow.out.rp;rw [show k = p.length from HN.out,List.take_length] at h5;exact h5
   go_wp2;go_ret;exact ⟨_,rfl,HRo.out,hbl.out⟩
end Go.Proofs.YtepddegphdlbeaaGreat
