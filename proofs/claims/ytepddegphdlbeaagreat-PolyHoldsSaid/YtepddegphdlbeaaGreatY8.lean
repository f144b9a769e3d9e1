/- What the theorem leans on, part Y8. -/
import Derived.Test.YtepddegphdlbeaaGreatY7
import Derived.Test.YtepddegphdlbeaaGreatY6
import Derived.Test.YtepddegphdlbeaaGreatY5
import Derived.Test.YtepddegphdlbeaaGreatY4
import Derived.Test.YtepddegphdlbeaaGreatY2
import Derived.Test.YtepddegphdlbeaaGreatY1
import Derived.Test.YtepddegphdlbeaaGreatY0
import Derived.Test.YtepddegphdlbeaaGreatProg
import Derived.WalkKit
import Derived.WalkSpells
import Derived.WalkLawsBesides
import Derived.Lib.Hide
import Derived.Deep.QuietTactic
import Derived.BigQuiet
import Derived.Shelf.Small.Bits
import Derived.Shelf.Small.Wraps
import Derived.Shelf.Strconv.Itoa0
import Derived.Shelf.Bits.Mul64
import Derived.Ground.Names2Prog
import Derived.Shelf.Slices.SearchI
import Derived.Shelf.Spec.BitsCarry
import Derived.Deep.LoopGhost
import Derived.Deep.RegionHeld3
import Derived.Laws.AppendOwnNone
import Derived.Test.YtepddegphdlbeaaGreatY3
import Derived.Deep.DeepCutAuto
set_option maxRecDepth 100000
set_option maxHeartbeats 16000000
set_option linter.all false
namespace Go.Proofs.YtepddegphdlbeaaGreat
open Go.RowKit
def CutO (br : Bool) (s : Value) (X : List Nat) (B : Nat) (wb wx : World) (g : Nat) : Prop := B ≤ g ∧ ZC (.bool br) s wx g ∧ Ri wx s X ∧ Below B wb wx
section
variable {br b0 : Bool} {s : Value} {X : List Nat} {B : Nat} {wb w3 : World} {t : TypeId} {p : Option Addr} {n c g : Nat}
theorem CutO.k1 (r1 : Ri w3 s X) (h : Below B wb w3) (hB : B ≤ w3.heap.size) : CutO br s X B wb (w3.alloc (.cells #[.bool br,s] t)) w3.heap.size := ⟨hB,ZC.new rfl,r1.allocd _,h.alloc hB _⟩
theorem Ri.setq {w : World} {v : Value} {xs : List Nat} (h : Ri w v xs) (z : ZC (.bool b0) (.slice p n c) w g) (u u' : Value) : Ri ((w.setCell ⟨g,0,none⟩ u).setCell ⟨g,1,none⟩ u') v xs := h.set2 z.1 z.2.1 (fun _ => by simp)
theorem CutO.k2 (q : ZC (.bool b0) (.slice p n c) w3 g) (hg : B ≤ g) (r1 : Ri w3 s X) (h : Below B wb w3) : CutO br s X B wb ((w3.setCell ⟨g,0,none⟩ (.bool br)).setCell ⟨g,1,none⟩ s) g := ⟨hg,q.set,r1.setq q _ _,k'61 h hg _ _⟩
end
theorem k'bu {a x : Nat} (h : a + 4 ≤ x) : ¬ x = a ∧ ¬ x = a+1 ∧ ¬ x = a+1+1 ∧ ¬ x = a+1+1+1 ∧ ¬ a = x ∧ ¬ a+1 = x ∧ ¬ a+1+1 = x ∧ ¬ a+1+1+1 = x ∧ a < x ∧ a+1 < x ∧ a+1+1 < x ∧ a+1+1+1 < x := ⟨by omega,by omega,by omega,by omega,by omega,by omega,by omega,by omega,by omega,by omega,by omega,by omega⟩
theorem k'bv (x y : Int) (v1 v2 : Value) (w : World) (k : Nat) (hk : k ≤ 90000) (hx : x.natAbs < D9 ^ k) (hy : y.natAbs < D9 ^ k) (h1 : Rz w v1 x) (h2 : Rz w v2 y) (hy0 : y ≠ 0) (hr : 0 ≤ x - q0 x y * y) :
 Calls Tryz.prog 98 #[iV x v1,iV y v2] w (QIPost (q0 x y) (x - q0 x y * y) w) := by
 have lx := k'bq hx;have ly := k'bq hy;have H_over := i' (fun v1 v2 w g1 g2 => k'7w v1 v2 x.natAbs y.natAbs w (by omega) g1 g2 (by omega) (by omega))
 have H_made := i' (fun v w g => (k'7k (decide (x < 0) != decide (y < 0)) v (x.natAbs / y.natAbs) w g).mono (k'83 (z := q0 x y) rfl));have lq := Nat.le_trans (k'bq (Nat.lt_of_le_of_lt (k'br x y) hx)) (by omega : k ≤ 1000000)
 have lqy := Nat.le_trans (k'bq (Nat.lt_of_le_of_lt (k'bs x y) hx)) (by omega : k ≤ 1000000)
 have H_mul := i' (fun v1 v2 w g1 g2 => k'86 (q0 x y) y v1 v2 w g1 g2 lq (by omega))
 have H_sub := i' (fun v1 v2 w g1 g2 => k'88 x (q0 x y * y) v1 v2 w g1 g2 (by omega) lqy)
 have H_sgn := i' (fun v w g => k'85 (x - q0 x y * y) v w g);obtain ⟨sg,hsg⟩ : ∃ sg,(x - q0 x y * y).sign = sg := ⟨_,rfl⟩;have hsg0 : ¬ sg < 0 := by
  rw [← hsg];rcases Int.lt_or_eq_of_le hr with g | g
  ·rw [Int.sign_eq_one_of_pos g]; decide
  ·rw [← g]; decide
 rw [hsg] at H_sgn;clear hsg;obtain ⟨sb,hsb⟩ : ∃ sb,(decide (x < 0) != decide (y < 0)) = sb := ⟨_,rfl⟩;rw [hsb] at H_made;have HX := i' h1;have HY := i' h2;clear lq lqy lx ly hx hy hk hr;clear hy0;unfold IntPost iV at H_made H_mul H_sub;unfold iV at H_sgn;unfold SignPost at H_sgn;unfold OverPost at H_over;unfold QIPost iV;generalize x.natAbs / y.natAbs = dd at *;generalize x.natAbs % y.natAbs = de at *;obtain ⟨bx,hbx⟩ : ∃ b,decide (x < 0) = b := ⟨_,rfl⟩;obtain ⟨by',hby⟩ : ∃ b,decide (y < 0) = b := ⟨_,rfl⟩
 rw [hbx,hby] at hsb;have hsb2 : (!(bx == by')) = sb := hsb
 rw [hby] at H_mul;rw [hbx] at H_sub ⊢;rw [hby];clear hbx hby hsb;generalize x - q0 x y * y = r at *;generalize q0 x y * y = qy at *;generalize q0 x y = q at *;generalize decide (qy < 0) = bqy at *;obtain ⟨bq,hbq⟩ : ∃ b,decide (q < 0) = b := ⟨_,rfl⟩;rw [hbq] at H_made H_mul;obtain ⟨pa,ba,oa,ca,rfl,hra⟩ := h1;obtain ⟨pb,bb,ob,cb,rfl,hrb⟩ := h2;clear hra hrb;generalize (Nm.dg D9 x.natAbs).length = la at *;generalize (Nm.dg D9 y.natAbs).length = lb at *;obtain ⟨w0,hw0⟩ : ∃ w0 : World,w0 = (((w.alloc (.cells #[.bool bx,.slice pa la ca] 52)).alloc (.cells #[.bool by',.slice pb lb cb] 52)).alloc (.cells #[.bool false,.slice none 0 0] 52)).alloc (.cells #[.bool false,.slice none 0 0] 52) := ⟨_,rfl⟩
 have hb0 : Hid (Below w.heap.size w w0) := by rw [hw0]; exact ((((Below.refl _ _).alloc (Nat.le_refl _) _).alloc (by simp) _).alloc (by simp; omega) _).alloc (by simp; omega) _
 have I1 : Hid (ZC (.bool bx) (.slice pa la ca) w0 w.heap.size) := by rw [hw0]; exact (((ZC.new rfl).alloc _).alloc _).alloc _
 have I2 : Hid (ZC (.bool by') (.slice pb lb cb) w0 (w.heap.size + 1)) := by rw [hw0]; exact ((ZC.new (by simp)).alloc _).alloc _
 have I3 : Hid (ZC (.bool false) (.slice none 0 0) w0 (w.heap.size + 1 + 1)) := by rw [hw0]; exact (ZC.new (by simp)).alloc _
 have I4 : Hid (ZC (.bool false) (.slice none 0 0) w0 (w.heap.size + 1 + 1 + 1)) := by rw [hw0]; exact ZC.new (by simp)
 have Hsz : Hid (w.heap.size + 4 ≤ w0.heap.size) := by rw [hw0]; show _ ≤ _; simp
 have RX := i' (Ri.below HX.out hb0.out (Nat.le_refl _));have RY := i' (Ri.below HY.out hb0.out (Nat.le_refl _));have Hw0 := i' hw0;clear hw0 HX HY;go_enter Tryz.func98,Tryz.ntmps98;go_wp2_with fail;rw [← Hw0.out];clear Hw0;refine (H_over.out _ _ _ RX.out RY.out).mono ?_;rintro e y1 ⟨vq,vr,rfl,rq,rr,b1⟩;have D := i' b1;obtain ⟨k0,k1,_⟩ := I1.out.next D.out;obtain ⟨k2,k3,_⟩ := I2.out.next D.out;have RQ := i' rq;obtain ⟨pq,bq',oq,cq,rfl,hrq⟩ := rq;clear b1 rr hrq;go_wp2_with fail;refine (H_made.out _ _ RQ.out).mono ?_;rintro e y2 ⟨v8,rfl,r8,b2⟩;have D := i' (k'4h D.out b2);obtain ⟨u2,hu2⟩ : ∃ u : World,u = y2.alloc (.cells #[.bool bq,v8] 52) := ⟨_,rfl⟩;have R8 : Hid (Rz u2 v8 q) := by rw [hu2]; exact Ri.allocd r8 _
 have T8 : Hid (ZC (.bool bq) v8 u2 y2.heap.size) := by rw [hu2]; exact ZC.new rfl
 have hy2 : Hid (w.heap.size + 4 ≤ y2.heap.size) := Nat.le_trans Hsz.out D.out.size;have D : Hid (Below w0.heap.size w0 u2) := by rw [hu2]; exact D.out.alloc D.out.size _
 obtain ⟨p8,bb8,o8,c8,rfl,rr8⟩ := r8;clear rr8;generalize (Nm.dg D9 q.natAbs).length = l8 at *;obtain ⟨k0,k1,_⟩ := I1.out.next D.out;obtain ⟨k2,k3,_⟩ := I2.out.next D.out;obtain ⟨k4,k5,_⟩ := T8.out;have HSB : Hid (w.heap.size + 4 ≤ u2.heap.size) := Nat.le_trans Hsz.out D.out.size;have hu2g : Hid (y2.heap.size < u2.heap.size) := T8.out.lt;have Hu2 := i' hu2;clear b2 hu2 RQ;have RXu := i' (Ri.below RX.out D.out (Nat.le_refl _));have RYu := i' (Ri.below RY.out D.out (Nat.le_refl _));go_upto_region 3 with (fail);rw [← Hu2.out];clear Hu2;obtain ⟨ja,jb,jc,jd,je,jf,jg,jh,ji,jj,jk,jl⟩ := k'bu HSB.out;have jm := hu2g.out;have jn : ¬ y2.heap.size = u2.heap.size := Nat.ne_of_lt jm;have jo : ¬ u2.heap.size = y2.heap.size := Nat.ne_of_gt jm;go_cut [9] (fun s9 wx => ∃ (g9 : Nat) (p9 : Option Addr) (n9 c9 : Nat),s9 = .pointer (some ⟨g9,0,none⟩) ∧ Hid (CutO (decide (r < 0)) (.slice p9 n9 c9) (Nm.dg D9 r.natAbs) u2.heap.size u2 wx g9))
 case first =>
  rename_i J0 K0 hRJ hMK;go_region_held3 (fun W' => W'.cell? ⟨w.heap.size,0,none⟩ = some (.bool bx) ∧ W'.cell? ⟨w.heap.size,1,none⟩ = some (.slice pa la ca) ∧ W'.cell? ⟨w.heap.size + 1,0,none⟩ = some (.bool by') ∧ W'.cell? ⟨w.heap.size + 1,1,none⟩ = some (.slice pb lb cb) ∧ W'.cell? ⟨y2.heap.size,0,none⟩ = some (.bool bq) ∧ W'.cell? ⟨y2.heap.size,1,none⟩ = some (.slice p8 l8 c8)) (go_keep)
   (first
    | (go_at_call 83; (with_reducible refine (H_mul.out _ _ _ (by first | exact Ri.drew R8.out | exact Ri.allocd (Ri.drew R8.out) _ | exact Ri.drew (Ri.allocd R8.out _)) (by first | exact Ri.drew RYu.out | exact Ri.allocd (Ri.drew RYu.out) _ | exact Ri.drew (Ri.allocd RYu.out _))).mono ?_); rintro e w1 ⟨vm,rfl,rz1,bz1⟩; (try (have bz1 := k'60 bz1)); have d1 : Below u2.heap.size u2 w1 := k'4h (by first | exact Below.refl _ _ | exact (Below.refl _ _).drew | exact k'5u _ _ | exact ((Below.refl _ _).drew).alloc (Nat.le_refl _) _) bz1; have e1 : Below u2.heap.size u2 w1 := d1; have p0 := k'4i e1 k0; have p1 := k'4i e1 k1; have p2 := k'4i e1 k2; have p3 := k'4i e1 k3; have p4 := k'4i e1 k4; have p5 := k'4i e1 k5; obtain ⟨j1a,j1b,j1c,j1d,j1e,j1f,j1g,j1h,j1i,j1j,j1k,j1l⟩ := k'bu (Nat.le_trans HSB.out e1.size); have j1m := Nat.lt_of_lt_of_le hu2g.out e1.size; have j1n : ¬ y2.heap.size = w1.heap.size := Nat.ne_of_lt j1m; have j1o : ¬ w1.heap.size = y2.heap.size := Nat.ne_of_gt j1m; (try (have A0 := i' (ZC.made (g := u2.heap.size) rfl bz1); obtain ⟨A0a,A0b,A0c,A0d⟩ := A0.out)); (try (have L01 := i' (k'5x (g := u2.heap.size) rfl bz1); obtain ⟨l01x,l01y,l01z⟩ := L01.out)); have G1 := i' rz1; obtain ⟨pr1,br1,or1,cr1,rfl,rr1⟩ := rz1; clear rr1)
    | (go_at_call 117; (with_reducible refine (H_sub.out _ _ _ (by first | exact Ri.below RXu.out e1 (Nat.le_refl _) | exact Ri.allocd (Ri.below RXu.out e1 (Nat.le_refl _)) _) (by first | exact G1.out | exact Ri.allocd G1.out _)).mono ?_); rintro e w2 ⟨vs,rfl,rz2,bz2⟩; (try (have bz2 := k'60 bz2)); have d2 : Below w1.heap.size w1 w2 := k'4h (by first | exact Below.refl _ _ | exact (Below.refl _ _).drew | exact k'5u _ _ | exact ((Below.refl _ _).drew).alloc (Nat.le_refl _) _) bz2; have e2 : Below u2.heap.size u2 w2 := k'4h e1 d2; have p0 := k'4i e2 k0; have p1 := k'4i e2 k1; have p2 := k'4i e2 k2; have p3 := k'4i e2 k3; have p4 := k'4i e2 k4; have p5 := k'4i e2 k5; obtain ⟨j2a,j2b,j2c,j2d,j2e,j2f,j2g,j2h,j2i,j2j,j2k,j2l⟩ := k'bu (Nat.le_trans HSB.out e2.size); have j2m := Nat.lt_of_lt_of_le hu2g.out e2.size; have j2n : ¬ y2.heap.size = w2.heap.size := Nat.ne_of_lt j2m; have j2o : ¬ w2.heap.size = y2.heap.size := Nat.ne_of_gt j2m; (try (have A1 := i' (ZC.made (g := w1.heap.size) rfl bz2); obtain ⟨A1a,A1b,A1c,A1d⟩ := A1.out)); (try (have A0 := i' (A0.out.next d2); obtain ⟨A0a,A0b,A0c,A0d⟩ := A0.out)); (try (have L02 := i' (k'5z L01.out d2.size); obtain ⟨l02x,l02y,l02z⟩ := L02.out)); (try (have L12 := i' (k'5x (g := w1.heap.size) rfl bz2); obtain ⟨l12x,l12y,l12z⟩ := L12.out)); have G2 := i' rz2; obtain ⟨pr2,br2,or2,cr2,rfl,rr2⟩ := rz2; clear rr2)
    | fail)
  all_goals
   refine hMK _ _ (Met.intro (hRJ _ _ ?_))
   (repeat apply Exists.intro)
   refine ⟨?_,rfl⟩;refine ⟨_,pr2,(Nm.dg D9 r.natAbs).length,cr2,rfl,?_⟩;show CutO _ (.slice pr2 _ cr2) _ u2.heap.size u2 _ _;have sA0 : u2.heap.size ≤ u2.heap.size := Nat.le_refl _;have sA1 : u2.heap.size ≤ w1.heap.size := e1.size;have sA2 : u2.heap.size ≤ w2.heap.size := e2.size
   first
    | with_reducible exact CutO.k1 G2.out e2 sA2
    | with_reducible exact CutO.k2 A0.out sA0 G2.out e2
    | with_reducible exact CutO.k2 A1.out sA1 G2.out e2
    | fail
 obtain ⟨g9,p9,n9,c9,rfl,hcut⟩ := hcut;obtain ⟨hg9,t9,r9,b9⟩ := hcut.out;have D := i' (k'4h D.out b9);have T8 := i' (T8.out.next b9);have R8 := i' (Ri.below R8.out b9 (Nat.le_refl _));have T9 := i' t9;have R9 := i' r9;have hg9' : Hid (w.heap.size + 4 ≤ g9) := Nat.le_trans HSB.out hg9;have hg89 : Hid (y2.heap.size < g9) := Nat.lt_of_lt_of_le hu2g.out hg9;obtain ⟨k0,k1,_⟩ := T9.out;clear hcut hg9 t9 r9 b9 ja jb jc jd je jf jg jh ji jj jk jl jm jn jo k2 k3 k4 k5;obtain ⟨br,hbr⟩ : ∃ b,decide (r < 0) = b := ⟨_,rfl⟩;rw [hbr] at T9 k0 H_sgn;go_wp2_with fail;refine (H_sgn.out _ _ R9.out).mono ?_;rintro e y3 ⟨rfl,b3⟩;have D := i' (k'4h D.out b3);have T8 := i' (T8.out.next b3);have R8 := i' (Ri.below R8.out b3 (Nat.le_refl _));have T9 := i' (T9.out.next b3);have R9 := i' (Ri.below R9.out b3 (Nat.le_refl _));clear b3 k0 k1;have HQQ := i' hbq;have HRR := i' hbr;clear hbq hbr;obtain ⟨f0,f1,f2,f3⟩ := T8.out;obtain ⟨f4,f5,f6,f7⟩ := T9.out;obtain ⟨m0,m1,m2,m3⟩ := I3.out.next D.out;obtain ⟨n0,n1,n2,n3⟩ := I4.out.next D.out;obtain ⟨ja,jb,jc,jd,je,jf,jg,jh,_⟩ := k'bu hy2.out;obtain ⟨qa,qb,qc,qd,qe,qf,qg,qh,_⟩ := k'bu hg9'.out;have i5 := (I4.out.next D.out).other (g2 := w.heap.size + 1 + 1) (u := .bool bq) (v := (.slice p8 l8 c8)) (by omega)
 have HZ := i' ((k'61 (k'61 (k'4h hb0.out D.out) (g := w.heap.size + 1 + 1) (by omega) (.bool bq) (.slice p8 l8 c8)) (g := w.heap.size + 1 + 1 + 1) (by omega) (.bool br) (.slice p9 n9 c9)).drew)
 have RQf := i' (Ri.drew ((R8.out.setq (I3.out.next D.out) (.bool bq) (.slice p8 l8 c8)).setq i5 (.bool br) (.slice p9 n9 c9)));have RRf := i' (Ri.drew ((R9.out.setq (I3.out.next D.out) (.bool bq) (.slice p8 l8 c8)).setq i5 (.bool br) (.slice p9 n9 c9)));clear i5;go_wp2_with fail;go_region
 go_wp2;exact bodyPost_ret (v := .tuple #[.agg #[.bool bq,(.slice p8 l8 c8)],.agg #[.bool br,(.slice p9 n9 c9)]]) (by simp [results,Tryz.results98,go_sem,m0,m1,n0,n1]) rfl ⟨_,_,by rw [HQQ.out,HRR.out],RQf.out,RRf.out,HZ.out⟩
theorem k'bw (x y : Int) (v1 v2 : Value) (w : World) (k : Nat) (hk : k ≤ 90000) (hx : x.natAbs < D9 ^ k) (hy : y.natAbs < D9 ^ k) (h1 : Rz w v1 x) (h2 : Rz w v2 y) (hs : 0 < y) (hr : x - q0 x y * y < 0) :
 Calls Tryz.prog 98 #[iV x v1,iV y v2] w (QIPost (q0 x y - 1) (x - (q0 x y - 1) * y) w) := by
 have lx := k'bq hx;have ly := k'bq hy;have H_over := i' (fun v1 v2 w g1 g2 => k'7w v1 v2 x.natAbs y.natAbs w (by omega) g1 g2 (by omega) (by omega))
 have H_made := i' (fun v w g => (k'7k (decide (x < 0) != decide (y < 0)) v (x.natAbs / y.natAbs) w g).mono (k'83 (z := q0 x y) rfl));have lq := Nat.le_trans (k'bq (Nat.lt_of_le_of_lt (k'br x y) hx)) (by omega : k ≤ 1000000)
 have lqy := Nat.le_trans (k'bq (Nat.lt_of_le_of_lt (k'bs x y) hx)) (by omega : k ≤ 1000000)
 have H_mul := i' (fun v1 v2 w g1 g2 => k'86 (q0 x y) y v1 v2 w g1 g2 lq (by omega))
 have H_sub := i' (fun v1 v2 w g1 g2 => k'88 x (q0 x y * y) v1 v2 w g1 g2 (by omega) lqy)
 have H_sgn := i' (fun v w g => k'85 (x - q0 x y * y) v w g);have H_sgy := i' (fun v w g => k'85 y v w g);rw [Int.sign_eq_one_of_pos hs] at H_sgy;rw [Int.sign_eq_neg_one_of_neg hr] at H_sgn;obtain ⟨zi,hzi⟩ : ∃ z : Int,z = 1 := ⟨_,rfl⟩;have H_n1 : Hid (∀ w,Calls Tryz.prog 74 #[.int .i64 1] w (IntPost zi w)) := by rw [hzi]; exact fun w => k'9c 1 w (by decide) (by decide)
 have H_adj0 : ∀ z : Int,z = 1 → ∀ v1 v2 w,Rz w v1 (q0 x y) → Rz w v2 z → Calls Tryz.prog 117 #[iV (q0 x y) v1,iV z v2] w (IntPost (q0 x y - 1) w) := by
  intro z hz v1 v2 w g1 g2;subst hz;exact k'88 (q0 x y) 1 v1 v2 w g1 g2 lq (Nat.le_trans (k'bq (k := 3) (by decide)) (by decide))
 have H_adj := i' (H_adj0 zi hzi);clear H_adj0;have lq1 : (Nm.dg D9 (q0 x y - 1).natAbs).length ≤ 1000000 := by
  have a1 := k'br x y;refine Nat.le_trans (k'bq (k := k + 1) (k'bt ?_)) (by omega)
  have : 0 < D9 ^ k := Nat.pow_pos D90;omega
 have lqy1 : (Nm.dg D9 ((q0 x y - 1) * y).natAbs).length ≤ 1000000 := by
  have a1 := k'bs x y;rw [Int.sub_mul,Int.one_mul];refine Nat.le_trans (k'bq (k := k + 1) (k'bt ?_)) (by omega)
  omega
 have H_mul2 := i' (fun v1 v2 w g1 g2 => k'86 (q0 x y - 1) y v1 v2 w g1 g2 lq1 (by omega))
 have H_sub2 := i' (fun v1 v2 w g1 g2 => k'88 x ((q0 x y - 1) * y) v1 v2 w g1 g2 (by omega) lqy1)
 clear hzi lq1 lqy1;obtain ⟨sb,hsb⟩ : ∃ sb,(decide (x < 0) != decide (y < 0)) = sb := ⟨_,rfl⟩;rw [hsb] at H_made;have HX := i' h1;have HY := i' h2;clear lq lqy lx ly hx hy hk hr;clear hs;unfold IntPost iV at H_made H_mul H_sub H_adj H_mul2 H_sub2;unfold IntPost at H_n1;unfold iV at H_n1;unfold iV at H_sgn;unfold iV at H_sgy;unfold SignPost at H_sgn H_sgy;unfold OverPost at H_over;unfold QIPost iV;generalize x.natAbs / y.natAbs = dd at *;generalize x.natAbs % y.natAbs = de at *;obtain ⟨bx,hbx⟩ : ∃ b,decide (x < 0) = b := ⟨_,rfl⟩;obtain ⟨by',hby⟩ : ∃ b,decide (y < 0) = b := ⟨_,rfl⟩
 rw [hbx,hby] at hsb;have hsb2 : (!(bx == by')) = sb := hsb
 rw [hby] at H_mul H_mul2 H_sgy;rw [hbx] at H_sub H_sub2 ⊢;rw [hby];clear hbx hby hsb;generalize hr1 : x - (q0 x y - 1) * y = r1 at *;generalize (q0 x y - 1) * y = q1y at *;generalize hq1 : q0 x y - 1 = q1 at *;clear hr1 hq1;generalize x - q0 x y * y = r at *;generalize q0 x y * y = qy at *;generalize q0 x y = q at *;generalize decide (qy < 0) = bqy at *;generalize decide (q1y < 0) = bq1y at *;generalize decide (zi < 0) = bzi at *;obtain ⟨bq1,hbq1⟩ : ∃ b,decide (q1 < 0) = b := ⟨_,rfl⟩;obtain ⟨br1,hbr1⟩ : ∃ b,decide (r1 < 0) = b := ⟨_,rfl⟩;rw [hbq1] at H_adj H_mul2;rw [hbr1] at H_sub2;have HQQ := i' hbq1;have HRR := i' hbr1;clear hbq1 hbr1;obtain ⟨bq,hbq⟩ : ∃ b,decide (q < 0) = b := ⟨_,rfl⟩;rw [hbq] at H_made H_mul H_adj;obtain ⟨pa,ba,oa,ca,rfl,hra⟩ := h1;obtain ⟨pb,bb,ob,cb,rfl,hrb⟩ := h2;clear hra hrb;generalize (Nm.dg D9 x.natAbs).length = la at *;generalize (Nm.dg D9 y.natAbs).length = lb at *;obtain ⟨w0,hw0⟩ : ∃ w0 : World,w0 = (((w.alloc (.cells #[.bool bx,.slice pa la ca] 52)).alloc (.cells #[.bool by',.slice pb lb cb] 52)).alloc (.cells #[.bool false,.slice none 0 0] 52)).alloc (.cells #[.bool false,.slice none 0 0] 52) := ⟨_,rfl⟩
 have hb0 : Hid (Below w.heap.size w w0) := by rw [hw0]; exact ((((Below.refl _ _).alloc (Nat.le_refl _) _).alloc (by simp) _).alloc (by simp; omega) _).alloc (by simp; omega) _
 have I1 : Hid (ZC (.bool bx) (.slice pa la ca) w0 w.heap.size) := by rw [hw0]; exact (((ZC.new rfl).alloc _).alloc _).alloc _
 have I2 : Hid (ZC (.bool by') (.slice pb lb cb) w0 (w.heap.size + 1)) := by rw [hw0]; exact ((ZC.new (by simp)).alloc _).alloc _
 have I3 : Hid (ZC (.bool false) (.slice none 0 0) w0 (w.heap.size + 1 + 1)) := by rw [hw0]; exact (ZC.new (by simp)).alloc _
 have I4 : Hid (ZC (.bool false) (.slice none 0 0) w0 (w.heap.size + 1 + 1 + 1)) := by rw [hw0]; exact ZC.new (by simp)
 have Hsz : Hid (w.heap.size + 4 ≤ w0.heap.size) := by rw [hw0]; show _ ≤ _; simp
 have RX := i' (Ri.below HX.out hb0.out (Nat.le_refl _));have RY := i' (Ri.below HY.out hb0.out (Nat.le_refl _));have Hw0 := i' hw0;clear hw0 HX HY;go_enter Tryz.func98,Tryz.ntmps98;go_wp2_with fail;rw [← Hw0.out];clear Hw0;refine (H_over.out _ _ _ RX.out RY.out).mono ?_;rintro e y1 ⟨vq,vr,rfl,rq,rr,b1⟩;have D := i' b1;obtain ⟨k0,k1,_⟩ := I1.out.next D.out;obtain ⟨k2,k3,_⟩ := I2.out.next D.out;have RQ := i' rq;obtain ⟨pq,bq',oq,cq,rfl,hrq⟩ := rq;clear b1 rr hrq;go_wp2_with fail;refine (H_made.out _ _ RQ.out).mono ?_;rintro e y2 ⟨v8,rfl,r8,b2⟩;have D := i' (k'4h D.out b2);obtain ⟨u2,hu2⟩ : ∃ u : World,u = y2.alloc (.cells #[.bool bq,v8] 52) := ⟨_,rfl⟩;have R8 : Hid (Rz u2 v8 q) := by rw [hu2]; exact Ri.allocd r8 _
 have T8 : Hid (ZC (.bool bq) v8 u2 y2.heap.size) := by rw [hu2]; exact ZC.new rfl
 have hw8 : Hid (w0.heap.size ≤ y2.heap.size) := D.out.size;have hy2 : Hid (w.heap.size + 4 ≤ y2.heap.size) := Nat.le_trans Hsz.out D.out.size;have D : Hid (Below w0.heap.size w0 u2) := by rw [hu2]; exact D.out.alloc D.out.size _
 obtain ⟨p8,bb8,o8,c8,rfl,rr8⟩ := r8;clear rr8;generalize (Nm.dg D9 q.natAbs).length = l8 at *;obtain ⟨k0,k1,_⟩ := I1.out.next D.out;obtain ⟨k2,k3,_⟩ := I2.out.next D.out;obtain ⟨k4,k5,_⟩ := T8.out;have HSB : Hid (w.heap.size + 4 ≤ u2.heap.size) := Nat.le_trans Hsz.out D.out.size;have hu2g : Hid (y2.heap.size < u2.heap.size) := T8.out.lt;have Hu2 := i' hu2;clear b2 hu2 RQ;have RXu := i' (Ri.below RX.out D.out (Nat.le_refl _));have RYu := i' (Ri.below RY.out D.out (Nat.le_refl _));go_upto_region 3 with (fail);rw [← Hu2.out];clear Hu2;obtain ⟨ja,jb,jc,jd,je,jf,jg,jh,ji,jj,jk,jl⟩ := k'bu HSB.out;have jm := hu2g.out;have jn : ¬ y2.heap.size = u2.heap.size := Nat.ne_of_lt jm;have jo : ¬ u2.heap.size = y2.heap.size := Nat.ne_of_gt jm;go_cut [9] (fun s9 wx => ∃ (g9 : Nat) (p9 : Option Addr) (n9 c9 : Nat),s9 = .pointer (some ⟨g9,0,none⟩) ∧ Hid (CutO (decide (r < 0)) (.slice p9 n9 c9) (Nm.dg D9 r.natAbs) u2.heap.size u2 wx g9))
 case first =>
  rename_i J0 K0 hRJ hMK;go_region_held3 (fun W' => W'.cell? ⟨w.heap.size,0,none⟩ = some (.bool bx) ∧ W'.cell? ⟨w.heap.size,1,none⟩ = some (.slice pa la ca) ∧ W'.cell? ⟨w.heap.size + 1,0,none⟩ = some (.bool by') ∧ W'.cell? ⟨w.heap.size + 1,1,none⟩ = some (.slice pb lb cb) ∧ W'.cell? ⟨y2.heap.size,0,none⟩ = some (.bool bq) ∧ W'.cell? ⟨y2.heap.size,1,none⟩ = some (.slice p8 l8 c8)) (go_keep)
   (first
    | (go_at_call 83; (with_reducible refine (H_mul.out _ _ _ (by first | exact Ri.drew R8.out | exact Ri.allocd (Ri.drew R8.out) _ | exact Ri.drew (Ri.allocd R8.out _)) (by first | exact Ri.drew RYu.out | exact Ri.allocd (Ri.drew RYu.out) _ | exact Ri.drew (Ri.allocd RYu.out _))).mono ?_); rintro e w1 ⟨vm,rfl,rz1,bz1⟩; (try (have bz1 := k'60 bz1)); have d1 : Below u2.heap.size u2 w1 := k'4h (by first | exact Below.refl _ _ | exact (Below.refl _ _).drew | exact k'5u _ _ | exact ((Below.refl _ _).drew).alloc (Nat.le_refl _) _) bz1; have e1 : Below u2.heap.size u2 w1 := d1; have p0 := k'4i e1 k0; have p1 := k'4i e1 k1; have p2 := k'4i e1 k2; have p3 := k'4i e1 k3; have p4 := k'4i e1 k4; have p5 := k'4i e1 k5; obtain ⟨j1a,j1b,j1c,j1d,j1e,j1f,j1g,j1h,j1i,j1j,j1k,j1l⟩ := k'bu (Nat.le_trans HSB.out e1.size); have j1m := Nat.lt_of_lt_of_le hu2g.out e1.size; have j1n : ¬ y2.heap.size = w1.heap.size := Nat.ne_of_lt j1m; have j1o : ¬ w1.heap.size = y2.heap.size := Nat.ne_of_gt j1m; (try (have A0 := i' (ZC.made (g := u2.heap.size) rfl bz1); obtain ⟨A0a,A0b,A0c,A0d⟩ := A0.out)); (try (have L01 := i' (k'5x (g := u2.heap.size) rfl bz1); obtain ⟨l01x,l01y,l01z⟩ := L01.out)); have G1 := i' rz1; obtain ⟨pr1,br1,or1,cr1,rfl,rr1⟩ := rz1; clear rr1)
    | (go_at_call 117; (with_reducible refine (H_sub.out _ _ _ (by first | exact Ri.below RXu.out e1 (Nat.le_refl _) | exact Ri.allocd (Ri.below RXu.out e1 (Nat.le_refl _)) _) (by first | exact G1.out | exact Ri.allocd G1.out _)).mono ?_); rintro e w2 ⟨vs,rfl,rz2,bz2⟩; (try (have bz2 := k'60 bz2)); have d2 : Below w1.heap.size w1 w2 := k'4h (by first | exact Below.refl _ _ | exact (Below.refl _ _).drew | exact k'5u _ _ | exact ((Below.refl _ _).drew).alloc (Nat.le_refl _) _) bz2; have e2 : Below u2.heap.size u2 w2 := k'4h e1 d2; have p0 := k'4i e2 k0; have p1 := k'4i e2 k1; have p2 := k'4i e2 k2; have p3 := k'4i e2 k3; have p4 := k'4i e2 k4; have p5 := k'4i e2 k5; obtain ⟨j2a,j2b,j2c,j2d,j2e,j2f,j2g,j2h,j2i,j2j,j2k,j2l⟩ := k'bu (Nat.le_trans HSB.out e2.size); have j2m := Nat.lt_of_lt_of_le hu2g.out e2.size; have j2n : ¬ y2.heap.size = w2.heap.size := Nat.ne_of_lt j2m; have j2o : ¬ w2.heap.size = y2.heap.size := Nat.ne_of_gt j2m; (try (have A1 := i' (ZC.made (g := w1.heap.size) rfl bz2); obtain ⟨A1a,A1b,A1c,A1d⟩ := A1.out)); (try (have A0 := i' (A0.out.next d2); obtain ⟨A0a,A0b,A0c,A0d⟩ := A0.out)); (try (have L02 := i' (k'5z L01.out d2.size); obtain ⟨l02x,l02y,l02z⟩ := L02.out)); (try (have L12 := i' (k'5x (g := w1.heap.size) rfl bz2); obtain ⟨l12x,l12y,l12z⟩ := L12.out)); have G2 := i' rz2; obtain ⟨pr2,br2,or2,cr2,rfl,rr2⟩ := rz2; clear rr2)
    | fail)
  all_goals
   refine hMK _ _ (Met.intro (hRJ _ _ ?_))
   (repeat apply Exists.intro)
   refine ⟨?_,rfl⟩;refine ⟨_,pr2,(Nm.dg D9 r.natAbs).length,cr2,rfl,?_⟩;show CutO _ (.slice pr2 _ cr2) _ u2.heap.size u2 _ _;have sA0 : u2.heap.size ≤ u2.heap.size := Nat.le_refl _;have sA1 : u2.heap.size ≤ w1.heap.size := e1.size;have sA2 : u2.heap.size ≤ w2.heap.size := e2.size
   first
    | with_reducible exact CutO.k1 G2.out e2 sA2
    | with_reducible exact CutO.k2 A0.out sA0 G2.out e2
    | with_reducible exact CutO.k2 A1.out sA1 G2.out e2
    | fail
 obtain ⟨g9,p9,n9,c9,rfl,hcut⟩ := hcut;obtain ⟨hg9,t9,r9,b9⟩ := hcut.out;have D := i' (k'4h D.out b9);have T8 := i' (T8.out.next b9);have R8 := i' (Ri.below R8.out b9 (Nat.le_refl _));have T9 := i' t9;have R9 := i' r9;have hg9' : Hid (w.heap.size + 4 ≤ g9) := Nat.le_trans HSB.out hg9;have hg9w : Hid (w0.heap.size ≤ g9) := Nat.le_trans hw8.out (Nat.le_of_lt (Nat.lt_of_lt_of_le hu2g.out hg9));have hg89 : Hid (y2.heap.size < g9) := Nat.lt_of_lt_of_le hu2g.out hg9;obtain ⟨k0,k1,_⟩ := T9.out;clear hcut hg9 t9 r9 b9 ja jb jc jd je jf jg jh ji jj jk jl jm jn jo k2 k3 k4 k5;obtain ⟨br,hbr⟩ : ∃ b,decide (r < 0) = b := ⟨_,rfl⟩;rw [hbr] at T9 k0 H_sgn;go_wp2_with fail;refine (H_sgn.out _ _ R9.out).mono ?_;rintro e y3 ⟨rfl,b3⟩;have D := i' (k'4h D.out b3);have T8 := i' (T8.out.next b3);have R8 := i' (Ri.below R8.out b3 (Nat.le_refl _));have T9 := i' (T9.out.next b3);have R9 := i' (Ri.below R9.out b3 (Nat.le_refl _));clear b3 k0 k1;obtain ⟨k2,k3,_⟩ := I2.out.next D.out;have HRRn := i' hbr;clear hbr hbq;go_wp2_with fail;refine (H_sgy.out _ _ (Ri.below RY.out D.out (Nat.le_refl _))).mono ?_;rintro e y4 ⟨rfl,b4⟩;have D := i' (k'4h D.out b4);have T8 := i' (T8.out.next b4);have R8 := i' (Ri.below R8.out b4 (Nat.le_refl _));have T9 := i' (T9.out.next b4);clear b4 k2 k3 R9;obtain ⟨k4,k5,k6,k7⟩ := T8.out;have R8d := i' (Ri.drew R8.out);go_upto_region 6 with (fail);go_cut [38] (fun _ wx => ∃ (p : Option Addr) (n c : Nat),Hid (ZC (.bool bq1) (.slice p n c) wx y2.heap.size) ∧ Hid (Rz wx (.slice p n c) q1) ∧ Hid (ZC (.bool br) (.slice p9 n9 c9) wx g9) ∧ Hid (Below w0.heap.size w0 wx))
 case first =>
  rename_i J0 K0 hRJ hMK;go_region_with
   (first
    | (go_at_call 74; (with_reducible refine (H_n1.out _).mono ?_); rintro e z1 ⟨v1,rfl,r1,b1⟩; have d1 := k'4h ((Below.refl y4.heap.size y4).drew) b1; have p4 := k'4i d1 k4; have p5 := k'4i d1 k5; have G1 := i' (And.intro (Ri.below R8d.out b1 (Nat.le_refl _)) r1); have D1 := i' d1; obtain ⟨pq1,bb1,oo1,cc1,rfl,rr1⟩ := r1; clear rr1 b1)
    | (go_at_call 117; (with_reducible refine (H_adj.out _ _ _ G1.out.1 G1.out.2).mono ?_); rintro e z2 ⟨v2,rfl,r2,b2⟩; have d2 := k'4h D1.out b2; have p4 := k'4i d2 k4; have p5 := k'4i d2 k5; have p6 := k'4j d2 k4 k6; have p7 := k'4j d2 k5 k7; have G2 := i' r2; have D2 := i' d2; obtain ⟨pq2,bb2,oo2,cq2,rfl,rr2⟩ := r2; clear rr2 b2)
    | fail)
  all_goals
   have ZZ := i' (T8.out.next D2.out);refine hMK _ _ (Met.intro (hRJ _ _ ?_))
   (repeat apply Exists.intro)
   refine ⟨?_,rfl⟩;exact ⟨pq2,_,cq2,ZZ.out.set,G2.out.setq ZZ.out _ _,(T9.out.next D2.out).other (Nat.ne_of_gt hg89.out),k'61 (k'4h D.out D2.out) (by have := hy2.out; have := Hsz.out; have := hw8.out; omega) _ _⟩
 obtain ⟨p8',n8',c8',T8,R8,T9,D⟩ := hcut;clear k4 k5 k6 k7 R8d;have R8d := i' (Ri.drew R8.out);have RXu := i' (Ri.below RX.out D.out (Nat.le_refl _));have RYd := i' (Ri.drew (Ri.below RY.out D.out (Nat.le_refl _)));obtain ⟨k0,k1,_⟩ := I1.out.next D.out;obtain ⟨k2,k3,_⟩ := I2.out.next D.out;obtain ⟨k4,k5,_⟩ := T8.out;obtain ⟨k6,k7,k8,k9⟩ := T9.out;obtain ⟨y5,hy5⟩ : ∃ y5 : World,y5 = wc := ⟨_,rfl⟩;subst hy5;go_upto_region 8 with (fail);go_cut [46] (fun _ wx => ∃ (p : Option Addr) (n c : Nat),Hid (ZC (.bool br1) (.slice p n c) wx g9) ∧ Hid (Rz wx (.slice p n c) r1) ∧ Hid (ZC (.bool bq1) (.slice p8' n8' c8') wx y2.heap.size) ∧ Hid (Rz wx (.slice p8' n8' c8') q1) ∧ Hid (Below w0.heap.size w0 wx))
 case first =>
  rename_i J0 K0 hRJ hMK;go_region_with
   (first
    | (go_at_call 83; (with_reducible refine (H_mul2.out _ _ _ R8d.out RYd.out).mono ?_); rintro e z1 ⟨v1,rfl,rz1,b1⟩; have d1 := k'4h ((Below.refl y5.heap.size y5).drew) b1; have q0 := k'4i d1 k0; have q1 := k'4i d1 k1; have q2 := k'4i d1 k2; have q3 := k'4i d1 k3; have q4 := k'4i d1 k4; have q5 := k'4i d1 k5; have q6 := k'4i d1 k6; have q7 := k'4i d1 k7; have G1 := i' (And.intro (Ri.below RXu.out d1 (Nat.le_refl _)) rz1); have D1 := i' d1; obtain ⟨pq1,bb1,oo1,cc1,rfl,rr1⟩ := rz1; clear rr1 b1)
    | (go_at_call 117; (with_reducible refine (H_sub2.out _ _ _ G1.out.1 G1.out.2).mono ?_); rintro e z2 ⟨v2,rfl,rz2,b2⟩; have d2 := k'4h D1.out b2; have q0 := k'4i d2 k0; have q1 := k'4i d2 k1; have q2 := k'4i d2 k2; have q3 := k'4i d2 k3; have q4 := k'4i d2 k4; have q5 := k'4i d2 k5; have q6 := k'4i d2 k6; have q7 := k'4i d2 k7; have p8 := k'4j d2 k6 k8; have p9' := k'4j d2 k7 k9; have G2 := i' rz2; have D2 := i' d2; obtain ⟨pq2,bb2,oo2,cq2,rfl,rr2⟩ := rz2; clear rr2 b2)
    | fail)
  all_goals
   have ZZ := i' (T9.out.next D2.out);refine hMK _ _ (Met.intro (hRJ _ _ ?_))
   (repeat apply Exists.intro)
   refine ⟨?_,rfl⟩;exact ⟨pq2,_,cq2,ZZ.out.set,G2.out.setq ZZ.out _ _,(T8.out.next D2.out).other (Nat.ne_of_lt hg89.out),(Ri.below R8.out D2.out (Nat.le_refl _)).setq ZZ.out _ _,k'61 (k'4h D.out D2.out) (by have := hg9w.out; omega) _ _⟩
 obtain ⟨p9',n9',c9',T9,R9,T8,R8,D⟩ := hcut;clear k0 k1 k2 k3 k4 k5 k6 k7 k8 k9 R8d RXu RYd;obtain ⟨f0,f1,f2,f3⟩ := T8.out;obtain ⟨f4,f5,f6,f7⟩ := T9.out;obtain ⟨m0,m1,m2,m3⟩ := I3.out.next D.out;obtain ⟨n0,n1,n2,n3⟩ := I4.out.next D.out;obtain ⟨ja,jb,jc,jd,je,jf,jg,jh,_⟩ := k'bu hy2.out;obtain ⟨qa,qb,qc,qd,qe,qf,qg,qh,_⟩ := k'bu hg9'.out;have i5 := (I4.out.next D.out).other (g2 := w.heap.size + 1 + 1) (u := .bool bq1) (v := (.slice p8' n8' c8')) (by omega)
 have HZ := i' ((k'61 (k'61 (k'4h hb0.out D.out) (g := w.heap.size + 1 + 1) (by omega) (.bool bq1) (.slice p8' n8' c8')) (g := w.heap.size + 1 + 1 + 1) (by omega) (.bool br1) (.slice p9' n9' c9')).drew)
 have RQf := i' (Ri.drew ((R8.out.setq (I3.out.next D.out) (.bool bq1) (.slice p8' n8' c8')).setq i5 (.bool br1) (.slice p9' n9' c9')));have RRf := i' (Ri.drew ((R9.out.setq (I3.out.next D.out) (.bool bq1) (.slice p8' n8' c8')).setq i5 (.bool br1) (.slice p9' n9' c9')));clear i5;go_wp2_with fail;go_region
 go_wp2;exact bodyPost_ret (v := .tuple #[.agg #[.bool bq1,(.slice p8' n8' c8')],.agg #[.bool br1,(.slice p9' n9' c9')]]) (by simp [results,Tryz.results98,go_sem,m0,m1,n0,n1]) rfl ⟨_,_,by rw [HQQ.out,HRR.out],RQf.out,RRf.out,HZ.out⟩
theorem k'bx (x y : Int) (v1 v2 : Value) (w : World) (k : Nat) (hk : k ≤ 90000) (hx : x.natAbs < D9 ^ k) (hy : y.natAbs < D9 ^ k) (h1 : Rz w v1 x) (h2 : Rz w v2 y) (hs : y < 0) (hr : x - q0 x y * y < 0) :
 Calls Tryz.prog 98 #[iV x v1,iV y v2] w (QIPost (q0 x y + 1) (x - (q0 x y + 1) * y) w) := by
 have lx := k'bq hx;have ly := k'bq hy;have H_over := i' (fun v1 v2 w g1 g2 => k'7w v1 v2 x.natAbs y.natAbs w (by omega) g1 g2 (by omega) (by omega))
 have H_made := i' (fun v w g => (k'7k (decide (x < 0) != decide (y < 0)) v (x.natAbs / y.natAbs) w g).mono (k'83 (z := q0 x y) rfl));have lq := Nat.le_trans (k'bq (Nat.lt_of_le_of_lt (k'br x y) hx)) (by omega : k ≤ 1000000)
 have lqy := Nat.le_trans (k'bq (Nat.lt_of_le_of_lt (k'bs x y) hx)) (by omega : k ≤ 1000000)
 have H_mul := i' (fun v1 v2 w g1 g2 => k'86 (q0 x y) y v1 v2 w g1 g2 lq (by omega))
 have H_sub := i' (fun v1 v2 w g1 g2 => k'88 x (q0 x y * y) v1 v2 w g1 g2 (by omega) lqy)
 have H_sgn := i' (fun v w g => k'85 (x - q0 x y * y) v w g);have H_sgy := i' (fun v w g => k'85 y v w g);rw [Int.sign_eq_neg_one_of_neg hs] at H_sgy;rw [Int.sign_eq_neg_one_of_neg hr] at H_sgn;obtain ⟨zi,hzi⟩ : ∃ z : Int,z = 1 := ⟨_,rfl⟩;have H_n1 : Hid (∀ w,Calls Tryz.prog 74 #[.int .i64 1] w (IntPost zi w)) := by rw [hzi]; exact fun w => k'9c 1 w (by decide) (by decide)
 have H_adj0 : ∀ z : Int,z = 1 → ∀ v1 v2 w,Rz w v1 (q0 x y) → Rz w v2 z → Calls Tryz.prog 82 #[iV (q0 x y) v1,iV z v2] w (IntPost (q0 x y + 1) w) := by
  intro z hz v1 v2 w g1 g2;subst hz;exact k'87 (q0 x y) 1 v1 v2 w g1 g2 lq (Nat.le_trans (k'bq (k := 3) (by decide)) (by decide))
 have H_adj := i' (H_adj0 zi hzi);clear H_adj0;have lq1 : (Nm.dg D9 (q0 x y + 1).natAbs).length ≤ 1000000 := by
  have a1 := k'br x y;refine Nat.le_trans (k'bq (k := k + 1) (k'bt ?_)) (by omega)
  have : 0 < D9 ^ k := Nat.pow_pos D90;omega
 have lqy1 : (Nm.dg D9 ((q0 x y + 1) * y).natAbs).length ≤ 1000000 := by
  have a1 := k'bs x y;rw [Int.add_mul,Int.one_mul];refine Nat.le_trans (k'bq (k := k + 1) (k'bt ?_)) (by omega)
  omega
 have H_mul2 := i' (fun v1 v2 w g1 g2 => k'86 (q0 x y + 1) y v1 v2 w g1 g2 lq1 (by omega))
 have H_sub2 := i' (fun v1 v2 w g1 g2 => k'88 x ((q0 x y + 1) * y) v1 v2 w g1 g2 (by omega) lqy1)
 clear hzi lq1 lqy1;obtain ⟨sb,hsb⟩ : ∃ sb,(decide (x < 0) != decide (y < 0)) = sb := ⟨_,rfl⟩;rw [hsb] at H_made;have HX := i' h1;have HY := i' h2;clear lq lqy lx ly hx hy hk hr;clear hs;unfold IntPost iV at H_made H_mul H_sub H_adj H_mul2 H_sub2;unfold IntPost at H_n1;unfold iV at H_n1;unfold iV at H_sgn;unfold iV at H_sgy;unfold SignPost at H_sgn H_sgy;unfold OverPost at H_over;unfold QIPost iV;generalize x.natAbs / y.natAbs = dd at *;generalize x.natAbs % y.natAbs = de at *;obtain ⟨bx,hbx⟩ : ∃ b,decide (x < 0) = b := ⟨_,rfl⟩;obtain ⟨by',hby⟩ : ∃ b,decide (y < 0) = b := ⟨_,rfl⟩
 rw [hbx,hby] at hsb;have hsb2 : (!(bx == by')) = sb := hsb
 rw [hby] at H_mul H_mul2 H_sgy;rw [hbx] at H_sub H_sub2 ⊢;rw [hby];clear hbx hby hsb;generalize hr1 : x - (q0 x y + 1) * y = r1 at *;generalize (q0 x y + 1) * y = q1y at *;generalize hq1 : q0 x y + 1 = q1 at *;clear hr1 hq1;generalize x - q0 x y * y = r at *;generalize q0 x y * y = qy at *;generalize q0 x y = q at *;generalize decide (qy < 0) = bqy at *;generalize decide (q1y < 0) = bq1y at *;generalize decide (zi < 0) = bzi at *;obtain ⟨bq1,hbq1⟩ : ∃ b,decide (q1 < 0) = b := ⟨_,rfl⟩;obtain ⟨br1,hbr1⟩ : ∃ b,decide (r1 < 0) = b := ⟨_,rfl⟩;rw [hbq1] at H_adj H_mul2;rw [hbr1] at H_sub2;have HQQ := i' hbq1;have HRR := i' hbr1;clear hbq1 hbr1;obtain ⟨bq,hbq⟩ : ∃ b,decide (q < 0) = b := ⟨_,rfl⟩;rw [hbq] at H_made H_mul H_adj;obtain ⟨pa,ba,oa,ca,rfl,hra⟩ := h1;obtain ⟨pb,bb,ob,cb,rfl,hrb⟩ := h2;clear hra hrb;generalize (Nm.dg D9 x.natAbs).length = la at *;generalize (Nm.dg D9 y.natAbs).length = lb at *;obtain ⟨w0,hw0⟩ : ∃ w0 : World,w0 = (((w.alloc (.cells #[.bool bx,.slice pa la ca] 52)).alloc (.cells #[.bool by',.slice pb lb cb] 52)).alloc (.cells #[.bool false,.slice none 0 0] 52)).alloc (.cells #[.bool false,.slice none 0 0] 52) := ⟨_,rfl⟩
 have hb0 : Hid (Below w.heap.size w w0) := by rw [hw0]; exact ((((Below.refl _ _).alloc (Nat.le_refl _) _).alloc (by simp) _).alloc (by simp; omega) _).alloc (by simp; omega) _
 have I1 : Hid (ZC (.bool bx) (.slice pa la ca) w0 w.heap.size) := by rw [hw0]; exact (((ZC.new rfl).alloc _).alloc _).alloc _
 have I2 : Hid (ZC (.bool by') (.slice pb lb cb) w0 (w.heap.size + 1)) := by rw [hw0]; exact ((ZC.new (by simp)).alloc _).alloc _
 have I3 : Hid (ZC (.bool false) (.slice none 0 0) w0 (w.heap.size + 1 + 1)) := by rw [hw0]; exact (ZC.new (by simp)).alloc _
 have I4 : Hid (ZC (.bool false) (.slice none 0 0) w0 (w.heap.size + 1 + 1 + 1)) := by rw [hw0]; exact ZC.new (by simp)
 have Hsz : Hid (w.heap.size + 4 ≤ w0.heap.size) := by rw [hw0]; show _ ≤ _; simp
 have RX := i' (Ri.below HX.out hb0.out (Nat.le_refl _));have RY := i' (Ri.below HY.out hb0.out (Nat.le_refl _));have Hw0 := i' hw0;clear hw0 HX HY;go_enter Tryz.func98,Tryz.ntmps98;go_wp2_with fail;rw [← Hw0.out];clear Hw0;refine (H_over.out _ _ _ RX.out RY.out).mono ?_;rintro e y1 ⟨vq,vr,rfl,rq,rr,b1⟩;have D := i' b1;obtain ⟨k0,k1,_⟩ := I1.out.next D.out;obtain ⟨k2,k3,_⟩ := I2.out.next D.out;have RQ := i' rq;obtain ⟨pq,bq',oq,cq,rfl,hrq⟩ := rq;clear b1 rr hrq;go_wp2_with fail;refine (H_made.out _ _ RQ.out).mono ?_;rintro e y2 ⟨v8,rfl,r8,b2⟩;have D := i' (k'4h D.out b2);obtain ⟨u2,hu2⟩ : ∃ u : World,u = y2.alloc (.cells #[.bool bq,v8] 52) := ⟨_,rfl⟩;have R8 : Hid (Rz u2 v8 q) := by rw [hu2]; exact Ri.allocd r8 _
 have T8 : Hid (ZC (.bool bq) v8 u2 y2.heap.size) := by rw [hu2]; exact ZC.new rfl
 have hw8 : Hid (w0.heap.size ≤ y2.heap.size) := D.out.size;have hy2 : Hid (w.heap.size + 4 ≤ y2.heap.size) := Nat.le_trans Hsz.out D.out.size;have D : Hid (Below w0.heap.size w0 u2) := by rw [hu2]; exact D.out.alloc D.out.size _
 obtain ⟨p8,bb8,o8,c8,rfl,rr8⟩ := r8;clear rr8;generalize (Nm.dg D9 q.natAbs).length = l8 at *;obtain ⟨k0,k1,_⟩ := I1.out.next D.out;obtain ⟨k2,k3,_⟩ := I2.out.next D.out;obtain ⟨k4,k5,_⟩ := T8.out;have HSB : Hid (w.heap.size + 4 ≤ u2.heap.size) := Nat.le_trans Hsz.out D.out.size;have hu2g : Hid (y2.heap.size < u2.heap.size) := T8.out.lt;have Hu2 := i' hu2;clear b2 hu2 RQ;have RXu := i' (Ri.below RX.out D.out (Nat.le_refl _));have RYu := i' (Ri.below RY.out D.out (Nat.le_refl _));go_upto_region 3 with (fail);rw [← Hu2.out];clear Hu2;obtain ⟨ja,jb,jc,jd,je,jf,jg,jh,ji,jj,jk,jl⟩ := k'bu HSB.out;have jm := hu2g.out;have jn : ¬ y2.heap.size = u2.heap.size := Nat.ne_of_lt jm;have jo : ¬ u2.heap.size = y2.heap.size := Nat.ne_of_gt jm;go_cut [9] (fun s9 wx => ∃ (g9 : Nat) (p9 : Option Addr) (n9 c9 : Nat),s9 = .pointer (some ⟨g9,0,none⟩) ∧ Hid (CutO (decide (r < 0)) (.slice p9 n9 c9) (Nm.dg D9 r.natAbs) u2.heap.size u2 wx g9))
 case first =>
  rename_i J0 K0 hRJ hMK;go_region_held3 (fun W' => W'.cell? ⟨w.heap.size,0,none⟩ = some (.bool bx) ∧ W'.cell? ⟨w.heap.size,1,none⟩ = some (.slice pa la ca) ∧ W'.cell? ⟨w.heap.size + 1,0,none⟩ = some (.bool by') ∧ W'.cell? ⟨w.heap.size + 1,1,none⟩ = some (.slice pb lb cb) ∧ W'.cell? ⟨y2.heap.size,0,none⟩ = some (.bool bq) ∧ W'.cell? ⟨y2.heap.size,1,none⟩ = some (.slice p8 l8 c8)) (go_keep)
   (first
    | (go_at_call 83; (with_reducible refine (H_mul.out _ _ _ (by first | exact Ri.drew R8.out | exact Ri.allocd (Ri.drew R8.out) _ | exact Ri.drew (Ri.allocd R8.out _)) (by first | exact Ri.drew RYu.out | exact Ri.allocd (Ri.drew RYu.out) _ | exact Ri.drew (Ri.allocd RYu.out _))).mono ?_); rintro e w1 ⟨vm,rfl,rz1,bz1⟩; (try (have bz1 := k'60 bz1)); have d1 : Below u2.heap.size u2 w1 := k'4h (by first | exact Below.refl _ _ | exact (Below.refl _ _).drew | exact k'5u _ _ | exact ((Below.refl _ _).drew).alloc (Nat.le_refl _) _) bz1; have e1 : Below u2.heap.size u2 w1 := d1; have p0 := k'4i e1 k0; have p1 := k'4i e1 k1; have p2 := k'4i e1 k2; have p3 := k'4i e1 k3; have p4 := k'4i e1 k4; have p5 := k'4i e1 k5; obtain ⟨j1a,j1b,j1c,j1d,j1e,j1f,j1g,j1h,j1i,j1j,j1k,j1l⟩ := k'bu (Nat.le_trans HSB.out e1.size); have j1m := Nat.lt_of_lt_of_le hu2g.out e1.size; have j1n : ¬ y2.heap.size = w1.heap.size := Nat.ne_of_lt j1m; have j1o : ¬ w1.heap.size = y2.heap.size := Nat.ne_of_gt j1m; (try (have A0 := i' (ZC.made (g := u2.heap.size) rfl bz1); obtain ⟨A0a,A0b,A0c,A0d⟩ := A0.out)); (try (have L01 := i' (k'5x (g := u2.heap.size) rfl bz1); obtain ⟨l01x,l01y,l01z⟩ := L01.out)); have G1 := i' rz1; obtain ⟨pr1,br1,or1,cr1,rfl,rr1⟩ := rz1; clear rr1)
    | (go_at_call 117; (with_reducible refine (H_sub.out _ _ _ (by first | exact Ri.below RXu.out e1 (Nat.le_refl _) | exact Ri.allocd (Ri.below RXu.out e1 (Nat.le_refl _)) _) (by first | exact G1.out | exact Ri.allocd G1.out _)).mono ?_); rintro e w2 ⟨vs,rfl,rz2,bz2⟩; (try (have bz2 := k'60 bz2)); have d2 : Below w1.heap.size w1 w2 := k'4h (by first | exact Below.refl _ _ | exact (Below.refl _ _).drew | exact k'5u _ _ | exact ((Below.refl _ _).drew).alloc (Nat.le_refl _) _) bz2; have e2 : Below u2.heap.size u2 w2 := k'4h e1 d2; have p0 := k'4i e2 k0; have p1 := k'4i e2 k1; have p2 := k'4i e2 k2; have p3 := k'4i e2 k3; have p4 := k'4i e2 k4; have p5 := k'4i e2 k5; obtain ⟨j2a,j2b,j2c,j2d,j2e,j2f,j2g,j2h,j2i,j2j,j2k,j2l⟩ := k'bu (Nat.le_trans HSB.out e2.size); have j2m := Nat.lt_of_lt_of_le hu2g.out e2.size; have j2n : ¬ y2.heap.size = w2.heap.size := Nat.ne_of_lt j2m; have j2o : ¬ w2.heap.size = y2.heap.size := Nat.ne_of_gt j2m; (try (have A1 := i' (ZC.made (g := w1.heap.size) rfl bz2); obtain ⟨A1a,A1b,A1c,A1d⟩ := A1.out)); (try (have A0 := i' (A0.out.next d2); obtain ⟨A0a,A0b,A0c,A0d⟩ := A0.out)); (try (have L02 := i' (k'5z L01.out d2.size); obtain ⟨l02x,l02y,l02z⟩ := L02.out)); (try (have L12 := i' (k'5x (g := w1.heap.size) rfl bz2); obtain ⟨l12x,l12y,l12z⟩ := L12.out)); have G2 := i' rz2; obtain ⟨pr2,br2,or2,cr2,rfl,rr2⟩ := rz2; clear rr2)
    | fail)
  all_goals
   refine hMK _ _ (Met.intro (hRJ _ _ ?_))
   (repeat apply Exists.intro)
   refine ⟨?_,rfl⟩;refine ⟨_,pr2,(Nm.dg D9 r.natAbs).length,cr2,rfl,?_⟩;show CutO _ (.slice pr2 _ cr2) _ u2.heap.size u2 _ _;have sA0 : u2.heap.size ≤ u2.heap.size := Nat.le_refl _;have sA1 : u2.heap.size ≤ w1.heap.size := e1.size;have sA2 : u2.heap.size ≤ w2.heap.size := e2.size
   first
    | with_reducible exact CutO.k1 G2.out e2 sA2
    | with_reducible exact CutO.k2 A0.out sA0 G2.out e2
    | with_reducible exact CutO.k2 A1.out sA1 G2.out e2
    | fail
 obtain ⟨g9,p9,n9,c9,rfl,hcut⟩ := hcut;obtain ⟨hg9,t9,r9,b9⟩ := hcut.out;have D := i' (k'4h D.out b9);have T8 := i' (T8.out.next b9);have R8 := i' (Ri.below R8.out b9 (Nat.le_refl _));have T9 := i' t9;have R9 := i' r9;have hg9' : Hid (w.heap.size + 4 ≤ g9) := Nat.le_trans HSB.out hg9;have hg9w : Hid (w0.heap.size ≤ g9) := Nat.le_trans hw8.out (Nat.le_of_lt (Nat.lt_of_lt_of_le hu2g.out hg9));have hg89 : Hid (y2.heap.size < g9) := Nat.lt_of_lt_of_le hu2g.out hg9;obtain ⟨k0,k1,_⟩ := T9.out;clear hcut hg9 t9 r9 b9 ja jb jc jd je jf jg jh ji jj jk jl jm jn jo k2 k3 k4 k5;obtain ⟨br,hbr⟩ : ∃ b,decide (r < 0) = b := ⟨_,rfl⟩;rw [hbr] at T9 k0 H_sgn;go_wp2_with fail;refine (H_sgn.out _ _ R9.out).mono ?_;rintro e y3 ⟨rfl,b3⟩;have D := i' (k'4h D.out b3);have T8 := i' (T8.out.next b3);have R8 := i' (Ri.below R8.out b3 (Nat.le_refl _));have T9 := i' (T9.out.next b3);have R9 := i' (Ri.below R9.out b3 (Nat.le_refl _));clear b3 k0 k1;obtain ⟨k2,k3,_⟩ := I2.out.next D.out;have HRRn := i' hbr;clear hbr hbq;go_wp2_with fail;refine (H_sgy.out _ _ (Ri.below RY.out D.out (Nat.le_refl _))).mono ?_;rintro e y4 ⟨rfl,b4⟩;have D := i' (k'4h D.out b4);have T8 := i' (T8.out.next b4);have R8 := i' (Ri.below R8.out b4 (Nat.le_refl _));have T9 := i' (T9.out.next b4);clear b4 k2 k3 R9;obtain ⟨k4,k5,k6,k7⟩ := T8.out;have R8d := i' (Ri.drew R8.out);go_upto_region 7 with (fail);go_cut [41] (fun _ wx => ∃ (p : Option Addr) (n c : Nat),Hid (ZC (.bool bq1) (.slice p n c) wx y2.heap.size) ∧ Hid (Rz wx (.slice p n c) q1) ∧ Hid (ZC (.bool br) (.slice p9 n9 c9) wx g9) ∧ Hid (Below w0.heap.size w0 wx))
 case first =>
  rename_i J0 K0 hRJ hMK;go_region_with
   (first
    | (go_at_call 74; (with_reducible refine (H_n1.out _).mono ?_); rintro e z1 ⟨v1,rfl,r1,b1⟩; have d1 := k'4h ((Below.refl y4.heap.size y4).drew) b1; have p4 := k'4i d1 k4; have p5 := k'4i d1 k5; have G1 := i' (And.intro (Ri.below R8d.out b1 (Nat.le_refl _)) r1); have D1 := i' d1; obtain ⟨pq1,bb1,oo1,cc1,rfl,rr1⟩ := r1; clear rr1 b1)
    | (go_at_call 82; (with_reducible refine (H_adj.out _ _ _ G1.out.1 G1.out.2).mono ?_); rintro e z2 ⟨v2,rfl,r2,b2⟩; have d2 := k'4h D1.out b2; have p4 := k'4i d2 k4; have p5 := k'4i d2 k5; have p6 := k'4j d2 k4 k6; have p7 := k'4j d2 k5 k7; have G2 := i' r2; have D2 := i' d2; obtain ⟨pq2,bb2,oo2,cq2,rfl,rr2⟩ := r2; clear rr2 b2)
    | fail)
  all_goals
   have ZZ := i' (T8.out.next D2.out);refine hMK _ _ (Met.intro (hRJ _ _ ?_))
   (repeat apply Exists.intro)
   refine ⟨?_,rfl⟩;exact ⟨pq2,_,cq2,ZZ.out.set,G2.out.setq ZZ.out _ _,(T9.out.next D2.out).other (Nat.ne_of_gt hg89.out),k'61 (k'4h D.out D2.out) (by have := hy2.out; have := Hsz.out; have := hw8.out; omega) _ _⟩
 obtain ⟨p8',n8',c8',T8,R8,T9,D⟩ := hcut;clear k4 k5 k6 k7 R8d;have R8d := i' (Ri.drew R8.out);have RXu := i' (Ri.below RX.out D.out (Nat.le_refl _));have RYd := i' (Ri.drew (Ri.below RY.out D.out (Nat.le_refl _)));obtain ⟨k0,k1,_⟩ := I1.out.next D.out;obtain ⟨k2,k3,_⟩ := I2.out.next D.out;obtain ⟨k4,k5,_⟩ := T8.out;obtain ⟨k6,k7,k8,k9⟩ := T9.out;obtain ⟨y5,hy5⟩ : ∃ y5 : World,y5 = wc := ⟨_,rfl⟩;subst hy5;go_upto_region 8 with (fail);go_cut [46] (fun _ wx => ∃ (p : Option Addr) (n c : Nat),Hid (ZC (.bool br1) (.slice p n c) wx g9) ∧ Hid (Rz wx (.slice p n c) r1) ∧ Hid (ZC (.bool bq1) (.slice p8' n8' c8') wx y2.heap.size) ∧ Hid (Rz wx (.slice p8' n8' c8') q1) ∧ Hid (Below w0.heap.size w0 wx))
 case first =>
  rename_i J0 K0 hRJ hMK;go_region_with
   (first
    | (go_at_call 83; (with_reducible refine (H_mul2.out _ _ _ R8d.out RYd.out).mono ?_); rintro e z1 ⟨v1,rfl,rz1,b1⟩; have d1 := k'4h ((Below.refl y5.heap.size y5).drew) b1; have q0 := k'4i d1 k0; have q1 := k'4i d1 k1; have q2 := k'4i d1 k2; have q3 := k'4i d1 k3; have q4 := k'4i d1 k4; have q5 := k'4i d1 k5; have q6 := k'4i d1 k6; have q7 := k'4i d1 k7; have G1 := i' (And.intro (Ri.below RXu.out d1 (Nat.le_refl _)) rz1); have D1 := i' d1; obtain ⟨pq1,bb1,oo1,cc1,rfl,rr1⟩ := rz1; clear rr1 b1)
    | (go_at_call 117; (with_reducible refine (H_sub2.out _ _ _ G1.out.1 G1.out.2).mono ?_); rintro e z2 ⟨v2,rfl,rz2,b2⟩; have d2 := k'4h D1.out b2; have q0 := k'4i d2 k0; have q1 := k'4i d2 k1; have q2 := k'4i d2 k2; have q3 := k'4i d2 k3; have q4 := k'4i d2 k4; have q5 := k'4i d2 k5; have q6 := k'4i d2 k6; have q7 := k'4i d2 k7; have p8 := k'4j d2 k6 k8; have p9' := k'4j d2 k7 k9; have G2 := i' rz2; have D2 := i' d2; obtain ⟨pq2,bb2,oo2,cq2,rfl,rr2⟩ := rz2; clear rr2 b2)
    | fail)
  all_goals
   have ZZ := i' (T9.out.next D2.out);refine hMK _ _ (Met.intro (hRJ _ _ ?_))
   (repeat apply Exists.intro)
   refine ⟨?_,rfl⟩;exact ⟨pq2,_,cq2,ZZ.out.set,G2.out.setq ZZ.out _ _,(T8.out.next D2.out).other (Nat.ne_of_lt hg89.out),(Ri.below R8.out D2.out (Nat.le_refl _)).setq ZZ.out _ _,k'61 (k'4h D.out D2.out) (by have := hg9w.out; omega) _ _⟩
 obtain ⟨p9',n9',c9',T9,R9,T8,R8,D⟩ := hcut;clear k0 k1 k2 k3 k4 k5 k6 k7 k8 k9 R8d RXu RYd;obtain ⟨f0,f1,f2,f3⟩ := T8.out;obtain ⟨f4,f5,f6,f7⟩ := T9.out;obtain ⟨m0,m1,m2,m3⟩ := I3.out.next D.out;obtain ⟨n0,n1,n2,n3⟩ := I4.out.next D.out;obtain ⟨ja,jb,jc,jd,je,jf,jg,jh,_⟩ := k'bu hy2.out;obtain ⟨qa,qb,qc,qd,qe,qf,qg,qh,_⟩ := k'bu hg9'.out;have i5 := (I4.out.next D.out).other (g2 := w.heap.size + 1 + 1) (u := .bool bq1) (v := (.slice p8' n8' c8')) (by omega)
 have HZ := i' ((k'61 (k'61 (k'4h hb0.out D.out) (g := w.heap.size + 1 + 1) (by omega) (.bool bq1) (.slice p8' n8' c8')) (g := w.heap.size + 1 + 1 + 1) (by omega) (.bool br1) (.slice p9' n9' c9')).drew)
 have RQf := i' (Ri.drew ((R8.out.setq (I3.out.next D.out) (.bool bq1) (.slice p8' n8' c8')).setq i5 (.bool br1) (.slice p9' n9' c9')));have RRf := i' (Ri.drew ((R9.out.setq (I3.out.next D.out) (.bool bq1) (.slice p8' n8' c8')).setq i5 (.bool br1) (.slice p9' n9' c9')));clear i5;go_wp2_with fail;go_region
 go_wp2;exact bodyPost_ret (v := .tuple #[.agg #[.bool bq1,(.slice p8' n8' c8')],.agg #[.bool br1,(.slice p9' n9' c9')]]) (by simp [results,Tryz.results98,go_sem,m0,m1,n0,n1]) rfl ⟨_,_,by rw [HQQ.out,HRR.out],RQf.out,RRf.out,HZ.out⟩
theorem k'by (x y : Int) (v1 v2 : Value) (w : World) (k : Nat) (hk : k ≤ 90000) (hx : x.natAbs < D9 ^ k) (hy : y.natAbs < D9 ^ k) (h1 : Rz w v1 x) (h2 : Rz w v2 y) (hy0 : y ≠ 0) :
 Calls Tryz.prog 98 #[iV x v1,iV y v2] w (QIPost (x / y) (x % y) w) := by
 rcases Int.lt_or_le (x - q0 x y * y) 0 with hr | hr
 ·rcases Int.lt_or_gt_of_ne hy0 with hs | hs
  ·have h := k'bx x y v1 v2 w k hk hx hy h1 h2 hs hr
   obtain ⟨e1,e2⟩ := k'bp hs hr;rwa [e2,e1] at h
  ·have h := k'bw x y v1 v2 w k hk hx hy h1 h2 hs hr
   obtain ⟨e1,e2⟩ := k'bo hs hr;rwa [e2,e1] at h
 ·have h := k'bv x y v1 v2 w k hk hx hy h1 h2 hy0 hr
  obtain ⟨e1,e2⟩ := k'bn hy0 hr;rwa [e2,e1] at h
def gs (h m f s : Nat) : Nat := if f ≤ h then W - 1 else if (h * W + m) % f < (h * W + m) / f * s / W then (h * W + m) / f - 1 else (h * W + m) / f
theorem k'c3 {B H U V h m l f s u v : Nat} (hU : U = ((h * B + m) * B + l) * H + u) (hV : V = (f * B + s) * H + v) (hu : u < H) (hv : v < H) (hl : l < B) (hm : m < B) (hs : s < B) (hf : B ≤ 2 * f) (hB : 4 ≤ B) (hlt : U < V * B)
 {g : Nat} (hg : g = if f ≤ h then B - 1 else if (h * B + m) % f < (h * B + m) / f * s / B then (h * B + m) / f - 1 else (h * B + m) / f) : U / V ≤ g ∧ g ≤ U / V + 1 ∧ g < B := by
 have hH : 0 < H := by omega
 have hB0 : 0 < B := by omega
 have hfp : 0 < f := by omega
 have hVp : 0 < V := by
  rw [hV];have : 0 < (f * B + s) * H := Nat.mul_pos (Nat.add_pos_left (Nat.mul_pos hfp hB0) _) hH;omega
 have hqB : U / V < B := by rw [Nat.div_lt_iff_lt_mul hVp,Nat.mul_comm]; exact hlt
 have hlo : ∀ t,t * V ≤ U → t ≤ U / V := fun t ht => (Nat.le_div_iff_mul_le hVp).2 ht;have hup : ∀ t,U < t * V → U / V < t := fun t ht => (Nat.div_lt_iff_lt_mul hVp).2 ht;generalize U / V = q at *;have hV2 : V ≤ (f + 1) * (B * H) := by
  have h1 : (f * B + s + 1) * H ≤ (f * B + B) * H := Nat.mul_le_mul_right _ (by omega)
  have h2 : (f * B + B) * H = (f + 1) * (B * H) := by grind
  rw [Nat.add_mul,Nat.one_mul] at h1;omega
 have hU2 : (h * B + m) * (B * H) ≤ U := by
  have h1 : (h * B + m) * B * H ≤ ((h * B + m) * B + l) * H := Nat.mul_le_mul_right _ (by omega)
  rw [Nat.mul_assoc] at h1;omega
 by_cases c1 : f ≤ h
 ·rw [if_pos c1] at hg
  subst hg;refine ⟨by omega,?_,by omega⟩
  have : B - 2 ≤ q := by
   refine hlo _ ?_;have h1 : (B - 2) * V ≤ (B - 2) * ((f + 1) * (B * H)) := Nat.mul_le_mul_left _ hV2;have h2 : (B - 2) * (f + 1) ≤ h * B + m := by
    obtain ⟨C,rfl⟩ : ∃ C,B = C + 2 := ⟨B - 2,by omega⟩
    have h3 : f * (C + 2) ≤ h * (C + 2) := Nat.mul_le_mul_right _ c1;have h4 : (C + 2 - 2) * (f + 1) = f * C + C := by rw [Nat.add_sub_cancel]; grind
    rw [Nat.mul_add] at h3;omega
   have h3 : (B - 2) * (f + 1) * (B * H) ≤ (h * B + m) * (B * H) := Nat.mul_le_mul_right _ h2;rw [Nat.mul_assoc] at h3;omega
  omega
 ·rw [if_neg c1] at hg
  have hd := Nat.div_add_mod (h * B + m) f;have hr := Nat.mod_lt (h * B + m) hfp;have hdB : (h * B + m) / f < B := by
   rw [Nat.div_lt_iff_lt_mul hfp];have : (h + 1) * B ≤ f * B := Nat.mul_le_mul_right _ (by omega)
   rw [Nat.add_mul,Nat.one_mul] at this;rw [Nat.mul_comm B f];omega
  generalize (h * B + m) / f = d at *;generalize (h * B + m) % f = r at *;have hd2 : d * f + r = h * B + m := by rw [Nat.mul_comm]; exact hd
  clear hd;have hqd : q ≤ d := by
   refine Nat.lt_succ_iff.1 (hup _ ?_);have e1 : U < (h * B + m + 1) * (B * H) := by
    have h1 : ((h * B + m) * B + l + 1) * H ≤ ((h * B + m) * B + B) * H := Nat.mul_le_mul_right _ (by omega)
    have h2 : ((h * B + m) * B + B) * H = (h * B + m + 1) * (B * H) := by grind
    rw [Nat.add_mul,Nat.one_mul] at h1;omega
   have e2 : (h * B + m + 1) * (B * H) ≤ ((d + 1) * f) * (B * H) := Nat.mul_le_mul_right _ (by rw [Nat.add_mul,Nat.one_mul]; omega)
   have e3 : (d + 1) * f * (B * H) ≤ (d + 1) * V := by
    rw [Nat.mul_assoc];refine Nat.mul_le_mul_left _ ?_;have : f * (B * H) = f * B * H := by rw [Nat.mul_assoc]
    rw [this,hV,Nat.add_mul];omega
   show U < (d + 1) * V;omega
  by_cases c2 : r < d * s / B
  ·rw [if_pos c2] at hg
   have h1 : (r + 1) * B ≤ d * s := (Nat.le_div_iff_mul_le hB0).1 c2;have hlt2 : U < d * V := by
    have e1 : U < (h * B + m + 1) * (B * H) := by
     have h1 : ((h * B + m) * B + l + 1) * H ≤ ((h * B + m) * B + B) * H := Nat.mul_le_mul_right _ (by omega)
     have h2 : ((h * B + m) * B + B) * H = (h * B + m + 1) * (B * H) := by grind
     rw [Nat.add_mul,Nat.one_mul] at h1;omega
    have e2 : (h * B + m + 1) * B ≤ d * (f * B + s) := by
     have : d * (f * B + s) = d * f * B + d * s := by grind
     have e4 : (h * B + m + 1) * B = d * f * B + (r + 1) * B := by rw [← hd2]; grind
     omega
    have e3 : (h * B + m + 1) * B * H ≤ d * (f * B + s) * H := Nat.mul_le_mul_right _ e2;have e4 : d * ((f * B + s) * H) ≤ d * V := Nat.mul_le_mul_left _ (by omega)
    rw [← Nat.mul_assoc] at e1 e4;omega
   have hq : q < d := hup _ hlt2;have hq2 : d ≤ q + 2 := by
    rcases Nat.lt_or_ge d 2 with g1 | g1
    ·omega
    ·have : d - 2 ≤ q := by
      refine hlo _ ?_;have e1 : (d - 2) * V ≤ (d - 2) * ((f + 1) * (B * H)) := Nat.mul_le_mul_left _ hV2;have e2 : (d - 2) * (f + 1) ≤ h * B + m := by
       obtain ⟨c,rfl⟩ : ∃ c,d = c + 2 := ⟨d - 2,by omega⟩
       rw [Nat.add_sub_cancel];have : (c + 2) * f = c * f + 2 * f := Nat.add_mul c 2 f;have : c * (f + 1) = c * f + c := by rw [Nat.mul_add,Nat.mul_one]
       omega
      have e3 : (d - 2) * (f + 1) * (B * H) ≤ (h * B + m) * (B * H) := Nat.mul_le_mul_right _ e2;rw [Nat.mul_assoc] at e3;omega
     omega
   rw [hg];exact ⟨by omega,by omega,by omega⟩
  ·rw [if_neg c2] at hg
   rw [hg];refine ⟨hqd,?_,hdB⟩;rcases Nat.eq_zero_or_pos d with g0 | g0
   ·omega
   ·have : d - 1 ≤ q := by
     refine hlo _ ?_;have h1 : d * s < (r + 1) * B := by
      have := Nat.not_lt.1 c2;rw [← Nat.lt_succ_iff,Nat.div_lt_iff_lt_mul hB0] at this;exact this
     have e1 : (d - 1) * V ≤ (d - 1) * ((f * B + s + 1) * H) := Nat.mul_le_mul_left _ (by rw [hV,Nat.add_mul (f * B + s) 1 H]; omega)
     have e2 : (d - 1) * (f * B + s + 1) ≤ (h * B + m) * B := by
      obtain ⟨c,rfl⟩ : ∃ c,d = c + 1 := ⟨d - 1,by omega⟩
      rw [Nat.add_sub_cancel];have t1 : c * (f * B + s + 1) = c * f * B + c * s + c := by grind
      have t2 : (c + 1) * s = c * s + s := by grind
      have t3 : (h * B + m) * B = c * f * B + f * B + r * B := by rw [← hd2]; grind
      have t4 : (r + 1) * B = r * B + B := by grind
      have t5 : 2 * B ≤ f * B := Nat.mul_le_mul_right _ (by omega)
      omega
     have e3 : (d - 1) * (f * B + s + 1) * H ≤ (h * B + m) * B * H := Nat.mul_le_mul_right _ e2;rw [Nat.mul_assoc,Nat.mul_assoc (h * B + m)] at e3;omega
    omega
theorem k'c4 (q : Nat) (h : 1 ≤ q) (hq : q < W) : IntKind.u64.wrap ((q : Int) - 1) = ((q - 1 : Nat) : Int) := by
 rw [← k'1x (q - 1) (by omega)]
 congr 1
 omega
theorem k'c5 (h m f s : Nat) (hm : m < W) (hf : f < W) (hs : s < W) (h0 : 0 < f) (w : World) :
 Calls Tryz.prog 172 #[.int .u64 (h : Int),.int .u64 (m : Int),.int .u64 (f : Int),.int .u64 (s : Int)] w (RwPost (gs h m f s) w) := by
 unfold gs;by_cases c1 : f ≤ h
 ·rw [if_pos c1]
  have c2 : (f : Int) ≤ (h : Int) := by omega
  go_enter Tryz.func172,Tryz.ntmps172;go_wp2;go_ret;exact ⟨by unfold W; rfl,0,rfl⟩
 ·rw [if_neg c1]
  have c2 : (h : Int) < (f : Int) := by omega
  have HC := i' (k'2k h m f (by omega) hm hf)
  have hd : (h * W + m) / f < W := k'2l (by omega) hm
  have hr : (h * W + m) % f < f := Nat.mod_lt _ h0;generalize (h * W + m) / f = d at *;generalize (h * W + m) % f = r at *;have HM := i' (k'10 d s hd hs);unfold m1 at HM;have hpos : r < d * s / W → 1 ≤ d := by
   intro c;rcases Nat.eq_zero_or_pos d with g | g
   ·subst g; simp at c
   ·exact g
  generalize d * s / W = t at *;generalize m0 d s = t0 at *;have H2 := i' hd;by_cases c3 : r < t
  ·rw [if_pos c3]
   have c4 : (r : Int) < (t : Int) := by omega
   have H1 := i' (hpos c3);clear hpos hd hm hf hs c1 hr;go_enter Tryz.func172,Tryz.ntmps172;go_wp2_with fail;refine (HC.out _).mono ?_;rintro e w' ⟨rfl,n,rfl⟩;go_wp2_with fail;refine (HM.out _).mono ?_;rintro e w' ⟨rfl,rfl⟩;go_wp2;go_ret;exact ⟨by rw [k'c4 d H1.out H2.out]; rfl,n,rfl⟩
  ·rw [if_neg c3]
   have c4 : (t : Int) ≤ (r : Int) := by omega
   clear hpos hd hm hf hs c1 hr;go_enter Tryz.func172,Tryz.ntmps172;go_wp2_with fail;refine (HC.out _).mono ?_;rintro e w' ⟨rfl,n,rfl⟩;go_wp2_with fail;refine (HM.out _).mono ?_;rintro e w' ⟨rfl,rfl⟩;go_wp2;go_ret;exact ⟨rfl,n,rfl⟩
def SubPInv (l X : List Nat) (off y k c : Nat) (s : List Nat) : Prop :=
 s.length = k ∧ Nm.Dig W s ∧ c < W ∧ Nm.val W s + Nm.val W (X.take k) * y = Nm.val W ((l.drop off).take k) + W ^ k * c
theorem k'c6 (a b c o : Nat) (ha : a < W) (hb : b < W) (hc : c < W) (ho : o < W) : mh a b c + bw o (ml a b c) 0 < W := by
 have h1 := mlh a b c;have h2 := k'p o (ml a b c) 0 ho (k'11 a b c) (by decide)
 have h3 : a * b ≤ (W - 1) * (W - 1) := Nat.mul_le_mul (by omega) (by omega)
 have h4 := k'n o (ml a b c) 0;generalize mh a b c = p at *;generalize ml a b c = q at *;generalize bw o q 0 = r at *;generalize df o q 0 = s at *;unfold W at *;omega
theorem SubPInv.step {l X s : List Nat} {off y k c : Nat} (h : SubPInv l X off y k c s) (hk : off + k < l.length) (hX : k < X.length) (dx : X[k] < W) (dy : y < W) (dl : l[off + k] < W) :
 SubPInv l X off y (k + 1) (mh X[k] y c + bw l[off + k] (ml X[k] y c) 0) (s ++ [df l[off + k] (ml X[k] y c) 0]) := by
 obtain ⟨h1,h2,h3,h4⟩ := h;refine ⟨by simp [h1],Nm.dig_append.2 ⟨h2,Nm.dig_cons.2 ⟨k'n _ _ _,Nm.dig_nil W⟩⟩,k'c6 _ _ _ _ dx dy h3 dl,?_⟩
 have hd : k < (l.drop off).length := by simp; omega
 rw [Nm.val_snoc,h1,Nm.val_take_succ W _ k hd,Nm.val_take_succ W X k hX,List.getElem_drop,Nat.pow_succ];have e1 := mlh X[k] y c;have e2 := k'p l[off + k] (ml X[k] y c) 0 dl (k'11 _ _ _) (by decide)
 generalize mh X[k] y c = p at *;generalize ml X[k] y c = q at *;generalize bw l[off + k] q 0 = r at *;generalize df l[off + k] q 0 = t at *;generalize W ^ k = P at *;have e3 : P * (t + q) = P * (l[off + k] + W * r) := by rw [← e2]; rfl
 have e4 : P * (q + W * p) = P * (X[k] * y + c) := by rw [e1]
 grind
def SubPPost (g : Nat) (l X : List Nat) (off y : Nat) (w : World) (e : Ending) (w' : World) : Prop :=
 ∃ s c,e = .returned (.int .u64 (c : Nat)) ∧ SubPInv l X off y X.length c s ∧ Arr w' g (l.take off ++ (s ++ l.drop (off + X.length))) ∧ Only g w w'
theorem k'c7 (l X : List Nat) (g off n cap : Nat) (p : Option Addr) (b o c y : Nat) (w : World) (hn : X.length ≤ n) (hnc : n ≤ cap) (hcap : cap ≤ 2000000000) (hoff : off ≤ 2000000000)
 (hl : off + X.length ≤ l.length) (hp : X ≠ [] → p = some ⟨b,o,none⟩) (hb : b ≠ g) (harr : Arr w g l)
 (hx : ∀ k (h : k < X.length),w.cell? ⟨b,o + k,none⟩ = some (.int .u64 (X[k] : Int))) (d1 : Nm.Dig W X) (d2 : Nm.Dig W l) (dy : y < W) :
 Calls Tryz.prog 173 #[.slice (some ⟨g,off,none⟩) n cap,.slice p X.length c,.int .u64 (y : Int)] w (SubPPost g l X off y w) := by
 go_enter Tryz.func173,Tryz.ntmps173;have Hp := i' hp;have Hx := i' hx;clear hp hx;go_wp2;go_loopw [7,20] (fun cv i wr => ∃ k cn s,k ≤ X.length ∧ i = .int .i64 (k : Nat) ∧ cv = .int .u64 (cn : Nat) ∧ SubPInv l X off y k cn s ∧ Arr wr g (l.take off ++ (s ++ l.drop (off + k))) ∧ Only g w wr)
  (fun _ i _ => X.length - (intOf i).toNat)
 case atStart =>
  exact ⟨0,0,[],Nat.zero_le _,rfl,rfl,⟨rfl,Nm.dig_nil W,W0,by simp [Nm.val]⟩,by rw [Nm.seg_all]; exact harr,Only.refl g w⟩
 case round =>
  clear harr;obtain ⟨k,cn,s,hk,rfl,rfl,hinv,harr,honly⟩ := hrel;by_cases hX : k < X.length
  ·obtain rfl := Hp.out (by intro e; rw [e] at hX; exact absurd hX (Nat.not_lt_zero _))
   have hol : off + k < l.length := by omega
   have hlen := Nm.seg_length l s off k hinv.1 (by omega)
   have e1 := (honly.cell (p := ⟨b,o + k,none⟩) hb).trans (Hx.out k hX);have e3 := harr.cell (off + k) (by omega)
   rw [Nm.seg_get l s off k hinv.1 hol] at e3;have e4 := harr.free (off + k);have ea := k'v l[off + k] (ml X[k] y cn);have dx := Nm.dig_get d1 k hX;have dl := Nm.dig_get d2 (off + k) hol;have hcn := hinv.2.2.1;have hlt : mh X[k] y cn + bw l[off + k] (ml X[k] y cn) 0 < 18446744073709551616 := k'c6 _ _ _ _ dx dy hcn dl;have Hinv := i' (hinv.step hol hX dx dy dl);have Harr := harr.set (off + k) (df l[off + k] (ml X[k] y cn) 0);rw [Nm.seg_set l s off k _ hinv.1 hol] at Harr;have HA := i' Harr;have Ho := i' (honly.setCell (off + k) (.int .u64 (df l[off + k] (ml X[k] y cn) 0)));have hm := k'16 X[k] y cn dx dy hcn;have HM := i' hm;clear hinv harr honly hlen Harr hm;go_wp2_with fail;refine (HM.out _).mono ?_;rintro e w' ⟨rfl,rfl⟩;go_wp2;go_roundw
   case rel => exact ⟨k + 1,_,_,hX,by go_num,by go_num,Hinv.out,HA.out,Ho.out⟩
   case measure => simp [intOf]; omega
  ·obtain rfl : k = X.length := by omega
   have Hinv := i' hinv;have HA := i' harr;have Ho := i' honly;clear hinv harr honly;go_wp2;go_ret;exact ⟨s,cn,rfl,Hinv.out,HA.out,Ho.out⟩
end Go.Proofs.YtepddegphdlbeaaGreat
