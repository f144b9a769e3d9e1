/- What the theorem leans on, part Y6. -/
import Derived.Test.YtepddegphdlbeaaGreatY5
import Derived.Test.YtepddegphdlbeaaGreatY4
import Derived.Test.YtepddegphdlbeaaGreatY2
import Derived.Test.YtepddegphdlbeaaGreatY1
import Derived.Test.YtepddegphdlbeaaGreatY0
import Derived.Test.YtepddegphdlbeaaGreatProg
import Derived.WalkKit
import Derived.WalkSpells
import Derived.WalkLawsBesides
import Derived.Lib.Hide
import Derived.Deep.QuietTactic
import Derived.BigQuiet
import Derived.Shelf.Small.Bits
import Derived.Shelf.Small.Wraps
import Derived.Shelf.Strconv.Itoa0
import Derived.Shelf.Bits.Mul64
import Derived.Ground.Names2Prog
import Derived.Shelf.Slices.SearchI
import Derived.Shelf.Spec.BitsCarry
import Derived.Deep.LoopGhost
import Derived.Deep.RegionHeld3
import Derived.Laws.AppendOwnNone
set_option maxRecDepth 100000
set_option maxHeartbeats 16000000
set_option linter.all false
namespace Go.Proofs.YtepddegphdlbeaaGreat
open Go.RowKit
def OverPost (m n : Nat) (w : World) (e : Ending) (w' : World) : Prop := ∃ q r,e = .returned (.tuple #[q,r]) ∧ Ri w' q (Nm.dg D9 (m / n)) ∧ Ri w' r (Nm.dg D9 (m % n)) ∧ Below w.heap.size w w'
theorem k'7r {a b : Nat} (h : a ≤ b) : cmpN a b ≤ 0 := by unfold cmpN; split <;> (try split) <;> omega
theorem k'7s {a b : Nat} (h : ¬ a ≤ b) : ¬ cmpN a b ≤ 0 := by rw [k'2q (by omega)]; omega
theorem k'7t {a b : Nat} (h : b ≤ a) : ¬ cmpN a b < 0 := by unfold cmpN; split <;> (try split) <;> omega
theorem k'7u {a b : Nat} (h : a < b) : cmpN a b < 0 := by rw [k'2p h]; omega
theorem below_drew' {B : Nat} {a w : World} (h : Below B a w) (n : Nat) : Below B a (w.drewN n) := ⟨h.os,h.tape,h.output,h.size,h.block⟩
theorem Ari.has {w : World} {g : Nat} {l : List Nat} (h : Ari w g l) (k : Nat) (hk : k < l.length) : ∃ v,w.cell? ⟨g,k,none⟩ = some v := ⟨_,h.cell k hk⟩
theorem k'7v (w : World) (x : Nat) : (w.alloc (.cells #[.int .i64 (x : Int)] 3)).ownsRow w.heap.size 3 1 (.slice (some ⟨w.heap.size,0,none⟩) 1 1) 1 [.int .i64 (x : Int)] :=
 ⟨by simp,.inr ⟨w.heap.size,1,_,rfl,Nat.le_refl _,heap_alloc_new w _,Nat.le_refl _,by decide,by simp,by simp⟩⟩
theorem k'7w (v1 v2 : Value) (m n : Nat) (w : World) (hn : 0 < n) (h1 : Ri w v1 (Nm.dg D9 m)) (h2 : Ri w v2 (Nm.dg D9 n)) (l1 : (Nm.dg D9 m).length ≤ 100000) (l2 : (Nm.dg D9 n).length ≤ 100000) :
 Calls Tryz.prog 130 #[v1,v2] w (OverPost m n w) := by
 have dx := Nm.dig_dg D92 m;have HV := i' (Nm.val_dg D92 m);rw [← HV.out];clear HV;generalize Nm.dg D9 m = X at *;obtain ⟨p1,b1,o1,c1,rfl,_,_,hp1,_,g1⟩ := h1;have hmk := fun w => k'74 X.length w (by omega)
 have H2 := i' h2;have L2 := i' l2;have Hp1 := i' hp1;have G1 := i' g1;have DX := i' dx;have HN := i' hn;have hi3 : (Tryz.prog.info? 3).map (fun i => (i.zero,i.size,i.bytes)) = some (some (.int .i64 0),1,8) := by kernel_rfl
 obtain ⟨i0,hi0,hz0,hz1,hz2⟩ := info_parts hi3;have HI := i' (And.intro hi0 (And.intro hz0 (And.intro hz1 hz2)));have HT := i' (fun v xs w h => k'6s v xs w h);have HTA := i' (fun B v xs w h => k'7q B v xs w h);have HO := i' (fun v1 v2 m n w h1 h2 l1 l2 => k'6z v1 v2 m n w h1 h2 l1 l2);clear hi3 hi0 hz0 hz1 hz2 hp1 g1 dx h2 l2 hn;go_enter Tryz.func130,Tryz.ntmps130;go_wp2;clear hmk;go_loopw [7,8] (fun rv iv wr => ∃ (k Q R : Nat) (l : List Nat),k ≤ X.length ∧ iv = .int .i64 ((k : Int) - 1) ∧ Hid (OvInv X n k Q R l) ∧ Hid (Ri wr rv (Nm.dg D9 R)) ∧ Hid (Ari wr w.heap.size l) ∧ Hid (Below w.heap.size w wr))
  (fun _ iv _ => (intOf iv + 1).toNat)
 case atStart =>
  exact ⟨X.length,0,0,_,Nat.le_refl _,rfl,OvInv.start X HN.out,Ri.nil _,Ari.made w _,(Below.refl _ _).alloc (Nat.le_refl _) _⟩
 case round =>
  rename_i wr _;obtain ⟨k,Q,R,l,hk,rfl,hinv,hrest,harr,hbl⟩ := hrel;rcases Nat.eq_zero_or_pos k with h0 | h0
  ·subst h0
   have HE : Hid (Nm.trimL l = Nm.dg D9 (Nm.val D9 X / n) ∧ R = Nm.val D9 X % n) := hinv.out.finish;have HW := i' (Ri.of_ari harr.out X.length hinv.out.2.2.1 (by unfold maxLen; omega))
   clear hinv;go_wp2_with (go_at_call 95; (with_reducible refine (HT.out _ _ _ HW.out).mono ?_); rintro e w5 ⟨v5,rfl,h5,rfl⟩);go_ret2;exact ⟨_,_,rfl,by rw [← HE.out.1]; exact h5,by rw [← HE.out.2]; exact hrest.out,hbl.out⟩
  ·obtain ⟨j,rfl⟩ : ∃ j,k = j + 1 := ⟨k - 1,by omega⟩
   have hx : j < X.length := by omega
   obtain rfl := Hp1.out (by intro e; rw [e] at hx; exact absurd hx (Nat.not_lt_zero _))
   have e1 := k'e hbl.out (G1.out j hx);have hxd : X[j] < D9 := Nm.dig_get DX.out j hx;have hst := hinv.out.step hx DX.out;have hst0 := hinv.out.step0 hx DX.out;have hRn : R < n := hinv.out.1;have hll : l.length = X.length := hinv.out.2.2.1;have HRR : Hid (X[j] + D9 * R < D9 * n) := k'7l hxd hRn;have HTL := i' (k'7n (R := R) hxd);obtain ⟨x,hxx⟩ : ∃ x,X[j] = x := ⟨_,rfl⟩;simp only [hxx] at e1 hxd hst hst0 HRR HTL;obtain ⟨R',hR'⟩ : ∃ R',x + D9 * R = R' := ⟨_,rfl⟩;rw [hR'] at hst hst0 HRR HTL;have HRL : Hid ((Nm.dg D9 R').length ≤ 100001) := by have h5 := k'7o HRR.out; have h6 := L2.out; show _ ≤ _; omega
   have HRL0 : Hid ((Nm.dg D9 R).length ≤ 100000) := by
    have h5 := Nm.len_le_of_val D92 (Nm.nrm_dg D92 R) (k := (Nm.dg D9 n).length) (by have h6 := Nm.val_lt (Nm.dig_dg D92 n); rw [Nm.val_dg D92] at h6 ⊢; omega)
    have h6 := L2.out; show _ ≤ _; omega
   have HS := i' hst;have HS0 := i' hst0;have HLL := i' hll;have hbs : Hid (w.heap.size ≤ wr.heap.size) := hbl.out.size;obtain ⟨pr,br,or,cr,rfl,hr1,hr2,hr3,hr4,hr5⟩ := hrest.out;have HR5 := i' hr5;have HR3 := i' hr3;have HR12 := i' (And.intro hr1 hr2);clear hst hst0 hRn hll hinv hr5 hr3 hr1 hr2 hR' hxd hxx hrest;have e2 : ((j + 1 : Nat) : Int) - 1 = (j : Int) := by omega
   rw [e2];have HXB := i' (k'7v wr x);have HGW : Hid (w.heap.size < wr.heap.size) := harr.out.lt;rcases hr4 with ⟨rfl,rfl⟩ | ⟨rfl,hr4,-⟩
   ·have hnil : Hid (Nm.dg D9 R = []) := by
     show _ = _
     cases hd : Nm.dg D9 R with
     | nil => rfl
     | cons a b => have h5 := HR3.out (by rw [hd]; simp); exact absurd h5 (by simp)
    have hr4 := hnil;have HW1 : Hid (RiAt wr.heap.size (wr.alloc (.cells #[.int .i64 (x : Int)] 3)) (.slice (some ⟨wr.heap.size,0,none⟩) 1 1) (x :: Nm.dg D9 R)) := by
     show RiAt _ _ _ _;rw [hnil.out]; exact RiAt.of_own HXB.out
    have HB1 := i' (k'7h wr (.cells #[.int .i64 (x : Int)] 3));rw [hnil.out,List.length_nil];clear hnil;go_wp2_with (first | (at_builtin; refine wpList_append_own_none rfl _ _ 24 rfl wr.heap.size 3 i0 1 Tryz.underlying24 HI.out.1 _ _ _ rfl HXB.out rfl ?_) | (go_at_call 95; (with_reducible refine (HTA.out _ _ _ _ HW1.out).mono ?_); rintro e w5 ⟨v5,rfl,h5,rfl⟩))
    rw [HTL.out] at h5;obtain ⟨w1,hw1⟩ : ∃ w1,w1 = wr.alloc (.cells #[.int .i64 (x : Int)] 3) := ⟨_,rfl⟩;rw [← hw1] at h5 HB1 HW1 ⊢;clear hw1;have HA1 : Hid (Ari w1 w.heap.size l) := harr.out.keep (HB1.out.block _ harr.out.lt);have HBB : Hid (Below w.heap.size w w1) := k'7g hbl.out HB1.out;have HR6 := i' h5;clear h5 HW1 HB1 harr hbl e1 HXB HTL HR5 HR3 HR12 HRL0 hr4;have H2w : Hid (Ri w1 v2 (Nm.dg D9 n)) := H2.out.below HBB.out (Nat.le_refl _);have HO1 := i' (HO.out v5 v2 R' n w1 HR6.out.ri H2w.out (by have h6 := HRL.out; omega) (by have h6 := L2.out; omega))
    by_cases hlt : R' < n
    ·obtain ⟨cc,hcc⟩ : ∃ cc,cmpN R' n = cc := ⟨_,rfl⟩
     have hc := k'7u hlt;rw [hcc] at hc HO1;have HF := i' (HS0.out hlt);clear hcc hlt;go_wp2_with (go_at_call 122; (with_reducible refine HO1.out.mono ?_); rintro e w6 ⟨rfl,nq,rfl⟩);go_roundw
     case rel => exact ⟨j,_,R',l,by omega,by go_num,HF,HR6.out.ri.drewN _,HA1.out.drewN _,below_drew' HBB.out _⟩
     case measure => simp [intOf]
    ·obtain ⟨cc,hcc⟩ : ∃ cc,cmpN R' n = cc := ⟨_,rfl⟩
     have hc := k'7t (Nat.le_of_not_lt hlt);rw [hcc] at hc HO1;clear hcc hlt HS0;go_wp2_with (go_at_call 122; (with_reducible refine HO1.out.mono ?_); rintro e w6 ⟨rfl,nq,rfl⟩);have HR7 : Hid (RiAt wr.heap.size (w1.drewN nq) v5 (Nm.dg D9 R')) := HR6.out.below (below_drew' (Below.refl w1.heap.size w1) nq) (Nat.le_refl _);have HA2 : Hid (Ari (w1.drewN nq) w.heap.size l) := HA1.out.drewN nq;have HB2 : Hid (Below w.heap.size w (w1.drewN nq)) := below_drew' HBB.out nq;have H2x : Hid (Ri (w1.drewN nq) v2 (Nm.dg D9 n)) := H2w.out.drewN nq;have HT9 : Hid (R' / n ≤ 999999999) := by
      have h5 : R' / n < D9 := by rw [Nat.div_lt_iff_lt_mul HN.out]; exact HRR.out
      unfold D9 at h5;show _ ≤ _;omega
     have hgw : Hid (w.heap.size < wr.heap.size) := HGW.out;generalize w1.drewN nq = w2 at *;clear HR6 HA1 HBB H2w HO1 hc;go_loopw [9,10] (fun lo hi wq => ∃ (wz : World) (a b : Nat) (ai bi : Int),wz = wq ∧ lo = .int .i64 ai ∧ hi = .int .i64 bi ∧ Hid (ai = (a : Int)) ∧ Hid (bi = (b : Int)) ∧ 0 ≤ ai ∧ ai ≤ bi ∧ bi ≤ 999999999 ∧ Hid (a ≤ R' / n) ∧ Hid (R' / n ≤ b) ∧ Hid (Below w2.heap.size w2 wz))
      (fun lo hi _ => (intOf hi - intOf lo).toNat)
     case atStart => exact ⟨_,0,999999999,0,999999999,rfl,rfl,rfl,rfl,rfl,by omega,by omega,by omega,Nat.zero_le _,HT9,Below.refl _ _⟩
     case round =>
      obtain ⟨wq,a,b,ai,bi,rfl,rfl,rfl,hai,hbi,ha0,hab,hb9,hta,htb,hbl2⟩ := hrel;by_cases hlh : ai < bi
      ·obtain ⟨m1,m2,m3,m4⟩ := k'7p HN.out hta.out htb.out (show a < b by have h5 := hai.out; have h6 := hbi.out; omega)
       obtain ⟨mid,hmid⟩ : ∃ mid,(a + b + 1) / 2 = mid := ⟨_,rfl⟩;rw [hmid] at m1 m2 m3 m4;obtain ⟨mi,hmi⟩ : ∃ mi : Int,(mid : Int) = mi := ⟨_,rfl⟩;have hme : (ai + bi + 1) / 2 = mi := by rw [← hmi,← hmid,hai.out,hbi.out]; omega
       have hm1 : ai < mi := by rw [← hmi,hai.out]; omega
       have hm2 : mi ≤ bi := by rw [← hmi,hbi.out]; omega
       have hm9 : mid < D9 := by unfold D9; omega
       have HSM := k'7i v2 n mid wq hm9 (H2x.out.below hbl2.out (Nat.le_refl _)) (by have h5 := L2.out; omega)
       rw [hmi] at HSM;have HSM := i' HSM;have HML : Hid ((Nm.dg D9 (n * mid)).length ≤ 100001) := by
        have h5 := k'7o (show n * mid < D9 * n by rw [Nat.mul_comm]; exact Nat.mul_lt_mul_of_pos_right hm9 HN.out)
        have h6 := L2.out;show _ ≤ _;omega
       have HMI := i' hmi;have HM34 := i' (And.intro m3 m4);have HRQ := i' (HR7.out.ri.below hbl2.out (Nat.le_refl _));clear hmid hm9 m1 m2 m3 m4 hmi;obtain ⟨cc,hcc⟩ : ∃ cc,cmpN (n * mid) R' = cc := ⟨_,rfl⟩;have HOm := i' (fun v w h1 h2 => HO.out v v5 (n * mid) R' w h1 h2 (by have h6 := HML.out; omega) (by have h6 := HRL.out; omega))
       simp only [hcc] at HOm;by_cases hle : n * mid ≤ R'
       ·have hc : cc ≤ 0 := by rw [← hcc]; exact k'7r hle
        have HF := i' (HM34.out.1 hle);clear hcc hle HM34;go_wp2_with (first | (go_at_call 94; (with_reducible refine HSM.out.mono ?_); rintro e w3 ⟨v3,rfl,h3,b3⟩; have HR8 := i' (And.intro h3 b3); clear h3 b3) | (go_at_call 122; (with_reducible refine (HOm.out _ _ HR8.out.1 (HRQ.out.below HR8.out.2 (Nat.le_refl _))).mono ?_); rintro e w4 ⟨rfl,nq2,rfl⟩))
        go_roundw
        case rel => exact ⟨_,mid,b,mi,bi,rfl,by first | rfl | rw [hme],rfl,HMI.out.symm,hbi,by omega,by omega,hb9,HF,htb,below_drew' (k'7g hbl2.out HR8.out.2) _⟩
        case measure => simp [intOf,hme]; omega
       ·have hc : ¬ cc ≤ 0 := by rw [← hcc]; exact k'7s hle
        have HF := i' (HM34.out.2 hle);clear hcc hle HM34;go_wp2_with (first | (go_at_call 94; (with_reducible refine HSM.out.mono ?_); rintro e w3 ⟨v3,rfl,h3,b3⟩; have HR8 := i' (And.intro h3 b3); clear h3 b3) | (go_at_call 122; (with_reducible refine (HOm.out _ _ HR8.out.1 (HRQ.out.below HR8.out.2 (Nat.le_refl _))).mono ?_); rintro e w4 ⟨rfl,nq2,rfl⟩))
        go_roundw
        case rel => exact ⟨_,a,mid - 1,ai,mi - 1,rfl,rfl,by first | rfl | rw [hme],hai,by have h5 := HMI.out; have h6 := hai.out; show _ = _; omega,ha0,by omega,by omega,hta,HF,below_drew' (k'7g hbl2.out HR8.out.2) _⟩
        case measure => simp [intOf,hme]; omega
      ·have hae : a = R' / n := by have h5 := hai.out; have h6 := hbi.out; have h7 := hta.out; have h8 := htb.out; omega
       have hjl : j < l.length := by rw [HLL.out]; exact hx
       have HA3 := HA2.out.keep (hbl2.out.block _ HA2.out.lt);obtain ⟨ov,e3⟩ := HA3.has j hjl;have e4 := HA3.free j;have HA4 := HA3.set j a;rw [← hai.out] at HA4;have HA4 := i' HA4;have HB4 : Hid (Below w.heap.size w (wq.setCell ⟨w.heap.size,j,none⟩ (.int .i64 ai))) := (k'7g HB2.out hbl2.out).setCell (p := ⟨w.heap.size,j,none⟩) (Nat.le_refl _) _;have H24 : Hid (Ri (wq.setCell ⟨w.heap.size,j,none⟩ (.int .i64 ai)) v2 (Nm.dg D9 n)) := H2.out.below HB4.out (Nat.le_refl _);have HR9 : Hid (Ri (wq.setCell ⟨w.heap.size,j,none⟩ (.int .i64 ai)) v5 (Nm.dg D9 R')) := ((HR7.out.below hbl2.out (Nat.le_refl _)).set hgw.out).ri;have hsz := Nat.lt_of_lt_of_le HA2.out.lt hbl2.out.size;have Hsz := i' hsz;generalize hw4 : wq.setCell ⟨w.heap.size,j,none⟩ (.int .i64 ai) = w4 at *;have hk9 : a < D9 := by unfold D9; have h5 := hai.out; omega
       have HSM := k'7i v2 n a w4 hk9 H24.out (by have h5 := L2.out; omega)
       rw [← hai.out] at HSM;have HSM := i' HSM;have HML : Hid ((Nm.dg D9 (n * a)).length ≤ 100001) := by
        have h5 := k'7o (show n * a < D9 * n by rw [Nat.mul_comm]; exact Nat.mul_lt_mul_of_pos_right hk9 HN.out)
        have h6 := L2.out;show _ ≤ _;omega
       have hle : n * a ≤ R' := by rw [hae,Nat.mul_comm]; exact Nat.div_mul_le_self _ _
       have HMm := i' (fun v w h1 h2 => k'72 v5 v R' (n * a) w hle h1 h2 (by have h6 := HRL.out; omega) (by have h6 := HML.out; omega))
       have hmm : R' - n * a = R' % n := by rw [hae]; have h5 := Nat.div_add_mod R' n; omega
       rw [hmm] at HMm;have hsF := HS.out;rw [← hae] at hsF;have HF := i' hsF;have Hw4 := i' hw4;clear hae hle hmm hk9 hjl hw4 hsz hsF HA3;go_wp2_with (first | (go_at_call 94; (with_reducible rw [Hw4.out]); (with_reducible refine HSM.out.mono ?_); rintro e w6 ⟨v3,rfl,h3,b3⟩; have HR8 := i' (And.intro h3 b3); clear h3 b3) | (go_at_call 123; (with_reducible refine (HMm.out _ _ (HR9.out.below HR8.out.2 (Nat.le_refl _)) HR8.out.1).mono ?_); rintro e w7 ⟨v7,rfl,h7,b7⟩; have HR10 := i' (And.intro h7 b7); clear h7 b7))
       go_roundw
       case rel => exact ⟨j,_,_,_,by omega,by go_num,HF,HR10.out.1,(HA4.out.keep (HR8.out.2.block _ HA4.out.lt)).keep (HR10.out.2.block _ (Nat.lt_of_lt_of_le HA4.out.lt HR8.out.2.size)),k'7g (k'7g HB4.out HR8.out.2) HR10.out.2⟩
       case measure => simp [intOf]
   ·go_wp2_with (at_builtin; refine wpList_append_own _ rfl _ _ 24 rfl wr.heap.size 3 i0 (.int .i64 0) 1 8 Tryz.underlying24 HI.out.1 HI.out.2.1 HI.out.2.2.1 HI.out.2.2.2 rfl (by decide) _ _ _ rfl HXB.out ⟨br,or,none⟩ (Nm.dg D9 R).length cr (iv (Nm.dg D9 R)) rfl (by rw [k'6p,Nat.mul_one]) ?c1 ?c2 ?c3 ?c4 ?c5 ?_)
    case c1 =>
     intro i u hi;have hi2 : i < (Nm.dg D9 R).length := by
      rcases Nat.lt_or_ge i (Nm.dg D9 R).length with g | g
      ·exact g
      ·rw [List.getElem?_eq_none (by rw [k'6p]; exact g)] at hi; simp at hi
     rw [k'6q _ i hi2] at hi;obtain rfl := Option.some.inj hi;exact HR5.out i hi2
    case c2 =>
     intro u hu;obtain ⟨d,_,rfl⟩ := List.mem_map.1 hu;rfl
    case c3 => have h6 := HRL0.out; unfold maxLen; omega
    case c4 => have h6 := HRL0.out; omega
    intro v' w1 hown1 hgrow1 _;have HB1 : Hid (Below wr.heap.size wr w1) := (k'7h wr _).grown hgrow1 (by simp) (fun q hq => (HXB.out.lt q hq).1)
    have HW1 : Hid (RiAt wr.heap.size w1 v' (x :: Nm.dg D9 R)) := by
     refine RiAt.of_own (B := wr.heap.size) ?_;rw [List.length_cons,Nat.add_comm];exact hown1
    clear hown1 hgrow1;go_wp2_with (go_at_call 95; (with_reducible refine (HTA.out _ _ _ _ HW1.out).mono ?_); rintro e w5 ⟨v5,rfl,h5,rfl⟩);rw [HTL.out] at h5;have HA1 : Hid (Ari w1 w.heap.size l) := harr.out.keep (HB1.out.block _ harr.out.lt);have HBB : Hid (Below w.heap.size w w1) := k'7g hbl.out HB1.out;have HR6 := i' h5;clear h5 HW1 HB1 harr hbl e1 HXB HTL HR5 HR3 HR12 HRL0 hr4;have H2w : Hid (Ri w1 v2 (Nm.dg D9 n)) := H2.out.below HBB.out (Nat.le_refl _);have HO1 := i' (HO.out v5 v2 R' n w1 HR6.out.ri H2w.out (by have h6 := HRL.out; omega) (by have h6 := L2.out; omega))
    by_cases hlt : R' < n
    ·obtain ⟨cc,hcc⟩ : ∃ cc,cmpN R' n = cc := ⟨_,rfl⟩
     have hc := k'7u hlt;rw [hcc] at hc HO1;have HF := i' (HS0.out hlt);clear hcc hlt;go_wp2_with (go_at_call 122; (with_reducible refine HO1.out.mono ?_); rintro e w6 ⟨rfl,nq,rfl⟩);go_roundw
     case rel => exact ⟨j,_,R',l,by omega,by go_num,HF,HR6.out.ri.drewN _,HA1.out.drewN _,below_drew' HBB.out _⟩
     case measure => simp [intOf]
    ·obtain ⟨cc,hcc⟩ : ∃ cc,cmpN R' n = cc := ⟨_,rfl⟩
     have hc := k'7t (Nat.le_of_not_lt hlt);rw [hcc] at hc HO1;clear hcc hlt HS0;go_wp2_with (go_at_call 122; (with_reducible refine HO1.out.mono ?_); rintro e w6 ⟨rfl,nq,rfl⟩);have HR7 : Hid (RiAt wr.heap.size (w1.drewN nq) v5 (Nm.dg D9 R')) := HR6.out.below (below_drew' (Below.refl w1.heap.size w1) nq) (Nat.le_refl _);have HA2 : Hid (Ari (w1.drewN nq) w.heap.size l) := HA1.out.drewN nq;have HB2 : Hid (Below w.heap.size w (w1.drewN nq)) := below_drew' HBB.out nq;have H2x : Hid (Ri (w1.drewN nq) v2 (Nm.dg D9 n)) := H2w.out.drewN nq;have HT9 : Hid (R' / n ≤ 999999999) := by
      have h5 : R' / n < D9 := by rw [Nat.div_lt_iff_lt_mul HN.out]; exact HRR.out
      unfold D9 at h5;show _ ≤ _;omega
     have hgw : Hid (w.heap.size < wr.heap.size) := HGW.out;generalize w1.drewN nq = w2 at *;clear HR6 HA1 HBB H2w HO1 hc;go_loopw [9,10] (fun lo hi wq => ∃ (wz : World) (a b : Nat) (ai bi : Int),wz = wq ∧ lo = .int .i64 ai ∧ hi = .int .i64 bi ∧ Hid (ai = (a : Int)) ∧ Hid (bi = (b : Int)) ∧ 0 ≤ ai ∧ ai ≤ bi ∧ bi ≤ 999999999 ∧ Hid (a ≤ R' / n) ∧ Hid (R' / n ≤ b) ∧ Hid (Below w2.heap.size w2 wz))
      (fun lo hi _ => (intOf hi - intOf lo).toNat)
     case atStart => exact ⟨_,0,999999999,0,999999999,rfl,rfl,rfl,rfl,rfl,by omega,by omega,by omega,Nat.zero_le _,HT9,Below.refl _ _⟩
     case round =>
      obtain ⟨wq,a,b,ai,bi,rfl,rfl,rfl,hai,hbi,ha0,hab,hb9,hta,htb,hbl2⟩ := hrel;by_cases hlh : ai < bi
      ·obtain ⟨m1,m2,m3,m4⟩ := k'7p HN.out hta.out htb.out (show a < b by have h5 := hai.out; have h6 := hbi.out; omega)
       obtain ⟨mid,hmid⟩ : ∃ mid,(a + b + 1) / 2 = mid := ⟨_,rfl⟩;rw [hmid] at m1 m2 m3 m4;obtain ⟨mi,hmi⟩ : ∃ mi : Int,(mid : Int) = mi := ⟨_,rfl⟩;have hme : (ai + bi + 1) / 2 = mi := by rw [← hmi,← hmid,hai.out,hbi.out]; omega
       have hm1 : ai < mi := by rw [← hmi,hai.out]; omega
       have hm2 : mi ≤ bi := by rw [← hmi,hbi.out]; omega
       have hm9 : mid < D9 := by unfold D9; omega
       have HSM := k'7i v2 n mid wq hm9 (H2x.out.below hbl2.out (Nat.le_refl _)) (by have h5 := L2.out; omega)
       rw [hmi] at HSM;have HSM := i' HSM;have HML : Hid ((Nm.dg D9 (n * mid)).length ≤ 100001) := by
        have h5 := k'7o (show n * mid < D9 * n by rw [Nat.mul_comm]; exact Nat.mul_lt_mul_of_pos_right hm9 HN.out)
        have h6 := L2.out;show _ ≤ _;omega
       have HMI := i' hmi;have HM34 := i' (And.intro m3 m4);have HRQ := i' (HR7.out.ri.below hbl2.out (Nat.le_refl _));clear hmid hm9 m1 m2 m3 m4 hmi;obtain ⟨cc,hcc⟩ : ∃ cc,cmpN (n * mid) R' = cc := ⟨_,rfl⟩;have HOm := i' (fun v w h1 h2 => HO.out v v5 (n * mid) R' w h1 h2 (by have h6 := HML.out; omega) (by have h6 := HRL.out; omega))
       simp only [hcc] at HOm;by_cases hle : n * mid ≤ R'
       ·have hc : cc ≤ 0 := by rw [← hcc]; exact k'7r hle
        have HF := i' (HM34.out.1 hle);clear hcc hle HM34;go_wp2_with (first | (go_at_call 94; (with_reducible refine HSM.out.mono ?_); rintro e w3 ⟨v3,rfl,h3,b3⟩; have HR8 := i' (And.intro h3 b3); clear h3 b3) | (go_at_call 122; (with_reducible refine (HOm.out _ _ HR8.out.1 (HRQ.out.below HR8.out.2 (Nat.le_refl _))).mono ?_); rintro e w4 ⟨rfl,nq2,rfl⟩))
        go_roundw
        case rel => exact ⟨_,mid,b,mi,bi,rfl,by first | rfl | rw [hme],rfl,HMI.out.symm,hbi,by omega,by omega,hb9,HF,htb,below_drew' (k'7g hbl2.out HR8.out.2) _⟩
        case measure => simp [intOf,hme]; omega
       ·have hc : ¬ cc ≤ 0 := by rw [← hcc]; exact k'7s hle
        have HF := i' (HM34.out.2 hle);clear hcc hle HM34;go_wp2_with (first | (go_at_call 94; (with_reducible refine HSM.out.mono ?_); rintro e w3 ⟨v3,rfl,h3,b3⟩; have HR8 := i' (And.intro h3 b3); clear h3 b3) | (go_at_call 122; (with_reducible refine (HOm.out _ _ HR8.out.1 (HRQ.out.below HR8.out.2 (Nat.le_refl _))).mono ?_); rintro e w4 ⟨rfl,nq2,rfl⟩))
        go_roundw
        case rel => exact ⟨_,a,mid - 1,ai,mi - 1,rfl,rfl,by first | rfl | rw [hme],hai,by have h5 := HMI.out; have h6 := hai.out; show _ = _; omega,ha0,by omega,by omega,hta,HF,below_drew' (k'7g hbl2.out HR8.out.2) _⟩
        case measure => simp [intOf,hme]; omega
      ·have hae : a = R' / n := by have h5 := hai.out; have h6 := hbi.out; have h7 := hta.out; have h8 := htb.out; omega
       have hjl : j < l.length := by rw [HLL.out]; exact hx
       have HA3 := HA2.out.keep (hbl2.out.block _ HA2.out.lt);obtain ⟨ov,e3⟩ := HA3.has j hjl;have e4 := HA3.free j;have HA4 := HA3.set j a;rw [← hai.out] at HA4;have HA4 := i' HA4;have HB4 : Hid (Below w.heap.size w (wq.setCell ⟨w.heap.size,j,none⟩ (.int .i64 ai))) := (k'7g HB2.out hbl2.out).setCell (p := ⟨w.heap.size,j,none⟩) (Nat.le_refl _) _;have H24 : Hid (Ri (wq.setCell ⟨w.heap.size,j,none⟩ (.int .i64 ai)) v2 (Nm.dg D9 n)) := H2.out.below HB4.out (Nat.le_refl _);have HR9 : Hid (Ri (wq.setCell ⟨w.heap.size,j,none⟩ (.int .i64 ai)) v5 (Nm.dg D9 R')) := ((HR7.out.below hbl2.out (Nat.le_refl _)).set hgw.out).ri;have hsz := Nat.lt_of_lt_of_le HA2.out.lt hbl2.out.size;have Hsz := i' hsz;generalize hw4 : wq.setCell ⟨w.heap.size,j,none⟩ (.int .i64 ai) = w4 at *;have hk9 : a < D9 := by unfold D9; have h5 := hai.out; omega
       have HSM := k'7i v2 n a w4 hk9 H24.out (by have h5 := L2.out; omega)
       rw [← hai.out] at HSM;have HSM := i' HSM;have HML : Hid ((Nm.dg D9 (n * a)).length ≤ 100001) := by
        have h5 := k'7o (show n * a < D9 * n by rw [Nat.mul_comm]; exact Nat.mul_lt_mul_of_pos_right hk9 HN.out)
        have h6 := L2.out;show _ ≤ _;omega
       have hle : n * a ≤ R' := by rw [hae,Nat.mul_comm]; exact Nat.div_mul_le_self _ _
       have HMm := i' (fun v w h1 h2 => k'72 v5 v R' (n * a) w hle h1 h2 (by have h6 := HRL.out; omega) (by have h6 := HML.out; omega))
       have hmm : R' - n * a = R' % n := by rw [hae]; have h5 := Nat.div_add_mod R' n; omega
       rw [hmm] at HMm;have hsF := HS.out;rw [← hae] at hsF;have HF := i' hsF;have Hw4 := i' hw4;clear hae hle hmm hk9 hjl hw4 hsz hsF HA3;go_wp2_with (first | (go_at_call 94; (with_reducible rw [Hw4.out]); (with_reducible refine HSM.out.mono ?_); rintro e w6 ⟨v3,rfl,h3,b3⟩; have HR8 := i' (And.intro h3 b3); clear h3 b3) | (go_at_call 123; (with_reducible refine (HMm.out _ _ (HR9.out.below HR8.out.2 (Nat.le_refl _)) HR8.out.1).mono ?_); rintro e w7 ⟨v7,rfl,h7,b7⟩; have HR10 := i' (And.intro h7 b7); clear h7 b7))
       go_roundw
       case rel => exact ⟨j,_,_,_,by omega,by go_num,HF,HR10.out.1,(HA4.out.keep (HR8.out.2.block _ HA4.out.lt)).keep (HR10.out.2.block _ (Nat.lt_of_lt_of_le HA4.out.lt HR8.out.2.size)),k'7g (k'7g HB4.out HR8.out.2) HR10.out.2⟩
       case measure => simp [intOf]
theorem Ri.set {w : World} {p : Addr} {u old v : Value} {xs : List Nat} (h : Ri w v xs) (hp : w.cell? p = some old) (hno : ∀ n,old ≠ .int .i64 n) : Ri (w.setCell p u) v xs := by
 obtain ⟨q,b,off,cap,h1,h2,h3,h4,h5,h6⟩ := h;refine ⟨q,b,off,cap,h1,h2,h3,h4,h5.imp id (fun g => ⟨g.1,g.2.set _ _⟩),fun k hk => ?_⟩;rw [World.cell?_setCell_other]
 ·exact h6 k hk
 ·intro e
  rw [e,h6 k hk] at hp;exact hno _ (Option.some.inj hp).symm
theorem Ri.set2 {w : World} {b : Nat} {u1 u2 old1 v : Value} {c : Bool} {xs : List Nat} (h : Ri w v xs) (h1 : w.cell? ⟨b,0,none⟩ = some (.bool c)) (h2 : w.cell? ⟨b,1,none⟩ = some old1) (hno : ∀ n,old1 ≠ .int .i64 n) :
 Ri ((w.setCell ⟨b,0,none⟩ u1).setCell ⟨b,1,none⟩ u2) v xs :=
 (h.set h1 (fun _ => by simp)).set (old := old1) ((World.cell?_setCell_other w ⟨b,0,none⟩ ⟨b,1,none⟩ u1 (by simp)).trans h2) hno
def sgnI (b : Bool) (m : Nat) : Int := if m = 0 then 0 else if b = true then -1 else 1
def SignPost (c : Int) (w : World) (e : Ending) (w' : World) : Prop := e = .returned (.int .i64 c) ∧ Below w.heap.size w w'
theorem k'7x (b : Bool) (v : Value) (m : Nat) (w : World) (h : Ri w v (Nm.dg D9 m)) :
 Calls Tryz.prog 50 #[.agg #[.bool b,v]] w (SignPost (sgnI b m) w) := by
 obtain ⟨p,b1,o1,c1,rfl,hr⟩ := h;clear hr;have E := i' (k'7j (m := m));have HB := fun o => i' (k'7h w o);by_cases h0 : m = 0
 ·have hz : sgnI b m = 0 := by simp [sgnI,h0]
  have hl : (((Nm.dg D9 m).length : Int) == 0) = true := by rw [h0,Nm.dg_zero]; rfl
  rw [hz];clear hz h0;go_enter Tryz.func50,Tryz.ntmps50;go_wp2;go_ret;exact ⟨rfl,(HB _).out⟩
 ·have hl : (((Nm.dg D9 m).length : Int) == 0) = false := by have h5 := E.out.2 h0; simp; intro e; rw [e] at h5; simp at h5
  cases b with
  | false =>
   have hz : sgnI false m = 1 := by simp [sgnI,h0]
   rw [hz];clear hz h0;go_enter Tryz.func50,Tryz.ntmps50;go_wp2;go_ret;exact ⟨rfl,(HB _).out⟩
  | true =>
   have hz : sgnI true m = -1 := by simp [sgnI,h0]
   rw [hz];clear hz h0;go_enter Tryz.func50,Tryz.ntmps50;go_wp2;go_ret;exact ⟨rfl,(HB _).out⟩
theorem k'7y (b : Bool) (v : Value) (m : Nat) (w : World) (h : Ri w v (Nm.dg D9 m)) :
 Calls Tryz.prog 136 #[.agg #[.bool b,v]] w (MadeI (!b && m != 0) m w) := by
 have HR := i' h;obtain ⟨p,b1,o1,c1,rfl,hr⟩ := h;clear hr;obtain ⟨vv,hvv⟩ : ∃ vv,vv = Value.slice p (Nm.dg D9 m).length c1 := ⟨_,rfl⟩;obtain ⟨w0,hw0⟩ : ∃ w0 : World,w0 = (w.alloc (.cells #[.bool b,.slice p (Nm.dg D9 m).length c1] 52)).alloc (.cells #[.bool false,.slice none 0 0] 52) := ⟨_,rfl⟩;have hb0 : Hid (Below w.heap.size w w0) := by rw [hw0]; exact ((Below.refl _ _).alloc (Nat.le_refl _) _).alloc (by simp) _
 have k4 : w0.cell? ⟨w.heap.size + 1,0,none⟩ = some (.bool false) := by rw [hw0]; simp [go_sem]
 have k5 : w0.cell? ⟨w.heap.size + 1,1,none⟩ = some (.slice none 0 0) := by rw [hw0]; simp [go_sem]
 have k6 : w0.frozen? ⟨w.heap.size + 1,0,none⟩ = false := by rw [hw0]; simp [go_sem]
 have k7 : w0.frozen? ⟨w.heap.size + 1,1,none⟩ = false := by rw [hw0]; simp [go_sem]
 have HM := i' (k'7k (!b) _ m w0 (HR.out.below hb0.out (Nat.le_refl _)));have KK := i' (And.intro k4 (And.intro k5 (And.intro k6 k7)));have Hw0 := i' hw0;clear k4 k5 k6 k7 hw0 hvv;go_enter Tryz.func136,Tryz.ntmps136;go_wp2_with fail;rw [← Hw0.out];refine HM.out.mono ?_;rintro e wa ⟨v2,rfl,h5,b5⟩;have H5 := i' h5;obtain ⟨p2,b2,o2,c2,rfl,hr⟩ := h5;clear hr;have q4 := k'4i b5 KK.out.1;have q5 := k'4i b5 KK.out.2.1;have q6 := k'4j b5 KK.out.1 KK.out.2.2.1;have q7 := k'4j b5 KK.out.2.1 KK.out.2.2.2;have HZ := i' (k'7g hb0.out b5);clear b5;go_wp2;exact bodyPost_ret (v := .agg #[.bool (!b && m != 0),.slice p2 (Nm.dg D9 m).length c2]) (by simp [results,Tryz.results136,go_sem,q4,q5]) rfl ⟨_,rfl,H5.out.set2 q4 q5 (fun _ => by simp),(HZ.out.setCell (p := ⟨w.heap.size + 1,0,none⟩) (by simp) _).setCell (p := ⟨w.heap.size + 1,1,none⟩) (by simp) _⟩
theorem k'7z (a b : Bool) (v1 v2 : Value) (m n : Nat) (w : World) (h1 : Ri w v1 (Nm.dg D9 m)) (h2 : Ri w v2 (Nm.dg D9 n)) (l1 : (Nm.dg D9 m).length ≤ 1000000) (l2 : (Nm.dg D9 n).length ≤ 1000000) :
 Calls Tryz.prog 83 #[.agg #[.bool a,v1],.agg #[.bool b,v2]] w (MadeI ((!a == b) && m * n != 0) (m * n) w) := by
 have H1 := i' h1;have H2 := i' h2;obtain ⟨pa,ba,oa,ca,rfl,hr1⟩ := h1;obtain ⟨pb,bb,ob,cb,rfl,hr2⟩ := h2;clear hr1 hr2;have HT0 := i' (fun v1 v2 w' h1 h2 => k'7f v1 v2 m n w' h1 h2 l1 l2);clear l1 l2;generalize (Nm.dg D9 m).length = ma at *;generalize (Nm.dg D9 n).length = na at *;obtain ⟨w0,hw0⟩ : ∃ w0 : World,w0 = ((w.alloc (.cells #[.bool a,.slice pa ma ca] 52)).alloc (.cells #[.bool b,.slice pb na cb] 52)).alloc (.cells #[.bool false,.slice none 0 0] 52) := ⟨_,rfl⟩;have hb0 : Hid (Below w.heap.size w w0) := by rw [hw0]; exact (((Below.refl _ _).alloc (Nat.le_refl _) _).alloc (by simp) _).alloc (by simp; omega) _
 have k0 : w0.cell? ⟨w.heap.size,0,none⟩ = some (.bool a) := by rw [hw0]; simp [go_sem]
 have k1 : w0.cell? ⟨w.heap.size,1,none⟩ = some (.slice pa ma ca) := by rw [hw0]; simp [go_sem]
 have k2 : w0.cell? ⟨w.heap.size + 1,0,none⟩ = some (.bool b) := by rw [hw0]; simp [go_sem]
 have k3 : w0.cell? ⟨w.heap.size + 1,1,none⟩ = some (.slice pb na cb) := by rw [hw0]; simp [go_sem]
 have k4 : w0.cell? ⟨w.heap.size + 1 + 1,0,none⟩ = some (.bool false) := by rw [hw0]; simp [go_sem]
 have k5 : w0.cell? ⟨w.heap.size + 1 + 1,1,none⟩ = some (.slice none 0 0) := by rw [hw0]; simp [go_sem]
 have k6 : w0.frozen? ⟨w.heap.size + 1 + 1,0,none⟩ = false := by rw [hw0]; simp [go_sem]
 have k7 : w0.frozen? ⟨w.heap.size + 1 + 1,1,none⟩ = false := by rw [hw0]; simp [go_sem]
 have HTm := i' (fun w' (hb : Below w0.heap.size w0 w') => HT0.out _ _ w' (H1.out.below (k'4h hb0.out hb) (Nat.le_refl _)) (H2.out.below (k'4h hb0.out hb) (Nat.le_refl _)));have HMd := i' (fun v w h => k'7k (!a == b) v (m * n) w h);have Hw0 := i' hw0;have n1 : ¬ (w.heap.size = w.heap.size + 1 + 1) := by omega
 have n2 : ¬ (w.heap.size + 1 + 1 = w.heap.size) := by omega
 clear hw0;go_enter Tryz.func83,Tryz.ntmps83;go_wp2_with fail;rw [← Hw0.out];go_region_held3 (fun W' => W'.cell? ⟨w.heap.size,0,none⟩ = some (.bool a) ∧ W'.cell? ⟨w.heap.size,1,none⟩ = some (.slice pa ma ca) ∧ W'.cell? ⟨w.heap.size + 1,0,none⟩ = some (.bool b) ∧ W'.cell? ⟨w.heap.size + 1,1,none⟩ = some (.slice pb na cb)) (go_keep)
  (first
   | (go_at_call 124; (with_reducible refine (HTm.out _ ((Below.refl _ _).drew)).mono ?_); rintro e w1 ⟨vt,rfl,r1,b1⟩; have c1 := k'4h ((Below.refl _ _).drew) b1; have p0 := k'4i c1 k0; have p1 := k'4i c1 k1; have p2 := k'4i c1 k2; have p3 := k'4i c1 k3; have G1 := i' (And.intro r1 c1); clear r1 b1 c1)
   | (go_at_call 96; (with_reducible refine (HMd.out _ _ G1.out.1).mono ?_); rintro e w2 ⟨vm,rfl,r2,b2⟩; have c2 := k'4h G1.out.2 b2; have p0 := k'4i c2 k0; have p1 := k'4i c2 k1; have p2 := k'4i c2 k2; have p3 := k'4i c2 k3; have p4 := k'4i c2 k4; have p5 := k'4i c2 k5; have p6 := k'4j c2 k4 k6; have p7 := k'4j c2 k5 k7; have G2 := i' (And.intro r2 c2); obtain ⟨pm,bm,om,cm,rfl,hrm⟩ := r2; clear hrm b2 c2))
 have HZ := i' (k'4h hb0.out G2.out.2);go_wp2;exact bodyPost_ret (v := .agg #[.bool ((!a == b) && m * n != 0),.slice pm (Nm.dg D9 (m * n)).length cm]) (by simp [results,Tryz.results83,go_sem,p4,p5]) rfl ⟨_,rfl,G2.out.1.set2 p4 p5 (fun _ => by simp),(HZ.out.setCell (p := ⟨w.heap.size + 1 + 1,0,none⟩) (by simp; omega) _).setCell (p := ⟨w.heap.size + 1 + 1,1,none⟩) (by simp; omega) _⟩
theorem k'80 (a : Bool) (v1 v2 : Value) (m n : Nat) (w : World) (h1 : Ri w v1 (Nm.dg D9 m)) (h2 : Ri w v2 (Nm.dg D9 n)) (l1 : (Nm.dg D9 m).length ≤ 1000000) (l2 : (Nm.dg D9 n).length ≤ 1000000) :
 Calls Tryz.prog 82 #[.agg #[.bool a,v1],.agg #[.bool a,v2]] w (MadeI (a && (m + n) != 0) ((m + n)) w) := by
 have H1 := i' h1;have H2 := i' h2;obtain ⟨pa,ba,oa,ca,rfl,hr1⟩ := h1;obtain ⟨pb,bb,ob,cb,rfl,hr2⟩ := h2;clear hr1 hr2;have HT0 := i' (fun v1 v2 w' h1 h2 => k'6x v1 v2 m n w' h1 h2 l1 l2);clear l1 l2;generalize (Nm.dg D9 m).length = ma at *;generalize (Nm.dg D9 n).length = na at *;obtain ⟨w0,hw0⟩ : ∃ w0 : World,w0 = ((w.alloc (.cells #[.bool a,.slice pa ma ca] 52)).alloc (.cells #[.bool a,.slice pb na cb] 52)).alloc (.cells #[.bool false,.slice none 0 0] 52) := ⟨_,rfl⟩;have hb0 : Hid (Below w.heap.size w w0) := by rw [hw0]; exact (((Below.refl _ _).alloc (Nat.le_refl _) _).alloc (by simp) _).alloc (by simp; omega) _
 have k0 : w0.cell? ⟨w.heap.size,0,none⟩ = some (.bool a) := by rw [hw0]; simp [go_sem]
 have k1 : w0.cell? ⟨w.heap.size,1,none⟩ = some (.slice pa ma ca) := by rw [hw0]; simp [go_sem]
 have k2 : w0.cell? ⟨w.heap.size + 1,0,none⟩ = some (.bool a) := by rw [hw0]; simp [go_sem]
 have k3 : w0.cell? ⟨w.heap.size + 1,1,none⟩ = some (.slice pb na cb) := by rw [hw0]; simp [go_sem]
 have k4 : w0.cell? ⟨w.heap.size + 1 + 1,0,none⟩ = some (.bool false) := by rw [hw0]; simp [go_sem]
 have k5 : w0.cell? ⟨w.heap.size + 1 + 1,1,none⟩ = some (.slice none 0 0) := by rw [hw0]; simp [go_sem]
 have k6 : w0.frozen? ⟨w.heap.size + 1 + 1,0,none⟩ = false := by rw [hw0]; simp [go_sem]
 have k7 : w0.frozen? ⟨w.heap.size + 1 + 1,1,none⟩ = false := by rw [hw0]; simp [go_sem]
 have HTm := i' (fun w' (hb : Below w0.heap.size w0 w') => HT0.out _ _ w' (H1.out.below (k'4h hb0.out hb) (Nat.le_refl _)) (H2.out.below (k'4h hb0.out hb) (Nat.le_refl _)));have HMd := i' (fun v w h => k'7k a v ((m + n)) w h);have Hw0 := i' hw0;have n1 : ¬ (w.heap.size = w.heap.size + 1 + 1) := by omega
 have n2 : ¬ (w.heap.size + 1 + 1 = w.heap.size) := by omega
 clear hw0;go_enter Tryz.func82,Tryz.ntmps82;go_wp2_with fail;rw [← Hw0.out];go_region_held3 (fun W' => W'.cell? ⟨w.heap.size,0,none⟩ = some (.bool a) ∧ W'.cell? ⟨w.heap.size,1,none⟩ = some (.slice pa ma ca) ∧ W'.cell? ⟨w.heap.size + 1,0,none⟩ = some (.bool a) ∧ W'.cell? ⟨w.heap.size + 1,1,none⟩ = some (.slice pb na cb)) (go_keep)
  (first
   | (go_at_call 93; (with_reducible refine (HTm.out _ ((Below.refl _ _).drew)).mono ?_); rintro e w1 ⟨vt,rfl,r1,b1⟩; have c1 := k'4h ((Below.refl _ _).drew) b1; have p0 := k'4i c1 k0; have p1 := k'4i c1 k1; have p2 := k'4i c1 k2; have p3 := k'4i c1 k3; have G1 := i' (And.intro r1 c1); clear r1 b1 c1)
   | (go_at_call 96; (with_reducible refine (HMd.out _ _ G1.out.1).mono ?_); rintro e w2 ⟨vm,rfl,r2,b2⟩; have c2 := k'4h G1.out.2 b2; have p0 := k'4i c2 k0; have p1 := k'4i c2 k1; have p2 := k'4i c2 k2; have p3 := k'4i c2 k3; have p4 := k'4i c2 k4; have p5 := k'4i c2 k5; have p6 := k'4j c2 k4 k6; have p7 := k'4j c2 k5 k7; have G2 := i' (And.intro r2 c2); obtain ⟨pm,bm,om,cm,rfl,hrm⟩ := r2; clear hrm b2 c2))
 have HZ := i' (k'4h hb0.out G2.out.2);go_wp2;exact bodyPost_ret (v := .agg #[.bool (a && (m + n) != 0),.slice pm (Nm.dg D9 ((m + n))).length cm]) (by simp [results,Tryz.results82,go_sem,p4,p5]) rfl ⟨_,rfl,G2.out.1.set2 p4 p5 (fun _ => by simp),(HZ.out.setCell (p := ⟨w.heap.size + 1 + 1,0,none⟩) (by simp; omega) _).setCell (p := ⟨w.heap.size + 1 + 1,1,none⟩) (by simp; omega) _⟩
theorem k'81 (a b : Bool) (v1 v2 : Value) (m n : Nat) (w : World) (hab : (a == b) = false) (hmn : n ≤ m) (h1 : Ri w v1 (Nm.dg D9 m)) (h2 : Ri w v2 (Nm.dg D9 n)) (l1 : (Nm.dg D9 m).length ≤ 1000000) (l2 : (Nm.dg D9 n).length ≤ 1000000) :
 Calls Tryz.prog 82 #[.agg #[.bool a,v1],.agg #[.bool b,v2]] w (MadeI (a && (m - n) != 0) ((m - n)) w) := by
 have H1 := i' h1;have H2 := i' h2;obtain ⟨pa,ba,oa,ca,rfl,hr1⟩ := h1;obtain ⟨pb,bb,ob,cb,rfl,hr2⟩ := h2;clear hr1 hr2;have HO0 := i' (fun v1 v2 w' h1 h2 => k'6z v1 v2 m n w' h1 h2 l1 l2);have HT0 := i' (fun v1 v2 w' h1 h2 => k'72 v1 v2 m n w' hmn h1 h2 l1 l2);clear l1 l2;generalize (Nm.dg D9 m).length = ma at *;generalize (Nm.dg D9 n).length = na at *;obtain ⟨w0,hw0⟩ : ∃ w0 : World,w0 = ((w.alloc (.cells #[.bool a,.slice pa ma ca] 52)).alloc (.cells #[.bool b,.slice pb na cb] 52)).alloc (.cells #[.bool false,.slice none 0 0] 52) := ⟨_,rfl⟩;have hb0 : Hid (Below w.heap.size w w0) := by rw [hw0]; exact (((Below.refl _ _).alloc (Nat.le_refl _) _).alloc (by simp) _).alloc (by simp; omega) _
 have k0 : w0.cell? ⟨w.heap.size,0,none⟩ = some (.bool a) := by rw [hw0]; simp [go_sem]
 have k1 : w0.cell? ⟨w.heap.size,1,none⟩ = some (.slice pa ma ca) := by rw [hw0]; simp [go_sem]
 have k2 : w0.cell? ⟨w.heap.size + 1,0,none⟩ = some (.bool b) := by rw [hw0]; simp [go_sem]
 have k3 : w0.cell? ⟨w.heap.size + 1,1,none⟩ = some (.slice pb na cb) := by rw [hw0]; simp [go_sem]
 have k4 : w0.cell? ⟨w.heap.size + 1 + 1,0,none⟩ = some (.bool false) := by rw [hw0]; simp [go_sem]
 have k5 : w0.cell? ⟨w.heap.size + 1 + 1,1,none⟩ = some (.slice none 0 0) := by rw [hw0]; simp [go_sem]
 have k6 : w0.frozen? ⟨w.heap.size + 1 + 1,0,none⟩ = false := by rw [hw0]; simp [go_sem]
 have k7 : w0.frozen? ⟨w.heap.size + 1 + 1,1,none⟩ = false := by rw [hw0]; simp [go_sem]
 have HTm := i' (fun w' (hb : Below w.heap.size w w') => HT0.out _ _ w' (H1.out.below hb (Nat.le_refl _)) (H2.out.below hb (Nat.le_refl _)));have HMd := i' (fun v w h => k'7k a v ((m - n)) w h);have Hw0 := i' hw0;have n1 : ¬ (w.heap.size = w.heap.size + 1 + 1) := by omega
 have n2 : ¬ (w.heap.size + 1 + 1 = w.heap.size) := by omega
 clear hw0;go_enter Tryz.func82,Tryz.ntmps82;go_wp2_with fail;rw [← Hw0.out];have HO1 := HO0.out _ _ w0 (H1.out.below hb0.out (Nat.le_refl _)) (H2.out.below hb0.out (Nat.le_refl _));obtain ⟨cc,hcc⟩ : ∃ cc,cmpN m n = cc := ⟨_,rfl⟩;rw [hcc] at HO1;have hc : 0 ≤ cc := by rw [← hcc]; exact by have h5 := k'7t hmn; omega
 clear hcc;refine HO1.mono ?_;clear HO1;rintro e wx ⟨rfl,nq,rfl⟩;have hb1 := i' (below_drew' hb0.out nq);have k0 : (w0.drewN nq).cell? _ = _ := k0;have k1 : (w0.drewN nq).cell? _ = _ := k1;have k2 : (w0.drewN nq).cell? _ = _ := k2;have k3 : (w0.drewN nq).cell? _ = _ := k3;have k4 : (w0.drewN nq).cell? _ = _ := k4;have k5 : (w0.drewN nq).cell? _ = _ := k5;have k6 : (w0.drewN nq).frozen? _ = _ := k6;have k7 : (w0.drewN nq).frozen? _ = _ := k7;clear Hw0 hb0;have hb0 := hb1;clear hb1;generalize w0.drewN nq = wy at *;go_wp2_with fail;go_region_held3 (fun W' => W'.cell? ⟨w.heap.size,0,none⟩ = some (.bool a) ∧ W'.cell? ⟨w.heap.size,1,none⟩ = some (.slice pa ma ca) ∧ W'.cell? ⟨w.heap.size + 1,0,none⟩ = some (.bool b) ∧ W'.cell? ⟨w.heap.size + 1,1,none⟩ = some (.slice pb na cb)) (go_keep)
  (first
   | (go_at_call 123; (with_reducible refine (HTm.out _ (k'4h hb0.out ((Below.refl _ _).drew))).mono ?_); rintro e w1 ⟨vt,rfl,r1,b1⟩; have c1 := k'4h ((Below.refl _ _).drew) b1; have p0 := k'4i c1 k0; have p1 := k'4i c1 k1; have p2 := k'4i c1 k2; have p3 := k'4i c1 k3; have G1 := i' (And.intro r1 c1); clear r1 b1 c1)
   | (go_at_call 96; (with_reducible refine (HMd.out _ _ G1.out.1).mono ?_); rintro e w2 ⟨vm,rfl,r2,b2⟩; have c2 := k'4h G1.out.2 b2; have p0 := k'4i c2 k0; have p1 := k'4i c2 k1; have p2 := k'4i c2 k2; have p3 := k'4i c2 k3; have p4 := k'4i c2 k4; have p5 := k'4i c2 k5; have p6 := k'4j c2 k4 k6; have p7 := k'4j c2 k5 k7; have G2 := i' (And.intro r2 c2); obtain ⟨pm,bm,om,cm,rfl,hrm⟩ := r2; clear hrm b2 c2))
 have HZ := i' (k'4h hb0.out G2.out.2);go_wp2;exact bodyPost_ret (v := .agg #[.bool (a && (m - n) != 0),.slice pm (Nm.dg D9 ((m - n))).length cm]) (by simp [results,Tryz.results82,go_sem,p4,p5]) rfl ⟨_,rfl,G2.out.1.set2 p4 p5 (fun _ => by simp),(HZ.out.setCell (p := ⟨w.heap.size + 1 + 1,0,none⟩) (by simp; omega) _).setCell (p := ⟨w.heap.size + 1 + 1,1,none⟩) (by simp; omega) _⟩
theorem k'82 (a b : Bool) (v1 v2 : Value) (m n : Nat) (w : World) (hab : (a == b) = false) (hmn : m < n) (h1 : Ri w v1 (Nm.dg D9 m)) (h2 : Ri w v2 (Nm.dg D9 n)) (l1 : (Nm.dg D9 m).length ≤ 1000000) (l2 : (Nm.dg D9 n).length ≤ 1000000) :
 Calls Tryz.prog 82 #[.agg #[.bool a,v1],.agg #[.bool b,v2]] w (MadeI (b && (n - m) != 0) ((n - m)) w) := by
 have H1 := i' h1;have H2 := i' h2;obtain ⟨pa,ba,oa,ca,rfl,hr1⟩ := h1;obtain ⟨pb,bb,ob,cb,rfl,hr2⟩ := h2;clear hr1 hr2;have HO0 := i' (fun v1 v2 w' h1 h2 => k'6z v1 v2 m n w' h1 h2 l1 l2);have HT0 := i' (fun v1 v2 w' h1 h2 => k'72 v1 v2 n m w' (Nat.le_of_lt hmn) h1 h2 l2 l1);clear l1 l2;generalize (Nm.dg D9 m).length = ma at *;generalize (Nm.dg D9 n).length = na at *;obtain ⟨w0,hw0⟩ : ∃ w0 : World,w0 = ((w.alloc (.cells #[.bool a,.slice pa ma ca] 52)).alloc (.cells #[.bool b,.slice pb na cb] 52)).alloc (.cells #[.bool false,.slice none 0 0] 52) := ⟨_,rfl⟩;have hb0 : Hid (Below w.heap.size w w0) := by rw [hw0]; exact (((Below.refl _ _).alloc (Nat.le_refl _) _).alloc (by simp) _).alloc (by simp; omega) _
 have k0 : w0.cell? ⟨w.heap.size,0,none⟩ = some (.bool a) := by rw [hw0]; simp [go_sem]
 have k1 : w0.cell? ⟨w.heap.size,1,none⟩ = some (.slice pa ma ca) := by rw [hw0]; simp [go_sem]
 have k2 : w0.cell? ⟨w.heap.size + 1,0,none⟩ = some (.bool b) := by rw [hw0]; simp [go_sem]
 have k3 : w0.cell? ⟨w.heap.size + 1,1,none⟩ = some (.slice pb na cb) := by rw [hw0]; simp [go_sem]
 have k4 : w0.cell? ⟨w.heap.size + 1 + 1,0,none⟩ = some (.bool false) := by rw [hw0]; simp [go_sem]
 have k5 : w0.cell? ⟨w.heap.size + 1 + 1,1,none⟩ = some (.slice none 0 0) := by rw [hw0]; simp [go_sem]
 have k6 : w0.frozen? ⟨w.heap.size + 1 + 1,0,none⟩ = false := by rw [hw0]; simp [go_sem]
 have k7 : w0.frozen? ⟨w.heap.size + 1 + 1,1,none⟩ = false := by rw [hw0]; simp [go_sem]
 have HTm := i' (fun w' (hb : Below w.heap.size w w') => HT0.out _ _ w' (H2.out.below hb (Nat.le_refl _)) (H1.out.below hb (Nat.le_refl _)));have HMd := i' (fun v w h => k'7k b v ((n - m)) w h);have Hw0 := i' hw0;have n1 : ¬ (w.heap.size = w.heap.size + 1 + 1) := by omega
 have n2 : ¬ (w.heap.size + 1 + 1 = w.heap.size) := by omega
 clear hw0;go_enter Tryz.func82,Tryz.ntmps82;go_wp2_with fail;rw [← Hw0.out];have HO1 := HO0.out _ _ w0 (H1.out.below hb0.out (Nat.le_refl _)) (H2.out.below hb0.out (Nat.le_refl _));obtain ⟨cc,hcc⟩ : ∃ cc,cmpN m n = cc := ⟨_,rfl⟩;rw [hcc] at HO1;have hc : cc < 0 := by rw [← hcc]; exact k'7u hmn
 clear hcc;refine HO1.mono ?_;clear HO1;rintro e wx ⟨rfl,nq,rfl⟩;have hb1 := i' (below_drew' hb0.out nq);have k0 : (w0.drewN nq).cell? _ = _ := k0;have k1 : (w0.drewN nq).cell? _ = _ := k1;have k2 : (w0.drewN nq).cell? _ = _ := k2;have k3 : (w0.drewN nq).cell? _ = _ := k3;have k4 : (w0.drewN nq).cell? _ = _ := k4;have k5 : (w0.drewN nq).cell? _ = _ := k5;have k6 : (w0.drewN nq).frozen? _ = _ := k6;have k7 : (w0.drewN nq).frozen? _ = _ := k7;clear Hw0 hb0;have hb0 := hb1;clear hb1;generalize w0.drewN nq = wy at *;go_wp2_with fail;go_region_held3 (fun W' => W'.cell? ⟨w.heap.size,0,none⟩ = some (.bool a) ∧ W'.cell? ⟨w.heap.size,1,none⟩ = some (.slice pa ma ca) ∧ W'.cell? ⟨w.heap.size + 1,0,none⟩ = some (.bool b) ∧ W'.cell? ⟨w.heap.size + 1,1,none⟩ = some (.slice pb na cb)) (go_keep)
  (first
   | (go_at_call 123; (with_reducible refine (HTm.out _ (k'4h hb0.out ((Below.refl _ _).drew))).mono ?_); rintro e w1 ⟨vt,rfl,r1,b1⟩; have c1 := k'4h ((Below.refl _ _).drew) b1; have p0 := k'4i c1 k0; have p1 := k'4i c1 k1; have p2 := k'4i c1 k2; have p3 := k'4i c1 k3; have G1 := i' (And.intro r1 c1); clear r1 b1 c1)
   | (go_at_call 96; (with_reducible refine (HMd.out _ _ G1.out.1).mono ?_); rintro e w2 ⟨vm,rfl,r2,b2⟩; have c2 := k'4h G1.out.2 b2; have p0 := k'4i c2 k0; have p1 := k'4i c2 k1; have p2 := k'4i c2 k2; have p3 := k'4i c2 k3; have p4 := k'4i c2 k4; have p5 := k'4i c2 k5; have p6 := k'4j c2 k4 k6; have p7 := k'4j c2 k5 k7; have G2 := i' (And.intro r2 c2); obtain ⟨pm,bm,om,cm,rfl,hrm⟩ := r2; clear hrm b2 c2))
 have HZ := i' (k'4h hb0.out G2.out.2);go_wp2;exact bodyPost_ret (v := .agg #[.bool (b && (n - m) != 0),.slice pm (Nm.dg D9 ((n - m))).length cm]) (by simp [results,Tryz.results82,go_sem,p4,p5]) rfl ⟨_,rfl,G2.out.1.set2 p4 p5 (fun _ => by simp),(HZ.out.setCell (p := ⟨w.heap.size + 1 + 1,0,none⟩) (by simp; omega) _).setCell (p := ⟨w.heap.size + 1 + 1,1,none⟩) (by simp; omega) _⟩
def iV (z : Int) (v : Value) : Value := .agg #[.bool (decide (z < 0)),v]
abbrev Rz (w : World) (v : Value) (z : Int) : Prop := Ri w v (Nm.dg D9 z.natAbs)
def IntPost (z : Int) (w : World) (e : Ending) (w' : World) : Prop := ∃ v,e = .returned (iV z v) ∧ Rz w' v z ∧ Below w.heap.size w w'
theorem k'83 {b : Bool} {m : Nat} {z : Int} {w : World} (hz : z = if b = true then -(m : Int) else (m : Int)) : ∀ e w',MadeI (b && m != 0) m w e w' → IntPost z w e w' := by
 rintro e w' ⟨v,rfl,h1,h2⟩;have e1 : z.natAbs = m := by rw [hz]; split <;> omega
 have e2 : decide (z < 0) = (b && m != 0) := by
  rw [hz]
  cases b with
  | false => simp
  | true =>
   by_cases h0 : m = 0
   ·simp [h0]
   ·have h1 : 0 < m := by omega
    simp [h0,h1]
 exact ⟨v,by rw [iV,e2],by rw [Rz,e1]; exact h1,h2⟩
theorem k'84 (z : Int) (v : Value) (w : World) (h : Rz w v z) : Calls Tryz.prog 136 #[iV z v] w (IntPost (-z) w) := by
 refine (k'7y (decide (z < 0)) v z.natAbs w h).mono (k'83 ?_);by_cases hz : z < 0
 ·simp [hz]; omega
 ·simp [hz]; omega
theorem k'85 (z : Int) (v : Value) (w : World) (h : Rz w v z) : Calls Tryz.prog 50 #[iV z v] w (SignPost z.sign w) := by
 have := k'7x (decide (z < 0)) v z.natAbs w h;have e : sgnI (decide (z < 0)) z.natAbs = z.sign := by
  unfold sgnI;rcases Int.lt_trichotomy z 0 with g | g | g
  ·rw [Int.sign_eq_neg_one_of_neg g]; simp [g]; omega
  ·subst g; rfl
  ·rw [Int.sign_eq_one_of_pos g]
   have g2 : ¬ z < 0 := by omega
   simp [g2]; omega
 rw [e] at this;exact this
theorem k'86 (x y : Int) (v1 v2 : Value) (w : World) (h1 : Rz w v1 x) (h2 : Rz w v2 y) (l1 : (Nm.dg D9 x.natAbs).length ≤ 1000000) (l2 : (Nm.dg D9 y.natAbs).length ≤ 1000000) :
 Calls Tryz.prog 83 #[iV x v1,iV y v2] w (IntPost (x * y) w) := by
 refine (k'7z (decide (x < 0)) (decide (y < 0)) v1 v2 x.natAbs y.natAbs w h1 h2 l1 l2).mono (k'83 ?_);rcases Int.natAbs_eq x with ex | ex <;> rcases Int.natAbs_eq y with ey | ey
 all_goals
  generalize x.natAbs = m at *;generalize y.natAbs = n at *;subst ex ey;rcases Nat.eq_zero_or_pos m with h0 | h0 <;> rcases Nat.eq_zero_or_pos n with g0 | g0
 all_goals first
  | (subst h0; simp)
  | (subst g0; simp)
  | (have p1 : ¬ ((m : Int) < 0) := by omega
     have p2 : ¬ ((n : Int) < 0) := by omega
     have p3 : (-(m : Int) < 0) := by omega
     have p4 : (-(n : Int) < 0) := by omega
     simp [p1,p2,p3,p4,h0,g0,Int.mul_neg,Int.neg_mul])
theorem k'87 (x y : Int) (v1 v2 : Value) (w : World) (h1 : Rz w v1 x) (h2 : Rz w v2 y) (l1 : (Nm.dg D9 x.natAbs).length ≤ 1000000) (l2 : (Nm.dg D9 y.natAbs).length ≤ 1000000) :
 Calls Tryz.prog 82 #[iV x v1,iV y v2] w (IntPost (x + y) w) := by
 by_cases hs : decide (x < 0) = decide (y < 0)
 ·have h := k'80 (decide (x < 0)) v1 v2 x.natAbs y.natAbs w h1 h2 l1 l2
  have e : iV y v2 = .agg #[.bool (decide (x < 0)),v2] := by rw [iV,hs]
  rw [e];refine h.mono (k'83 ?_);by_cases hx : x < 0
  ·have hy : y < 0 := by simpa [hx] using hs.symm
   simp [hx]; omega
  ·have hy : ¬ y < 0 := by simpa [hx] using hs.symm
   simp [hx]; omega
 ·have hab : (decide (x < 0) == decide (y < 0)) = false := by simpa using hs
  rcases Nat.lt_or_ge x.natAbs y.natAbs with hl | hl
  ·refine (k'82 (decide (x < 0)) (decide (y < 0)) v1 v2 x.natAbs y.natAbs w hab hl h1 h2 l1 l2).mono (k'83 ?_)
   by_cases hx : x < 0 <;> by_cases hy : y < 0 <;> simp [hx,hy] at hs ⊢ <;> omega
  ·refine (k'81 (decide (x < 0)) (decide (y < 0)) v1 v2 x.natAbs y.natAbs w hab hl h1 h2 l1 l2).mono (k'83 ?_)
   by_cases hx : x < 0 <;> by_cases hy : y < 0 <;> simp [hx,hy] at hs ⊢ <;> omega
theorem k'88 (x y : Int) (v1 v2 : Value) (w : World) (h1 : Rz w v1 x) (h2 : Rz w v2 y) (l1 : (Nm.dg D9 x.natAbs).length ≤ 1000000) (l2 : (Nm.dg D9 y.natAbs).length ≤ 1000000) :
 Calls Tryz.prog 117 #[iV x v1,iV y v2] w (IntPost (x - y) w) := by
 have H1 := i' h1;have H2 := i' h2;obtain ⟨pa,ba,oa,ca,rfl,hr1⟩ := h1;obtain ⟨pb,bb,ob,cb,rfl,hr2⟩ := h2;clear hr1 hr2;have HNg0 := i' (fun v w' h => k'84 y v w' h);have HAd0 := i' (fun v1 v2 w' h1 h2 => k'87 x (-y) v1 v2 w' h1 h2 l1 (by rw [Int.natAbs_neg]; exact l2))
 have HZZ : Hid (x + -y = x - y) := Int.sub_eq_add_neg.symm;unfold iV at *;clear l1 l2;generalize (Nm.dg D9 x.natAbs).length = ma at *;generalize (Nm.dg D9 y.natAbs).length = na at *;generalize decide (x < 0) = a at *;generalize decide (y < 0) = b at *;obtain ⟨nb,hnb⟩ : ∃ nb,decide (-y < 0) = nb := ⟨_,rfl⟩;simp only [hnb] at HAd0;have HNB := i' hnb;obtain ⟨zb,hzb⟩ : ∃ zb,decide (x - y < 0) = zb := ⟨_,rfl⟩;have HZB := i' hzb;clear hnb hzb;obtain ⟨w0,hw0⟩ : ∃ w0 : World,w0 = ((w.alloc (.cells #[.bool a,.slice pa ma ca] 52)).alloc (.cells #[.bool b,.slice pb na cb] 52)).alloc (.cells #[.bool false,.slice none 0 0] 52) := ⟨_,rfl⟩;have hb0 : Hid (Below w.heap.size w w0) := by rw [hw0]; exact (((Below.refl _ _).alloc (Nat.le_refl _) _).alloc (by simp) _).alloc (by simp; omega) _
 have k0 : w0.cell? ⟨w.heap.size,0,none⟩ = some (.bool a) := by rw [hw0]; simp [go_sem]
 have k1 : w0.cell? ⟨w.heap.size,1,none⟩ = some (.slice pa ma ca) := by rw [hw0]; simp [go_sem]
 have k2 : w0.cell? ⟨w.heap.size + 1,0,none⟩ = some (.bool b) := by rw [hw0]; simp [go_sem]
 have k3 : w0.cell? ⟨w.heap.size + 1,1,none⟩ = some (.slice pb na cb) := by rw [hw0]; simp [go_sem]
 have k4 : w0.cell? ⟨w.heap.size + 1 + 1,0,none⟩ = some (.bool false) := by rw [hw0]; simp [go_sem]
 have k5 : w0.cell? ⟨w.heap.size + 1 + 1,1,none⟩ = some (.slice none 0 0) := by rw [hw0]; simp [go_sem]
 have k6 : w0.frozen? ⟨w.heap.size + 1 + 1,0,none⟩ = false := by rw [hw0]; simp [go_sem]
 have k7 : w0.frozen? ⟨w.heap.size + 1 + 1,1,none⟩ = false := by rw [hw0]; simp [go_sem]
 have Hw0 := i' hw0;have n1 : ¬ (w.heap.size = w.heap.size + 1 + 1) := by omega
 have n2 : ¬ (w.heap.size + 1 + 1 = w.heap.size) := by omega
 clear hw0;go_enter Tryz.func117,Tryz.ntmps117;go_wp2_with fail;rw [← Hw0.out];go_region_held3 (fun W' => W'.cell? ⟨w.heap.size,0,none⟩ = some (.bool a) ∧ W'.cell? ⟨w.heap.size,1,none⟩ = some (.slice pa ma ca) ∧ W'.cell? ⟨w.heap.size + 1,0,none⟩ = some (.bool b) ∧ W'.cell? ⟨w.heap.size + 1,1,none⟩ = some (.slice pb na cb)) (go_keep)
  (first
   | (go_at_call 136; (with_reducible refine (HNg0.out _ _ (H2.out.below (k'4h hb0.out ((Below.refl _ _).drew)) (Nat.le_refl _))).mono ?_); rintro e w1 ⟨vt,he,r1,b1⟩; unfold iV at he; rw [HNB.out] at he; subst he; have c1 := k'4h ((Below.refl _ _).drew) b1; have p0 := k'4i c1 k0; have p1 := k'4i c1 k1; have p2 := k'4i c1 k2; have p3 := k'4i c1 k3; have G1 := i' (And.intro r1 c1); clear r1 b1 c1)
   | (go_at_call 82; (with_reducible refine (HAd0.out _ _ _ (H1.out.below (k'4h hb0.out G1.out.2) (Nat.le_refl _)) G1.out.1).mono ?_); rintro e w2 ⟨vm,he,r2,b2⟩; rw [HZZ.out] at he r2; unfold iV at he; rw [HZB.out] at he; subst he; have c2 := k'4h G1.out.2 b2; have p0 := k'4i c2 k0; have p1 := k'4i c2 k1; have p2 := k'4i c2 k2; have p3 := k'4i c2 k3; have p4 := k'4i c2 k4; have p5 := k'4i c2 k5; have p6 := k'4j c2 k4 k6; have p7 := k'4j c2 k5 k7; have G2 := i' (And.intro r2 c2); obtain ⟨pm,bm,om,cm,rfl,hrm⟩ := r2; clear hrm b2 c2))
 have HZ := i' (k'4h hb0.out G2.out.2);go_wp2;exact bodyPost_ret (v := .agg #[.bool zb,.slice pm (Nm.dg D9 (x - y).natAbs).length cm]) (by simp [results,Tryz.results117,go_sem,p4,p5]) rfl ⟨_,by rw [iV,HZB.out],G2.out.1.set2 p4 p5 (fun _ => by simp),(HZ.out.setCell (p := ⟨w.heap.size + 1 + 1,0,none⟩) (by simp; omega) _).setCell (p := ⟨w.heap.size + 1 + 1,1,none⟩) (by simp; omega) _⟩
theorem k'89 (x y : Int) (v1 v2 : Value) (w : World) (h1 : Rz w v1 x) (h2 : Rz w v2 y) (l1 : (Nm.dg D9 x.natAbs).length ≤ 1000000) (l2 : (Nm.dg D9 y.natAbs).length ≤ 1000000) :
 Calls Tryz.prog 113 #[iV x v1,iV y v2] w (SignPost (x - y).sign w) := by
 have H1 := i' h1;have H2 := i' h2;have HSb := i' (fun v1 v2 w' h1 h2 => k'88 x y v1 v2 w' h1 h2 l1 l2);have HSg := i' (fun v w' h => k'85 (x - y) v w' h);obtain ⟨pa,ba,oa,ca,rfl,hr1⟩ := h1;obtain ⟨pb,bb,ob,cb,rfl,hr2⟩ := h2;clear hr1 hr2 l1 l2;unfold iV at *;generalize (Nm.dg D9 x.natAbs).length = ma at *;generalize (Nm.dg D9 y.natAbs).length = na at *;generalize decide (x < 0) = a at *;generalize decide (y < 0) = b at *;obtain ⟨zb,hzb⟩ : ∃ zb,decide (x - y < 0) = zb := ⟨_,rfl⟩;simp only [hzb] at HSg;have HZB := i' hzb;clear hzb;obtain ⟨w0,hw0⟩ : ∃ w0 : World,w0 = (w.alloc (.cells #[.bool a,.slice pa ma ca] 52)).alloc (.cells #[.bool b,.slice pb na cb] 52) := ⟨_,rfl⟩;have hb0 : Hid (Below w.heap.size w w0) := by rw [hw0]; exact ((Below.refl _ _).alloc (Nat.le_refl _) _).alloc (by simp) _
 have Hw0 := i' hw0;clear hw0;go_enter Tryz.func113,Tryz.ntmps113;go_wp2_with fail;rw [← Hw0.out];refine (HSb.out _ _ _ (H1.out.below hb0.out (Nat.le_refl _)) (H2.out.below hb0.out (Nat.le_refl _))).mono ?_;rintro e w1 ⟨v,he,r1,b1⟩;unfold iV at he;rw [HZB.out] at he;subst he;have G1 := i' (And.intro r1 (k'7g hb0.out b1));clear r1 b1;go_wp2_with fail;refine (HSg.out _ _ G1.out.1).mono ?_;rintro e w2 ⟨rfl,b2⟩;have G2 := i' (k'7g G1.out.2 b2);clear b2;go_wp2;go_ret;exact ⟨rfl,G2.out⟩
theorem k'8a {n : Nat} (hn : n < 9223372036854775808) : Nm.trimL [n % 1000000000,n / 1000000000 % 1000000000,n / 1000000000 / 1000000000] = Nm.dg D9 n := by
 have h1 : Nm.Dig D9 [n % 1000000000,n / 1000000000 % 1000000000,n / 1000000000 / 1000000000] :=
  Nm.dig_cons.2 ⟨Nat.mod_lt _ (by decide),Nm.dig_cons.2 ⟨Nat.mod_lt _ (by decide),Nm.dig_cons.2 ⟨by unfold D9; omega,Nm.dig_nil _⟩⟩⟩
 rw [Nm.trimL_dg D92 h1]
 congr 1
 simp only [Nm.val_cons,Nm.val_nil];unfold D9;omega
theorem Ri.three (w : World) (a b c : Nat) : Ri (w.alloc (.cells #[.int .i64 (a : Int),.int .i64 (b : Int),.int .i64 (c : Int)] 3)) (.slice (some ⟨w.heap.size,0,none⟩) 3 3) [a,b,c] :=
 Ri.of_ari (g := w.heap.size) (l := [a,b,c]) (heap_alloc_new w _) 3 rfl (by decide)
theorem k'8b (n : Nat) (w : World) (hn : n < 9223372036854775808) :
 Calls Tryz.prog 74 #[.int .i64 (n : Int)] w (IntPost (n : Int) w) := by
 have HD := i' (k'8a hn);obtain ⟨x0,h0⟩ : ∃ x0,n % 1000000000 = x0 := ⟨_,rfl⟩;obtain ⟨x1,h1⟩ : ∃ x1,n / 1000000000 % 1000000000 = x1 := ⟨_,rfl⟩;obtain ⟨x2,h2⟩ : ∃ x2,n / 1000000000 / 1000000000 = x2 := ⟨_,rfl⟩;rw [h0,h1,h2] at HD;have e0 : (n : Int) % 1000000000 = (x0 : Int) := by omega
 have e1 : (n : Int) / 1000000000 % 1000000000 = (x1 : Int) := by omega
 have e2 : (n : Int) / 1000000000 / 1000000000 = (x2 : Int) := by omega
 have HM := i' (fun v w h => (k'7k false v n w h).mono (k'83 (z := (n : Int)) (by simp)))
 have HT := i' (fun v xs w h => k'6s v xs w h);obtain ⟨w0,hw0⟩ : ∃ w0 : World,w0 = w.alloc (.cells #[.bool false,.slice none 0 0] 52) := ⟨_,rfl⟩;have hb0 : Hid (Below w.heap.size w w0) := by rw [hw0]; exact k'7h _ _
 have k4 : w0.cell? ⟨w.heap.size,0,none⟩ = some (.bool false) := by rw [hw0]; simp [go_sem]
 have k5 : w0.cell? ⟨w.heap.size,1,none⟩ = some (.slice none 0 0) := by rw [hw0]; simp [go_sem]
 have k6 : w0.frozen? ⟨w.heap.size,0,none⟩ = false := by rw [hw0]; simp [go_sem]
 have k7 : w0.frozen? ⟨w.heap.size,1,none⟩ = false := by rw [hw0]; simp [go_sem]
 have h3 := Ri.three w0 x0 x1 x2;have b3 := k'7h w0 (.cells #[.int .i64 (x0 : Int),.int .i64 (x1 : Int),.int .i64 (x2 : Int)] 3);have hsz : w0.heap.size = w.heap.size + 1 := by rw [hw0]; simp
 rw [hsz] at h3;have G3 := i' (And.intro h3 b3);have Hw0 := i' hw0;have KK := i' (And.intro k4 (And.intro k5 (And.intro k6 k7)));obtain ⟨nn,hnn⟩ : ∃ nn : Int,(n : Int) = nn := ⟨_,rfl⟩;have hn0 : 0 ≤ nn := by omega
 have hn1 : nn < 9223372036854775808 := by omega
 rw [hnn] at e0 e1 e2 HM ⊢;clear h0 h1 h2 h3 b3 hsz hw0 k4 k5 k6 k7 hn hnn;go_enter Tryz.func74,Tryz.ntmps74;go_wp2_with fail;rw [← Hw0.out];refine (HT.out _ _ _ G3.out.1).mono ?_;rintro e w5 ⟨v5,rfl,h5,rfl⟩;rw [HD.out] at h5;have H5 := i' h5;clear h5;go_wp2_with fail;refine (HM.out _ _ H5.out).mono ?_;rintro e w6 ⟨v6,he,h6,b6⟩;unfold iV at he;obtain ⟨zb,hzb⟩ : ∃ zb,decide (nn < 0) = zb := ⟨_,rfl⟩;rw [hzb] at he;have HZB := i' hzb;clear hzb;subst he;have c6 := k'7g G3.out.2 b6;have q4 := k'4i c6 KK.out.1;have q5 := k'4i c6 KK.out.2.1;have q6 := k'4j c6 KK.out.1 KK.out.2.2.1;have q7 := k'4j c6 KK.out.2.1 KK.out.2.2.2;have H6 := i' h6;have HZ := i' (k'7g hb0.out c6);obtain ⟨pm,bm,om,cm,rfl,hrm⟩ := h6;clear hrm b6 c6;go_wp2;exact bodyPost_ret (v := .agg #[.bool zb,.slice pm (Nm.dg D9 nn.natAbs).length cm]) (by simp [results,Tryz.results74,go_sem,q4,q5]) rfl ⟨_,by rw [iV,HZB.out],H6.out.set2 q4 q5 (fun _ => by simp),(HZ.out.setCell (p := ⟨w.heap.size,0,none⟩) (Nat.le_refl _) _).setCell (p := ⟨w.heap.size,1,none⟩) (Nat.le_refl _) _⟩
theorem Ri.uniq {w : World} {v : Value} {xs ys : List Nat} (h : Ri w v xs) (k : Ri w v ys) : xs = ys := by
 obtain ⟨p,b,off,cap,h1,h2,h3,h4,h5,h6⟩ := h;obtain ⟨q,c,o,cp,k1,k2,k3,k4,k5,k6⟩ := k;rw [h1] at k1;obtain ⟨rfl,hl,rfl⟩ := Value.slice.inj k1;refine List.ext_getElem hl fun i hx hy => ?_;have e1 := h4 (by intro e; rw [e] at hx; exact absurd hx (Nat.not_lt_zero _))
 have e2 := k4 (by intro e; rw [e] at hy; exact absurd hy (Nat.not_lt_zero _))
 rw [e1] at e2;obtain ⟨rfl,rfl⟩ : b = c ∧ off = o := by simpa using e2
 have e3 := h6 i hx;rw [k6 i hy] at e3;have e4 := (Value.int.inj (Option.some.inj e3)).2;omega
open Classical in
noncomputable def numOf (w : World) (v : Value) : Nat := if h : ∃ n,Ri w v (Nm.dg D9 n) then h.choose else 0
theorem k'8c {w : World} {v : Value} {n : Nat} (h : Ri w v (Nm.dg D9 n)) : numOf w v = n := by
 have hx : ∃ n,Ri w v (Nm.dg D9 n) := ⟨n,h⟩;unfold numOf;rw [dif_pos hx];have e := hx.choose_spec.uniq h;have e2 := congrArg (Nm.val D9) e;rwa [Nm.val_dg D92,Nm.val_dg D92] at e2
theorem k'8d {a b : Nat} (h : a ≤ b) : (Nm.dg D9 a).length ≤ (Nm.dg D9 b).length := by
 refine Nm.len_le_of_val D92 (Nm.nrm_dg D92 a) ?_;rw [Nm.val_dg D92];have h1 := Nm.val_lt (Nm.dig_dg D92 b);rw [Nm.val_dg D92] at h1;omega
theorem k'8e (x y : Int) (v1 v2 : Value) (w : World) (h1 : Rz w v1 x) (h2 : Rz w v2 y) (l1 : (Nm.dg D9 x.natAbs).length ≤ 100000) (l2 : (Nm.dg D9 y.natAbs).length ≤ 100000) :
 Calls Tryz.prog 97 #[iV x v1,iV y v2] w (IntPost (Nat.gcd x.natAbs y.natAbs : Nat) w) := by
 have H1 := i' (show Ri w v1 (Nm.dg D9 x.natAbs) from h1);have H2 := i' (show Ri w v2 (Nm.dg D9 y.natAbs) from h2);have L := i' (And.intro l1 l2);obtain ⟨pa,ba,oa,ca,rfl,hr1⟩ := h1;obtain ⟨pb,bb,ob,cb,rfl,hr2⟩ := h2;clear hr1 hr2 l1 l2;unfold iV at *;generalize x.natAbs = m0 at *;generalize y.natAbs = n0 at *;generalize decide (x < 0) = a at *;generalize decide (y < 0) = b at *;obtain ⟨G,hG⟩ : ∃ G,Nat.gcd m0 n0 = G := ⟨_,rfl⟩;rw [hG];have HG := i' hG;clear hG;have HM := i' (fun v w h => (k'7k false v G w h).mono (k'83 (z := (G : Int)) (by simp)))
 have HO := i' (fun v1 v2 m n w hn h1 h2 l1 l2 => k'7w v1 v2 m n w hn h1 h2 l1 l2);generalize hma : (Nm.dg D9 m0).length = ma at *;generalize hna : (Nm.dg D9 n0).length = na at *;obtain ⟨w0,hw0⟩ : ∃ w0 : World,w0 = ((w.alloc (.cells #[.bool a,.slice pa ma ca] 52)).alloc (.cells #[.bool b,.slice pb na cb] 52)).alloc (.cells #[.bool false,.slice none 0 0] 52) := ⟨_,rfl⟩;have hb0 : Hid (Below w.heap.size w w0) := by rw [hw0]; exact (((Below.refl _ _).alloc (Nat.le_refl _) _).alloc (by simp) _).alloc (by simp; omega) _
 have k1 : w0.cell? ⟨w.heap.size,1,none⟩ = some (.slice pa ma ca) := by rw [hw0]; simp [go_sem]
 have k3 : w0.cell? ⟨w.heap.size + 1,1,none⟩ = some (.slice pb na cb) := by rw [hw0]; simp [go_sem]
 have k4 : w0.cell? ⟨w.heap.size + 1 + 1,0,none⟩ = some (.bool false) := by rw [hw0]; simp [go_sem]
 have k5 : w0.cell? ⟨w.heap.size + 1 + 1,1,none⟩ = some (.slice none 0 0) := by rw [hw0]; simp [go_sem]
 have k6 : w0.frozen? ⟨w.heap.size + 1 + 1,0,none⟩ = false := by rw [hw0]; simp [go_sem]
 have k7 : w0.frozen? ⟨w.heap.size + 1 + 1,1,none⟩ = false := by rw [hw0]; simp [go_sem]
 have KK := i' (And.intro k4 (And.intro k5 (And.intro k6 k7)));have Hw0 := i' hw0;have HA := i' (And.intro hma hna);clear hw0 k4 k5 k6 k7 hma hna;go_enter Tryz.func97,Tryz.ntmps97;go_wp2_with fail;rw [← Hw0.out];go_quiet (fail);go_wp2_with fail;go_loopw [5,6] (fun av bv wr => ∃ (wz : World) (m n : Nat),wz = wr ∧ Hid (Ri wz av (Nm.dg D9 m)) ∧ Hid (Ri wz bv (Nm.dg D9 n)) ∧ Hid (Nat.gcd m n = G) ∧ Hid ((Nm.dg D9 m).length ≤ 100000) ∧ Hid ((Nm.dg D9 n).length ≤ 100000) ∧ Hid (Below w0.heap.size w0 wz))
  (fun _ bv wr => numOf wr bv)
 case atStart =>
  have hbq := below_drew' (Below.refl w0.heap.size w0) nq;exact ⟨_,m0,n0,rfl,H1.out.below (k'7g hb0.out hbq) (Nat.le_refl _),H2.out.below (k'7g hb0.out hbq) (Nat.le_refl _),HG,by have := L.out.1; have h5 := HA.out.1; show _ ≤ _; omega,by have := L.out.2; have h5 := HA.out.2; show _ ≤ _; omega,hbq⟩
 case round =>
  obtain ⟨wr,m,n,rfl,hra,hrb,hg,hlm,hln,hbl⟩ := hrel;obtain ⟨pq,bq,oq,cq,rfl,hrq⟩ := hrb.out;clear hrq;rcases Nat.eq_zero_or_pos n with hn0 | hn0
  ·have hl0 : ¬ (0 < ((Nm.dg D9 n).length : Int)) := fun h => k'7j.1 h hn0
   have HGm : Hid (m = G) := by have h5 := hg.out; rw [hn0,Nat.gcd_zero_right] at h5; exact h5
   clear hn0;have HMm := i' (HM.out _ _ (by rw [← HGm.out]; exact hra.out))
   go_wp2_with fail;refine HMm.out.mono ?_;rintro e w6 ⟨v6,he,h6,b6⟩;unfold iV at he;obtain ⟨zb,hzb⟩ : ∃ zb,decide ((G : Int) < 0) = zb := ⟨_,rfl⟩;rw [hzb] at he;have HZB := i' hzb;clear hzb;subst he;have c6 := k'7g hbl.out b6;have q4 := k'4i c6 KK.out.1;have q5 := k'4i c6 KK.out.2.1;have q6 := k'4j c6 KK.out.1 KK.out.2.2.1;have q7 := k'4j c6 KK.out.2.1 KK.out.2.2.2;have H6 := i' h6;have HZ := i' (k'7g hb0.out c6);obtain ⟨pm,bm,om,cm,rfl,hrm⟩ := h6;clear hrm b6 c6;go_wp2;exact bodyPost_ret (v := .agg #[.bool zb,.slice pm (Nm.dg D9 (G : Int).natAbs).length cm]) (by simp [results,Tryz.results97,go_sem,q4,q5]) rfl ⟨_,by rw [iV,HZB.out],H6.out.set2 q4 q5 (fun _ => by simp),(HZ.out.setCell (p := ⟨w.heap.size + 1 + 1,0,none⟩) (by simp; omega) _).setCell (p := ⟨w.heap.size + 1 + 1,1,none⟩) (by simp; omega) _⟩
  ·have hl0 : 0 < ((Nm.dg D9 n).length : Int) := k'7j.2 (by omega)
   have HOv := i' (HO.out _ _ m n wr hn0 hra.out hrb.out hlm.out hln.out);have Hn0 := i' hn0;clear hn0;go_wp2_with fail;refine HOv.out.mono ?_;rintro e w6 ⟨q,r,rfl,hq,hr,b6⟩;have HR := i' hr;have HN2 := i' (hrb.out.below b6 (Nat.le_refl _));have HB := i' (k'7g hbl.out b6);have HGG : Hid (Nat.gcd n (m % n) = G) := by have h5 := hg.out; rw [Nat.gcd_comm,Nat.gcd_rec] at h5; rw [Nat.gcd_comm]; exact h5
   have HLR : Hid ((Nm.dg D9 (m % n)).length ≤ 100000) := by have h5 := k'8d (Nat.le_of_lt (Nat.mod_lt m Hn0.out)); have h6 := hln.out; show _ ≤ _; omega
   have HNUM : Hid (numOf w6 r < numOf wr (.slice pq (Nm.dg D9 n).length cq)) := by
    show _ < _;rw [k'8c hr,k'8c hrb.out];exact Nat.mod_lt m Hn0.out
   clear hq hr b6;go_wp2;go_roundw
   case rel => exact ⟨_,n,m % n,rfl,HN2,HR,HGG,hln,HLR,HB⟩
   case measure => exact HNUM.out
end Go.Proofs.YtepddegphdlbeaaGreat
