/- What the theorem leans on, part Y14. -/
import Derived.Test.YtepddegphdlbeaaGreatY12
import Derived.Test.YtepddegphdlbeaaGreatY11
import Derived.Test.YtepddegphdlbeaaGreatY10
import Derived.Test.YtepddegphdlbeaaGreatY7
import Derived.Test.YtepddegphdlbeaaGreatY4
import Derived.Test.YtepddegphdlbeaaGreatY3
import Derived.Test.YtepddegphdlbeaaGreatY2
import Derived.Test.YtepddegphdlbeaaGreatY1
import Derived.Test.YtepddegphdlbeaaGreatY0
import Derived.Test.YtepddegphdlbeaaGreatProg
import Derived.WalkKit
import Derived.WalkSpells
import Derived.WalkLawsBesides
import Derived.Lib.Hide
import Derived.Deep.QuietTactic
import Derived.BigQuiet
import Derived.Shelf.Small.Bits
import Derived.Shelf.Small.Wraps
import Derived.Shelf.Strconv.Itoa0
import Derived.Shelf.Bits.Mul64
import Derived.Ground.Names2Prog
import Derived.Shelf.Slices.SearchI
import Derived.Shelf.Spec.BitsCarry
import Derived.Deep.LoopGhost
import Derived.Deep.RegionHeld3
import Derived.Deep.DeepCutAuto
import Derived.Test.YtepddegphdlbeaaGreatY6
import Derived.Test.YtepddegphdlbeaaGreatY5
import Derived.Laws.AppendOwnNone
import Derived.Test.YtepddegphdlbeaaGreatY8
import Derived.Test.YtepddegphdlbeaaGreatY9
import Derived.Below
import Derived.Maps.AppendAt
import Derived.Lib.SliceRun
import Derived.Test.YtepddegphdlbeaaGreatY13
import Derived.IntWalk
import Derived.RangeFuncNested
import Derived.RangeFuncBound
import Derived.RangeFuncCalls
import Derived.RangeFuncLeaves
import Derived.Shelf.Abstract
import Derived.Shelf.RegionOpen
import Derived.OwnWalkIn
import Derived.TacticsInMore
import Derived.LoopNIn
import Derived.LoopIn
import Derived.OrdersIn
import Derived.Deep.RegionHeld
set_option maxRecDepth 100000
set_option maxHeartbeats 16000000
set_option linter.all false
namespace Go.Proofs.YtepddegphdlbeaaGreat
open Go.RowKit
theorem k'hd (m : Nat) (p r : List Int) (v : Value) (w : World) (h : Rp w v p) (hr : r.length = p.length) (hl : p.length ≤ 100)
 (hF : ∀ k wr (hk : k < p.length) (hk2 : k < r.length),Below w.heap.size w wr → Calls Tryz.prog 88 #[.int .i64 (k : Int),Z p[k],.pointer (some ⟨m,0,none⟩)] wr (Ret (Z r[k]) wr)) :
 Calls Tryz.prog 87 #[v,.func (.func 88) #[] #[.pointer (some ⟨m,0,none⟩)]] w (RpPost r w) := by
 obtain ⟨a,b,off,cap,rfl,h2,h3,h4,h5⟩ := h.open_;have HCl := i' (fun w' (hb : Below w.heap.size w w') => k'gd p _ w' (h.below hb) hl);have HF := i' hF;have HR := i' hr;clear h2 h3 h4 h5 h hF hr;obtain ⟨n,hn⟩ : ∃ n,n = p.length := ⟨_,rfl⟩;rw [← hn] at hl ⊢;rw [← hn] at HCl;have HN := i' hn;clear hn;go_enter Tryz.func87,Tryz.ntmps87;go_wp2_with fail;refine (HCl.out _ (Below.refl _ _)).mono ?_;rintro e w1 ⟨a1,n1,cap1,rfl,hr1,ho1,hb1⟩;obtain rfl : n1 = n := by
  obtain ⟨_,_,_,_,e1,_⟩ := hr1.open_;injection e1 with _ e2 _;exact e2.trans HN.out.symm
 have HB1 := i' hb1;have HO1 := i' ho1;have HR1 := i' hr1;clear hb1 ho1 hr1;rcases Nat.eq_zero_or_pos n1 with h0 | h0
 ·subst h0
  have HZ : Hid (r = []) := List.eq_nil_of_length_eq_zero (by have h5 : 0 = p.length := HN.out; have h6 : r.length = p.length := HR.out; omega)
  have HE : Hid (p = []) := List.eq_nil_of_length_eq_zero HN.out.symm;go_wp2;go_loop [12] (fun i => i = .int .i64 0) (fun _ => 0)
  case atStart => rfl
  case round =>
   obtain rfl := hrel;go_wp2;go_ret;exact ⟨_,rfl,by rw [HZ.out,← HE.out]; exact HR1.out,HB1.out⟩
 ·have hp : p ≠ [] := by intro e; have h5 : n1 = p.length := HN.out; rw [e] at h5; simp at h5; omega
  obtain ⟨g,rfl,hg,haw⟩ := HO1.out hp;have HA := i' haw;have HG := i' hg;have HR1' := HR1;have hcap : n1 ≤ cap1 ∧ cap1 ≤ maxLen := by
   obtain ⟨_,_,_,_,e1,e2,e3,_⟩ := HR1.out.open_;injection e1 with _ e4 e5;subst e4 e5;exact ⟨e2,e3⟩
  have HCap := i' hcap;clear haw hg hp hcap HR1' HO1 HR1;go_wp2;go_loopw [6,7,12] (fun _ _ iv wr => ∃ (wz : World) (k : Nat),wz = wr ∧ k ≤ n1 ∧ iv = .int .i64 (k : Int) ∧ Hid (Aw wz g (r.take k ++ p.drop k)) ∧ Hid (Below w.heap.size w wz))
   (fun _ _ iv _ => n1 - (intOf iv).toNat)
  case atStart => exact ⟨w1,0,rfl,Nat.zero_le _,rfl,by rw [List.take_zero,List.nil_append,List.drop_zero]; exact HA.out,HB1.out⟩
  case round =>
   clear HA HB1;obtain ⟨wz,k,rfl,hk,rfl,haw,hbl⟩ := hrel;by_cases hlt : k < n1
   ·have hkp : k < p.length := by have h5 : n1 = p.length := HN.out; omega
    have hkr : k < r.length := by have h5 : n1 = p.length := HN.out; have h6 : r.length = p.length := HR.out; omega
    have hkl : k < (r.take k ++ p.drop k).length := by simp; omega
    have hx : (r.take k ++ p.drop k)[k] = p[k] := by
     rw [List.getElem_append_right (by simp; omega)]
     have e : min k r.length = k := by omega
     simp [e]
    obtain ⟨c0,c1⟩ := haw.out.cell k hkl;rw [hx] at c0 c1;have HFk := i' (fun wr hb => HF.out k wr hkp hkr hb);have hset : Hid ((r.take k ++ p.drop k).set k r[k] = r.take (k + 1) ++ p.drop (k + 1)) := by
     show _ = _;have e : (r.take k).length = k := by simp; omega
     rw [List.set_append_right _ _ (by omega),e,Nat.sub_self,List.drop_eq_getElem_cons hkp,List.set_cons_zero,List.take_succ_eq_append_getElem hkr,List.append_assoc]
     rfl
    have hglt := haw.out.lt;have u1 : ¬ g = wz.heap.size := by omega
    have u2 : ¬ wz.heap.size = g := by omega
    obtain ⟨wi,hwi⟩ : ∃ wi : World,wi = wz.alloc (.cells #[.bool (zb p[k]),.string (zs p[k])] 44) := ⟨_,rfl⟩;have hAi : Hid (Aw wi g (r.take k ++ p.drop k)) := by rw [hwi]; exact haw.out.alloc _
    have hBi : Hid (Below w.heap.size w wi) := by rw [hwi]; exact hbl.out.alloc hbl.out.size _
    have HL2 := i' hkl;clear hx hkl haw hbl;generalize p[k] = pk at *;generalize r[k] = rk at *;clear hkp hkr;go_wp2_with fail;rw [← hwi];clear hwi;refine (HFk.out _ hBi.out).mono ?_;rintro e w5 ⟨rfl,hb5⟩;have HA5 := i' (hAi.out.below hb5);have HB5 := i' (k'4h hBi.out hb5);obtain ⟨e0,e1⟩ := HA5.out.cell k HL2.out;have f0 := HA5.out.free (k * 2);have f1 := HA5.out.free (k * 2 + 1);have HA6 := i' (HA5.out.set k HL2.out rk);rw [hset.out] at HA6;have HB6 := i' ((HB5.out.setCell (p := ⟨g,k * 2,none⟩) HG.out (.bool (zb rk))).setCell (p := ⟨g,k * 2 + 1,none⟩) HG.out (.string (zs rk)));clear hb5;go_wp2;go_roundw
    case rel => exact ⟨_,k + 1,rfl,by omega,by go_num,HA6.out,HB6.out⟩
    case measure => simp [intOf]; omega
   ·obtain rfl : k = n1 := by omega
    have HRp : Hid (Rp wz (.slice (some ⟨g,0,none⟩) k cap1) r) := by
     have h1 := haw.out;have h5 : k = p.length := HN.out;have h6 : r.length = p.length := HR.out;rw [List.take_of_length_le (by omega),List.drop_of_length_le (by omega),List.append_nil] at h1
     exact Rp.of_whole h1 _ _ (by omega) HCap.out.1 HCap.out.2
    go_wp2;go_ret;exact ⟨_,rfl,HRp.out,hbl.out⟩
theorem k'he (m1 m2 : Nat) (p r : List Int) (v : Value) (w : World) (h : Rp w v p) (hr : r.length = p.length) (hl : p.length ≤ 100)
 (hF : ∀ k wr (hk : k < p.length) (hk2 : k < r.length),Below w.heap.size w wr → Calls Tryz.prog 128 #[.int .i64 (k : Int),Z p[k],.pointer (some ⟨m1,0,none⟩),.pointer (some ⟨m2,0,none⟩)] wr (Ret (Z r[k]) wr)) :
 Calls Tryz.prog 87 #[v,.func (.func 128) #[] #[.pointer (some ⟨m1,0,none⟩),.pointer (some ⟨m2,0,none⟩)]] w (RpPost r w) := by
 obtain ⟨a,b,off,cap,rfl,h2,h3,h4,h5⟩ := h.open_;have HCl := i' (fun w' (hb : Below w.heap.size w w') => k'gd p _ w' (h.below hb) hl);have HF := i' hF;have HR := i' hr;clear h2 h3 h4 h5 h hF hr;obtain ⟨n,hn⟩ : ∃ n,n = p.length := ⟨_,rfl⟩;rw [← hn] at hl ⊢;rw [← hn] at HCl;have HN := i' hn;clear hn;go_enter Tryz.func87,Tryz.ntmps87;go_wp2_with fail;refine (HCl.out _ (Below.refl _ _)).mono ?_;rintro e w1 ⟨a1,n1,cap1,rfl,hr1,ho1,hb1⟩;obtain rfl : n1 = n := by
  obtain ⟨_,_,_,_,e1,_⟩ := hr1.open_;injection e1 with _ e2 _;exact e2.trans HN.out.symm
 have HB1 := i' hb1;have HO1 := i' ho1;have HR1 := i' hr1;clear hb1 ho1 hr1;rcases Nat.eq_zero_or_pos n1 with h0 | h0
 ·subst h0
  have HZ : Hid (r = []) := List.eq_nil_of_length_eq_zero (by have h5 : 0 = p.length := HN.out; have h6 : r.length = p.length := HR.out; omega)
  have HE : Hid (p = []) := List.eq_nil_of_length_eq_zero HN.out.symm;go_wp2;go_loop [12] (fun i => i = .int .i64 0) (fun _ => 0)
  case atStart => rfl
  case round =>
   obtain rfl := hrel;go_wp2;go_ret;exact ⟨_,rfl,by rw [HZ.out,← HE.out]; exact HR1.out,HB1.out⟩
 ·have hp : p ≠ [] := by intro e; have h5 : n1 = p.length := HN.out; rw [e] at h5; simp at h5; omega
  obtain ⟨g,rfl,hg,haw⟩ := HO1.out hp;have HA := i' haw;have HG := i' hg;have HR1' := HR1;have hcap : n1 ≤ cap1 ∧ cap1 ≤ maxLen := by
   obtain ⟨_,_,_,_,e1,e2,e3,_⟩ := HR1.out.open_;injection e1 with _ e4 e5;subst e4 e5;exact ⟨e2,e3⟩
  have HCap := i' hcap;clear haw hg hp hcap HR1' HO1 HR1;go_wp2;go_loopw [6,7,12] (fun _ _ iv wr => ∃ (wz : World) (k : Nat),wz = wr ∧ k ≤ n1 ∧ iv = .int .i64 (k : Int) ∧ Hid (Aw wz g (r.take k ++ p.drop k)) ∧ Hid (Below w.heap.size w wz))
   (fun _ _ iv _ => n1 - (intOf iv).toNat)
  case atStart => exact ⟨w1,0,rfl,Nat.zero_le _,rfl,by rw [List.take_zero,List.nil_append,List.drop_zero]; exact HA.out,HB1.out⟩
  case round =>
   clear HA HB1;obtain ⟨wz,k,rfl,hk,rfl,haw,hbl⟩ := hrel;by_cases hlt : k < n1
   ·have hkp : k < p.length := by have h5 : n1 = p.length := HN.out; omega
    have hkr : k < r.length := by have h5 : n1 = p.length := HN.out; have h6 : r.length = p.length := HR.out; omega
    have hkl : k < (r.take k ++ p.drop k).length := by simp; omega
    have hx : (r.take k ++ p.drop k)[k] = p[k] := by
     rw [List.getElem_append_right (by simp; omega)]
     have e : min k r.length = k := by omega
     simp [e]
    obtain ⟨c0,c1⟩ := haw.out.cell k hkl;rw [hx] at c0 c1;have HFk := i' (fun wr hb => HF.out k wr hkp hkr hb);have hset : Hid ((r.take k ++ p.drop k).set k r[k] = r.take (k + 1) ++ p.drop (k + 1)) := by
     show _ = _;have e : (r.take k).length = k := by simp; omega
     rw [List.set_append_right _ _ (by omega),e,Nat.sub_self,List.drop_eq_getElem_cons hkp,List.set_cons_zero,List.take_succ_eq_append_getElem hkr,List.append_assoc]
     rfl
    have hglt := haw.out.lt;have u1 : ¬ g = wz.heap.size := by omega
    have u2 : ¬ wz.heap.size = g := by omega
    obtain ⟨wi,hwi⟩ : ∃ wi : World,wi = wz.alloc (.cells #[.bool (zb p[k]),.string (zs p[k])] 44) := ⟨_,rfl⟩;have hAi : Hid (Aw wi g (r.take k ++ p.drop k)) := by rw [hwi]; exact haw.out.alloc _
    have hBi : Hid (Below w.heap.size w wi) := by rw [hwi]; exact hbl.out.alloc hbl.out.size _
    have HL2 := i' hkl;clear hx hkl haw hbl;generalize p[k] = pk at *;generalize r[k] = rk at *;clear hkp hkr;go_wp2_with fail;rw [← hwi];clear hwi;refine (HFk.out _ hBi.out).mono ?_;rintro e w5 ⟨rfl,hb5⟩;have HA5 := i' (hAi.out.below hb5);have HB5 := i' (k'4h hBi.out hb5);obtain ⟨e0,e1⟩ := HA5.out.cell k HL2.out;have f0 := HA5.out.free (k * 2);have f1 := HA5.out.free (k * 2 + 1);have HA6 := i' (HA5.out.set k HL2.out rk);rw [hset.out] at HA6;have HB6 := i' ((HB5.out.setCell (p := ⟨g,k * 2,none⟩) HG.out (.bool (zb rk))).setCell (p := ⟨g,k * 2 + 1,none⟩) HG.out (.string (zs rk)));clear hb5;go_wp2;go_roundw
    case rel => exact ⟨_,k + 1,rfl,by omega,by go_num,HA6.out,HB6.out⟩
    case measure => simp [intOf]; omega
   ·obtain rfl : k = n1 := by omega
    have HRp : Hid (Rp wz (.slice (some ⟨g,0,none⟩) k cap1) r) := by
     have h1 := haw.out;have h5 : k = p.length := HN.out;have h6 : r.length = p.length := HR.out;rw [List.take_of_length_le (by omega),List.drop_of_length_le (by omega),List.append_nil] at h1
     exact Rp.of_whole h1 _ _ (by omega) HCap.out.1 HCap.out.2
    go_wp2;go_ret;exact ⟨_,rfl,HRp.out,hbl.out⟩
theorem k'hf (c : Nat) (x y e : Int) (w : World) (hc : Ck w c e) (hx : x.natAbs < Top) (hy : y.natAbs < Top) (h0 : y ≠ 0) (hm : x % y = 0) :
 Calls Tryz.prog 129 #[.pointer (some ⟨c,0,none⟩),Z x,Z y] w (KPost (Z (x / y)) c e w) := by
 have hq : (x / y).natAbs < Top := Nat.lt_of_le_of_lt (Int.natAbs_ediv_le_natAbs x y) hx;have hr : (x % y).natAbs < Top := by
  have h1 := Int.emod_nonneg x h0;have h2 := Int.emod_lt x h0;omega
 have hl := hc.lt;have HC := i' hc;have HQ := i' (fun w => k'do x y w hx hy h0);have HS := i' (fun w => k'dp (x % y) w hr);have hs : (x % y).sign = 0 := by rw [hm]; rfl
 have n1 : ¬ (w.heap.size + 1 + 1 = c) := by omega
 clear hc hx hy h0 hm hq hr;generalize x / y = q at *;generalize x % y = r at *;unfold Z at *;generalize zb x = bx at *;generalize zs x = sx at *;generalize zb y = yb at *;generalize zs y = ys at *;generalize zb q = bq at *;generalize zs q = sq at *;generalize zb r = br at *;generalize zs r = sr at *;generalize r.sign = sgn at *;subst hs;go_enter Tryz.func129,Tryz.ntmps129;go_wp2_with fail;obtain ⟨w0,hw0⟩ : ∃ w0 : World,w0 = ((w.alloc (.cells #[.bool bx,.string sx] 44)).alloc (.cells #[.bool yb,.string ys] 44)).alloc (.cells #[.bool false,.string ⟨#[]⟩] 44) := ⟨_,rfl⟩;have hb0 : Hid (Below w.heap.size w w0) := by rw [hw0]; exact (((Below.refl _ _).alloc (Nat.le_refl _) _).alloc (by simp) _).alloc (by simp; omega) _
 have HC0 : Hid (Ck w0 c e) := by rw [hw0]; exact ((HC.out.alloc _).alloc _).alloc _
 have k4 : w0.cell? ⟨w.heap.size + 1 + 1,0,none⟩ = some (.bool false) := by rw [hw0]; simp [go_sem]
 have k5 : w0.cell? ⟨w.heap.size + 1 + 1,1,none⟩ = some (.string ⟨#[]⟩) := by rw [hw0]; simp [go_sem]
 have k6 : w0.frozen? ⟨w.heap.size + 1 + 1,0,none⟩ = false := by rw [hw0]; simp [go_sem]
 have k7 : w0.frozen? ⟨w.heap.size + 1 + 1,1,none⟩ = false := by rw [hw0]; simp [go_sem]
 rw [← hw0];have KK := i' (And.intro k4 (And.intro k5 (And.intro k6 k7)));clear k4 k5 k6 k7 hw0;refine (HQ.out _).mono ?_;rintro en wa ⟨rfl,hba⟩;have HBA := i' hba;clear hba;go_wp2_with fail;obtain ⟨w2,hw2⟩ : ∃ w2 : World,w2 = (wa.alloc (.cells #[.bool bq,.string sq] 44)).alloc (.cells #[.bool br,.string sr] 44) := ⟨_,rfl⟩;have hb2 : Hid (Below wa.heap.size wa w2) := by rw [hw2]; exact ((Below.refl _ _).alloc (Nat.le_refl _) _).alloc (by simp) _
 have q0 : w2.cell? ⟨wa.heap.size,0,none⟩ = some (.bool bq) := by rw [hw2]; simp [go_sem]
 have q1 : w2.cell? ⟨wa.heap.size,1,none⟩ = some (.string sq) := by rw [hw2]; simp [go_sem]
 have QQ := i' (And.intro q0 q1);rw [← hw2];have HB2 := i' (k'4h HBA.out hb2.out);clear q0 q1 hw2 hb2 HBA;refine (HS.out _).mono ?_;rintro en w3 ⟨rfl,hb3⟩;have q0 := k'4i hb3 QQ.out.1;have q1 := k'4i hb3 QQ.out.2;have HB3 := i' (k'4h HB2.out hb3);clear hb3;go_wp2_with fail;refine (k'ee c bq sq _ e _ (HC0.out.below HB3.out)).mono ?_;rintro en wb ⟨rfl,hk1,hk2⟩;rw [← k'ep e] at hk2;have k4 := hk1.cell (k'4i HB3.out KK.out.1) n1;have k5 := hk1.cell (k'4i HB3.out KK.out.2.1) n1;have k6 := hk1.frozen (k'4i HB3.out KK.out.1) (k'4j HB3.out KK.out.1 KK.out.2.2.1) n1;have k7 := hk1.frozen (k'4i HB3.out KK.out.2.1) (k'4j HB3.out KK.out.2.1 KK.out.2.2.2) n1;have n2 : c ≠ w.heap.size + 1 + 1 := by omega
 have HZ := i' (((((But.of_below (k'4h hb0.out HB3.out)).trans hk1).new (p := ⟨w.heap.size + 1 + 1,0,none⟩) (by simp; omega) (.bool bq)).new (p := ⟨w.heap.size + 1 + 1,1,none⟩) (by simp; omega) (.string sq)))
 have HY := i' ((hk2.other ⟨w.heap.size + 1 + 1,0,none⟩ (.bool bq) n2).other ⟨w.heap.size + 1 + 1,1,none⟩ (.string sq) n2);clear hk1 hk2 n2 q0 q1;go_wp2;exact bodyPost_ret (v := .agg #[.bool bq,.string sq]) (by simp [results,Tryz.results129,go_sem,k4,k5]) rfl ⟨rfl,HZ.out,HY.out⟩
theorem k'hg (c : Nat) (x y e e2 : Int) (w : World) (he : Hid (e2 = if e = 0 then 10 else e)) (hc : Ck w c e) (hx : x.natAbs < Top) (hy : y.natAbs < Top) (h0 : y ≠ 0) (hm : x % y ≠ 0) :
 Calls Tryz.prog 129 #[.pointer (some ⟨c,0,none⟩),Z x,Z y] w (KPost (Z (x / y)) c e2 w) := by
 have hq : (x / y).natAbs < Top := Nat.lt_of_le_of_lt (Int.natAbs_ediv_le_natAbs x y) hx;have hr : (x % y).natAbs < Top := by
  have h1 := Int.emod_nonneg x h0;have h2 := Int.emod_lt x h0;omega
 have hl := hc.lt;have HC := i' hc;have HQ := i' (fun w => k'do x y w hx hy h0);have HS := i' (fun w => k'dp (x % y) w hr);have hs : ((x % y).sign != 0) = true := by simpa [Int.sign_eq_zero_iff_zero] using hm
 have n1 : ¬ (w.heap.size + 1 + 1 = c) := by omega
 clear hc hx hy h0 hm hq hr;generalize x / y = q at *;generalize x % y = r at *;unfold Z at *;generalize zb x = bx at *;generalize zs x = sx at *;generalize zb y = yb at *;generalize zs y = ys at *;generalize zb q = bq at *;generalize zs q = sq at *;generalize zb r = br at *;generalize zs r = sr at *;generalize r.sign = sgn at *;go_enter Tryz.func129,Tryz.ntmps129;go_wp2_with fail;obtain ⟨w0,hw0⟩ : ∃ w0 : World,w0 = ((w.alloc (.cells #[.bool bx,.string sx] 44)).alloc (.cells #[.bool yb,.string ys] 44)).alloc (.cells #[.bool false,.string ⟨#[]⟩] 44) := ⟨_,rfl⟩;have hb0 : Hid (Below w.heap.size w w0) := by rw [hw0]; exact (((Below.refl _ _).alloc (Nat.le_refl _) _).alloc (by simp) _).alloc (by simp; omega) _
 have HC0 : Hid (Ck w0 c e) := by rw [hw0]; exact ((HC.out.alloc _).alloc _).alloc _
 have k4 : w0.cell? ⟨w.heap.size + 1 + 1,0,none⟩ = some (.bool false) := by rw [hw0]; simp [go_sem]
 have k5 : w0.cell? ⟨w.heap.size + 1 + 1,1,none⟩ = some (.string ⟨#[]⟩) := by rw [hw0]; simp [go_sem]
 have k6 : w0.frozen? ⟨w.heap.size + 1 + 1,0,none⟩ = false := by rw [hw0]; simp [go_sem]
 have k7 : w0.frozen? ⟨w.heap.size + 1 + 1,1,none⟩ = false := by rw [hw0]; simp [go_sem]
 rw [← hw0];have KK := i' (And.intro k4 (And.intro k5 (And.intro k6 k7)));clear k4 k5 k6 k7 hw0;refine (HQ.out _).mono ?_;rintro en wa ⟨rfl,hba⟩;have HBA := i' hba;clear hba;go_wp2_with fail;obtain ⟨w2,hw2⟩ : ∃ w2 : World,w2 = (wa.alloc (.cells #[.bool bq,.string sq] 44)).alloc (.cells #[.bool br,.string sr] 44) := ⟨_,rfl⟩;have hb2 : Hid (Below wa.heap.size wa w2) := by rw [hw2]; exact ((Below.refl _ _).alloc (Nat.le_refl _) _).alloc (by simp) _
 have q0 : w2.cell? ⟨wa.heap.size,0,none⟩ = some (.bool bq) := by rw [hw2]; simp [go_sem]
 have q1 : w2.cell? ⟨wa.heap.size,1,none⟩ = some (.string sq) := by rw [hw2]; simp [go_sem]
 have QQ := i' (And.intro q0 q1);rw [← hw2];have HB2 := i' (k'4h HBA.out hb2.out);clear q0 q1 hw2 hb2 HBA;refine (HS.out _).mono ?_;rintro en w3 ⟨rfl,hb3⟩;have q0 := k'4i hb3 QQ.out.1;have q1 := k'4i hb3 QQ.out.2;have HB3 := i' (k'4h HB2.out hb3);clear hb3;go_wp2_with fail;refine (k'ee c bq sq _ e _ (HC0.out.below HB3.out)).mono ?_;rintro en wb ⟨rfl,hk1,hk2⟩;rw [← he.out] at hk2;have k4 := hk1.cell (k'4i HB3.out KK.out.1) n1;have k5 := hk1.cell (k'4i HB3.out KK.out.2.1) n1;have k6 := hk1.frozen (k'4i HB3.out KK.out.1) (k'4j HB3.out KK.out.1 KK.out.2.2.1) n1;have k7 := hk1.frozen (k'4i HB3.out KK.out.2.1) (k'4j HB3.out KK.out.2.1 KK.out.2.2.2) n1;have n2 : c ≠ w.heap.size + 1 + 1 := by omega
 have HZ := i' (((((But.of_below (k'4h hb0.out HB3.out)).trans hk1).new (p := ⟨w.heap.size + 1 + 1,0,none⟩) (by simp; omega) (.bool bq)).new (p := ⟨w.heap.size + 1 + 1,1,none⟩) (by simp; omega) (.string sq)))
 have HY := i' ((hk2.other ⟨w.heap.size + 1 + 1,0,none⟩ (.bool bq) n2).other ⟨w.heap.size + 1 + 1,1,none⟩ (.string sq) n2);clear hk1 hk2 n2 q0 q1;go_wp2;exact bodyPost_ret (v := .agg #[.bool bq,.string sq]) (by simp [results,Tryz.results129,go_sem,k4,k5]) rfl ⟨rfl,HZ.out,HY.out⟩
theorem k'hh (c : Nat) (x y e : Int) (w : World) (hc : Ck w c e) (hx : x.natAbs < Top) (hy : y.natAbs < Top) (h0 : y ≠ 0) (hm : x % y = 0) :
 Calls Tryz.prog 129 #[.pointer (some ⟨c,0,none⟩),Z x,Z y] w (Ret (Z (x / y)) w) := (k'hf c x y e w hc hx hy h0 hm).mono (k'eo hc)
theorem k'hi (x y : Int) (w : World) (hx : x.natAbs < Top) (hy : y.natAbs < Top) : Calls Tryz.prog 127 #[Z x,Z y] w (Ret (.tuple #[Z (Nat.gcd x.natAbs y.natAbs : Nat),.int .i64 0]) w) := by
 have h := k'dj (zvt hx) (zvt hy) w;rw [k'dk,k'dk] at h;exact h
theorem k'hj (l : List Int) (x : Int) : Pl.cont (l ++ [x]) = Nat.gcd (Pl.cont l) x.natAbs := by simp [Pl.cont]
theorem k'hk {l : List Int} (h : ∀ a ∈ l,a.natAbs < Top) : Pl.cont l < Top := by
 by_cases e : l = []
 ·subst e; exact Nat.lt_of_lt_of_le W0 k'48
 ·refine Nat.lt_of_le_of_lt (Pl.cont_le e) ?_
  have : ∀ (l : List Int),(∀ a ∈ l,a.natAbs < Top) → Pl.mx l < Top := by
   intro l
   induction l with
   | nil => intro _; exact Nat.lt_of_lt_of_le W0 k'48
   | cons b l ih =>
    intro h;have h1 := ih fun a ha => h a (List.mem_cons_of_mem _ ha);have h2 := h b (List.mem_cons_self ..);have e : Pl.mx (b :: l) = max b.natAbs (Pl.mx l) := rfl;omega
  exact this l h
theorem k'hl (c : Nat) (p : List Int) (v : Value) (e : Int) (w : World) (h : Rp w v p) (hc : Ck w c e) (ht : ∀ a ∈ p,a.natAbs < Top) :
 Calls Tryz.prog 91 #[.pointer (some ⟨c,0,none⟩),v] w (Ret (Z (Pl.cont p : Nat)) w) := by
 have hl := h.len;obtain ⟨a,b,off,cap,rfl,h2,h3,h4,h5⟩ := h.open_;have H4 := i' h4;have H5 := i' h5;have HG := i' (fun k (hk : k < p.length) w => k'hi (Pl.cont (p.take k) : Nat) p[k] w (by rw [Int.natAbs_natCast]; exact k'hk fun a ha => ht a (List.mem_of_mem_take ha)) (ht _ (List.getElem_mem hk)))
 have HC := i' hc;have hcl := hc.lt;rw [k'e0] at hl;clear h h2 h3 h4 h5 ht hc;obtain ⟨n,hn⟩ : ∃ n,n = p.length := ⟨_,rfl⟩;rw [← hn] at hl ⊢;have HN := i' hn;have HT : Hid (Pl.cont (p.take n) = Pl.cont p) := by show _ = _; rw [hn,List.take_length]
 clear hn;generalize Pl.cont p = res at *;go_enter Tryz.func91,Tryz.ntmps91;go_wp2;obtain ⟨w0,hw0⟩ : ∃ w0 : World,w0 = (w.alloc (.cells #[.bool false,.string ⟨#[]⟩] 44)).alloc (.cells #[.bool false,.string ⟨#[]⟩] 44) := ⟨_,rfl⟩;have HB0 : Hid (Below w.heap.size w w0) := by rw [hw0]; exact ((Below.refl _ _).alloc (Nat.le_refl _) _).alloc (by simp) _
 have HC0 : Hid (Ck w0 c e) := by rw [hw0]; exact (HC.out.alloc _).alloc _
 have HA0 : Hid (Aw w0 (w.heap.size + 1) [0]) := by
  rw [hw0];have := Aw.made (w.alloc (.cells #[.bool false,.string ⟨#[]⟩] 44)) [0];rw [World.size_alloc] at this;exact this
 have HR0 : Hid (Aw w0 w.heap.size [0]) := by
  rw [hw0];exact (Aw.made w [0]).alloc _
 rw [← hw0];clear hw0;go_loopw [7,10] (fun _ iv wr => ∃ (wz : World) (k : Nat),wz = wr ∧ k ≤ n ∧ iv = .int .i64 (k : Int) ∧ Hid (Aw wz (w.heap.size + 1) [(Pl.cont (p.take k) : Nat)]) ∧ Hid (Aw wz w.heap.size [0]) ∧ Hid (Below w.heap.size w wz))
  (fun _ iv _ => n - (intOf iv).toNat)
 case atStart => exact ⟨w0,0,rfl,Nat.zero_le _,rfl,HA0.out,HR0.out,HB0.out⟩
 case round =>
  clear HA0 HR0 HB0 HC0;obtain ⟨wz,k,rfl,hk,rfl,haw,har,hbl⟩ := hrel;have hgl := haw.out.lt;by_cases hlt : k < n
  ·have hkp : k < p.length := by have h5 : n = p.length := HN.out; omega
   obtain rfl := H4.out (by intro e; rw [e] at hkp; exact absurd hkp (Nat.not_lt_zero _))
   have HGk := i' (HG.out k hkp);have hst : Hid (Nat.gcd (Pl.cont (p.take k)) p[k].natAbs = Pl.cont (p.take (k + 1))) := by
    show _ = _;rw [List.take_succ_eq_append_getElem hkp,k'hj]
   rw [Int.natAbs_natCast,hst.out] at HGk;have c0 := k'4i hbl.out (H5.out k hkp).1;have c1 := k'4i hbl.out (H5.out k hkp).2;have hblt := World.block_lt_of_cell? wz _ c0;simp only at hblt;have u1 : ¬ b = wz.heap.size := by omega
   have u2 : ¬ wz.heap.size = b := by omega
   have u3 : ¬ w.heap.size + 1 = wz.heap.size := by omega
   have u4 : ¬ wz.heap.size = w.heap.size + 1 := by omega
   obtain ⟨d0,d1⟩ := haw.out.cell 0 (by simp)
   simp only [Nat.zero_mul,Nat.zero_add,List.getElem_cons_zero] at d0 d1;obtain ⟨wi,hwi⟩ : ∃ wi : World,wi = wz.alloc (.cells #[.bool (zb p[k]),.string (zs p[k])] 44) := ⟨_,rfl⟩;have hAi : Hid (Aw wi (w.heap.size + 1) [(Pl.cont (p.take k) : Nat)]) := by rw [hwi]; exact haw.out.alloc _
   have hRi : Hid (Aw wi w.heap.size [0]) := by rw [hwi]; exact har.out.alloc _
   have hBi : Hid (Below w.heap.size w wi) := by rw [hwi]; exact hbl.out.alloc hbl.out.size _
   clear haw har hbl hst;generalize (Pl.cont (p.take k) : Int) = x at *;generalize p[k] = pk at *;obtain ⟨y,hy⟩ : ∃ y : Int,y = ((Pl.cont (p.take (k + 1)) : Nat) : Int) := ⟨_,rfl⟩;rw [← hy] at HGk;have HY := i' hy;clear hy;unfold Z at HGk;go_wp2_with fail;rw [← hwi];clear hwi;refine (HGk.out _).mono ?_;rintro en w5 ⟨rfl,hb5⟩;have HA5 := i' (hAi.out.below hb5);have HR5 := i' (hRi.out.below hb5);have HB5 := i' (k'4h hBi.out hb5);clear hb5 hAi hRi hBi;go_wp2_with fail;refine (k'ee c _ _ 0 e _ (HC.out.below HB5.out)).mono ?_;rintro en w6 ⟨rfl,hk6,hk7⟩;rw [← k'ep e] at hk7;have hb6 := hk6.below (HC.out.below HB5.out) hk7;have HA6 := i' (HA5.out.below hb6);have HR6 := i' (HR5.out.below hb6);have HB6 := i' (k'4h HB5.out hb6);obtain ⟨e0,e1⟩ := HA6.out.cell 0 (by simp)
   simp only [Nat.zero_mul,Nat.zero_add,List.getElem_cons_zero] at e0 e1;have f0 := HA6.out.free 0;have f1 := HA6.out.free 1;have HA7 := HA6.out.set 0 (by simp) y
   simp only [Nat.zero_mul,Nat.zero_add,List.set_cons_zero] at HA7;have HA8 := i' HA7;have HR8 := i' ((HR6.out.other ⟨w.heap.size + 1,0,none⟩ (.bool (zb y)) (by simp)).other ⟨w.heap.size + 1,1,none⟩ (.string (zs y)) (by simp))
   have HB8 := i' ((HB6.out.setCell (p := ⟨w.heap.size + 1,0,none⟩) (by simp) (.bool (zb y))).setCell (p := ⟨w.heap.size + 1,1,none⟩) (by simp) (.string (zs y)))
   clear HA7 hk6 hk7 hb6;go_wp2;go_roundw
   case rel => exact ⟨_,k + 1,rfl,by omega,by go_num,by rw [← HY.out]; exact HA8.out,HR8.out,HB8.out⟩
   case measure => simp [intOf]; omega
  ·obtain rfl : k = n := by omega
   obtain ⟨d0,d1⟩ := haw.out.cell 0 (by simp)
   simp only [Nat.zero_mul,Nat.zero_add,List.getElem_cons_zero,HT.out] at d0 d1;obtain ⟨e0,e1⟩ := har.out.cell 0 (by simp)
   simp only [Nat.zero_mul,Nat.zero_add,List.getElem_cons_zero] at e0 e1;have f0 := har.out.free 0;have f1 := har.out.free 1;have HB8 := i' ((hbl.out.setCell (p := ⟨w.heap.size,0,none⟩) (Nat.le_refl _) (.bool (zb res))).setCell (p := ⟨w.heap.size,1,none⟩) (Nat.le_refl _) (.string (zs res)));go_wp2;exact bodyPost_ret (v := .agg #[.bool (zb res),.string (zs res)]) (by simp [results,Tryz.results91,go_sem,e0,e1]) rfl ⟨rfl,HB8.out⟩
theorem k'hm (c m1 m2 : Nat) (k x g e : Int) (w : World) (hc : Ck w c e) (h1 : w.cell? ⟨m1,0,none⟩ = some (.pointer (some ⟨c,0,none⟩))) (h2 : w.cell? ⟨m2,0,none⟩ = some (.bool (zb g))) (h3 : w.cell? ⟨m2,1,none⟩ = some (.string (zs g)))
 (hx : x.natAbs < Top) (hg : g.natAbs < Top) (h0 : g ≠ 0) (hm : x % g = 0) :
 Calls Tryz.prog 128 #[.int .i64 k,Z x,.pointer (some ⟨m1,0,none⟩),.pointer (some ⟨m2,0,none⟩)] w (Ret (Z (x / g)) w) := by
 have HD := i' (fun w hc => k'hh c x g e w hc hx hg h0 hm);have hl1 := World.block_lt_of_cell? w _ h1;have hl2 := World.block_lt_of_cell? w _ h2;simp only at hl1 hl2;obtain ⟨w0,hw0⟩ : ∃ w0 : World,w0 = (w.alloc (.cells #[.bool (zb x),.string (zs x)] 44)).alloc (.cells #[.bool false,.string ⟨#[]⟩] 44) := ⟨_,rfl⟩;have HB0 : Hid (Below w.heap.size w w0) := by rw [hw0]; exact ((Below.refl _ _).alloc (Nat.le_refl _) _).alloc (by simp) _
 have HC0 : Hid (Ck w0 c e) := by rw [hw0]; exact (hc.alloc _).alloc _
 have k4 : w0.cell? ⟨w.heap.size + 1,0,none⟩ = some (.bool false) := by rw [hw0]; simp [go_sem]
 have k5 : w0.cell? ⟨w.heap.size + 1,1,none⟩ = some (.string ⟨#[]⟩) := by rw [hw0]; simp [go_sem]
 have k6 : w0.frozen? ⟨w.heap.size + 1,0,none⟩ = false := by rw [hw0]; simp [go_sem]
 have k7 : w0.frozen? ⟨w.heap.size + 1,1,none⟩ = false := by rw [hw0]; simp [go_sem]
 have KK := i' (And.intro k4 (And.intro k5 (And.intro k6 k7)));have u1 : ¬ m1 = w.heap.size := by omega
 have u2 : ¬ w.heap.size = m1 := by omega
 have u3 : ¬ m2 = w.heap.size := by omega
 have u4 : ¬ w.heap.size = m2 := by omega
 have u5 : ¬ m1 = w.heap.size + 1 := by omega
 have u6 : ¬ w.heap.size + 1 = m1 := by omega
 have u7 : ¬ m2 = w.heap.size + 1 := by omega
 have u8 : ¬ w.heap.size + 1 = m2 := by omega
 clear hc hx hg h0 hm k4 k5 k6 k7;unfold Z at HD ⊢;generalize x / g = d at *;generalize zb x = xb at *;generalize zs x = xs at *;generalize zb g = gb at *;generalize zs g = gs at *;generalize zb d = db at *;generalize zs d = ds at *;go_enter Tryz.func128,Tryz.ntmps128;go_wp2_with fail;rw [← hw0];clear hw0;refine (HD.out _ HC0.out).mono ?_;rintro en w1 ⟨rfl,hb1⟩;have k4 := k'4i hb1 KK.out.1;have k5 := k'4i hb1 KK.out.2.1;have k6 := k'4j hb1 KK.out.1 KK.out.2.2.1;have k7 := k'4j hb1 KK.out.2.1 KK.out.2.2.2;have HZ := i' (((k'4h HB0.out hb1).setCell (p := ⟨w.heap.size + 1,0,none⟩) (by simp) (.bool db)).setCell (p := ⟨w.heap.size + 1,1,none⟩) (by simp) (.string ds))
 clear hb1;go_wp2;exact bodyPost_ret (v := .agg #[.bool db,.string ds]) (by simp [results,Tryz.results128,go_sem,k4,k5]) rfl ⟨rfl,HZ.out⟩
theorem k'hn (c : Nat) (p : List Int) (v : Value) (e : Int) (w : World) (h : Rp w v p) (hc : Ck w c e) (hn : Pl.Nrm p) (hl : p.length ≤ 100) (ht : ∀ a ∈ p,a.natAbs < Top) :
 Calls Tryz.prog 92 #[.pointer (some ⟨c,0,none⟩),v] w (RpPost (Pl.prim p) w) := by
 obtain ⟨w0,hw0⟩ : ∃ w0 : World,w0 = w.alloc (.cells #[.pointer (some ⟨c,0,none⟩)] 94) := ⟨_,rfl⟩;have HB0 : Hid (Below w.heap.size w w0) := by rw [hw0]; exact (Below.refl _ _).alloc (Nat.le_refl _) _
 have HC0 : Hid (Ck w0 c e) := by rw [hw0]; exact hc.alloc _
 have k1 : Hid (w0.cell? ⟨w.heap.size,0,none⟩ = some (.pointer (some ⟨c,0,none⟩))) := by show _ = _; rw [hw0]; simp [go_sem]
 have HSz : Hid (w0.heap.size = w.heap.size + 1) := by show _ = _; rw [hw0]; simp
 have HCo := i' (k'hl c p v e w0 (h.below HB0.out) HC0.out ht);have HCh := i' (fun m2 w' hr hF => k'he w.heap.size m2 p (Pl.prim p) v w' hr (Pl.prim_length p) hl hF);have HP1 := i' (fun m2 k wr (hk : k < p.length) (hk2 : k < (Pl.prim p).length) hc h1 h2 h3 => k'hm c w.heap.size m2 (k : Int) p[k] (Pl.cont p : Nat) e wr hc h1 h2 h3 (ht _ (List.getElem_mem hk))
  (by rw [Int.natAbs_natCast]; exact k'hk ht) (by have := Pl.cont_pos hn (by intro e0; rw [e0] at hk; simp at hk); omega) (Int.emod_eq_zero_of_dvd (Pl.cont_dvd (List.getElem_mem hk))))
 have HR := i' h;have HE : Hid (∀ k (hk : k < p.length) (hk2 : k < (Pl.prim p).length),(Pl.prim p)[k] = p[k] / ((Pl.cont p : Nat) : Int)) := by intro k hk hk2; simp [Pl.prim]
 have HCH := i' hc;obtain ⟨a,b,off,cap,hv,_⟩ := h.open_;have HV := i' hv;clear h hc hn ht hv;go_enter Tryz.func92,Tryz.ntmps92;go_wp2_with fail;rw [← hw0];clear hw0;refine HCo.out.mono ?_;rintro en w1 ⟨rfl,hb1⟩;have HB1 := i' (k'4h HB0.out hb1);have hk1 := k'4i hb1 k1.out;have HK1 := i' hk1;have HC1 := i' (HC0.out.below hb1);clear hb1 hk1 HCo;generalize ((Pl.cont p : Nat) : Int) = g at *;go_wp2_with fail;obtain ⟨w2,hw2⟩ : ∃ w2 : World,w2 = w1.alloc (.cells #[.bool (zb g),.string (zs g)] 44) := ⟨_,rfl⟩;have HB2 : Hid (Below w1.heap.size w1 w2) := by rw [hw2]; exact (Below.refl _ _).alloc (Nat.le_refl _) _
 have q0 : Hid (w2.cell? ⟨w1.heap.size,0,none⟩ = some (.bool (zb g))) := by show _ = _; rw [hw2]; simp [go_sem]
 have q1 : Hid (w2.cell? ⟨w1.heap.size,1,none⟩ = some (.string (zs g))) := by show _ = _; rw [hw2]; simp [go_sem]
 rw [← hw2];clear hw2;have HB3 := i' (k'4h HB1.out HB2.out);refine (HCh.out w1.heap.size w2 (HR.out.below HB3.out) ?_).mono ?_
 ·intro k wr hk hk2 hbr
  rw [HE.out k hk hk2];exact HP1.out w1.heap.size k wr hk hk2 ((HC1.out.below HB2.out).below hbr) (k'4i hbr (k'4i HB2.out HK1.out)) (k'4i hbr q0.out) (k'4i hbr q1.out)
 rintro en w3 ⟨v3,rfl,hr3,hb3⟩;have HR3 := i' hr3;have HB4 := i' (k'4h HB3.out hb3);clear hr3 hb3;go_wp2;go_ret;exact ⟨v3,rfl,HR3.out,HB4.out⟩
def BPoly (r : List Int) (c : Nat) (e : Int) (w : World) (en : Ending) (w' : World) : Prop := ∃ v,en = .returned v ∧ Rp w' v r ∧ But c w w' ∧ Ck w' c e
theorem Rp.but {w w' : World} {v : Value} {p : List Int} {c : Nat} {e : Int} (h : Rp w v p) (hc : Ck w c e) (hb : But c w w') : Rp w' v p := by
 obtain ⟨a,b,off,cap,h1,h2,h3,h4,h5⟩ := h;exact ⟨a,b,off,cap,h1,h2,h3,h4,fun k hk => ⟨hb.cell (h5 k hk).1 (hc.ne (h5 k hk).1),hb.cell (h5 k hk).2 (hc.ne (h5 k hk).1)⟩⟩
theorem k'ho (l : List Int) (n : Nat) (z : Int) : (l ++ List.replicate (n + 1) 0).set l.length z = l ++ [z] ++ List.replicate n 0 := by
 rw [List.set_append_right _ _ (Nat.le_refl _),Nat.sub_self,List.replicate_succ,List.set_cons_zero]; simp
theorem k'hp (c : Nat) (p q r : List Int) (v1 v2 : Value) (w : World) (I : Nat → Int) (h1 : Rp w v1 p) (h2 : Rp w v2 q) (hc : Ck w c (I 0))
 (hr : r.length = max p.length q.length) (hlen : r.length ≤ 100)
 (hF : ∀ k wr,k < r.length → Ck wr c (I k) → Calls Tryz.prog 78 #[.pointer (some ⟨c,0,none⟩),Z (Pl.cf p k),Z (Pl.cf q k)] wr (KPost (Z (Pl.cf r k)) c (I (k + 1)) wr)) :
 Calls Tryz.prog 118 #[v1,v2,.func (.func 78) #[.pointer (some ⟨c,0,none⟩)] #[]] w (BPoly r c (I r.length) w) := by
 have R1 := i' h1;have R2 := i' h2;obtain ⟨p1,b1,o1,c1,rfl,_,_,h14,h15⟩ := h1.open_;obtain ⟨p2,b2,o2,c2,rfl,_,_,h24,h25⟩ := h2.open_;have HF := i' hF;have HC := i' hc;have H14 := i' h14;have H15 := i' h15;have H24 := i' h24;have H25 := i' h25;have HR := i' hr;obtain ⟨n1,hn1⟩ : ∃ n,n = p.length := ⟨_,rfl⟩;obtain ⟨n2,hn2⟩ : ∃ n,n = q.length := ⟨_,rfl⟩;obtain ⟨n,hn⟩ : ∃ n,n = r.length := ⟨_,rfl⟩;rw [← hn1,← hn2];have hm : max (n1 : Int) (n2 : Int) = (n : Int) := by omega
 have HM := i' hm;have hb1 : n1 ≤ 100 := by omega
 have hb2 : n2 ≤ 100 := by omega
 have hb3 : n ≤ 100 := by omega
 have hle1 : n1 ≤ n := by omega
 have hle2 : n2 ≤ n := by omega
 have HN1 := i' hn1;have HN2 := i' hn2;have HN := i' hn;have HK := i' (fun w => k'eb n w (by omega))
 clear h1 h2 h14 h15 h24 h25 hc hr hF hn1 hn2 hn;go_enter Tryz.func118,Tryz.ntmps118;have hk := HK.out;go_wp2;go_loopw [8,9,10,19] (fun _ _ _ iv wr => ∃ (wz : World) (k : Nat),wz = wr ∧ k ≤ n ∧ iv = .int .i64 (k : Int) ∧ Hid (Aw wz w.heap.size (r.take k ++ List.replicate (n - k) 0)) ∧ Hid (But c w wz) ∧ Hid (Ck wz c (I k)))
  (fun _ _ _ iv _ => n - (intOf iv).toNat)
 case atStart =>
  refine ⟨_,0,rfl,Nat.zero_le _,rfl,?_,(But.refl c w).alloc _,HC.out.alloc _⟩;rw [List.take_zero,Nat.sub_zero,List.nil_append];exact Aw.made w (List.replicate n 0)
 case round =>
  clear hk;obtain ⟨wz,k,rfl,hk,rfl,haw,hbut,hck⟩ := hrel;by_cases hlt : k < n
  ·have hkr : k < r.length := by have h5 : n = r.length := HN.out; omega
   obtain ⟨a,s,hA,hA1⟩ : ∃ a s,Hid (Z (Pl.cf p k) = .agg #[.bool a,.string s]) ∧ ((k < n1 ∧ p1 = some ⟨b1,o1,none⟩ ∧ wz.cell? ⟨b1,o1 + k * 2,none⟩ = some (.bool a) ∧ wz.cell? ⟨b1,o1 + k * 2 + 1,none⟩ = some (.string s) ∧ b1 < wz.heap.size ∧ ¬ wz.heap.size = b1 ∧ ¬ b1 = wz.heap.size ∧ ¬ wz.heap.size + 1 = b1 ∧ ¬ b1 = wz.heap.size + 1) ∨ (n1 ≤ k ∧ a = false ∧ s = ⟨#[]⟩)) := by
    rcases Nat.lt_or_ge k n1 with g | g
    ·have g' : k < p.length := by have h5 : n1 = p.length := HN1.out; omega
     have hcell := hbut.out.cell (H15.out k g').1 (HC.out.ne (H15.out k g').1);have hlw := World.block_lt_of_cell? wz _ hcell;simp only at hlw;exact ⟨zb p[k],zs p[k],by rw [Pl.cf_lt g']; rfl,Or.inl ⟨g,H14.out (by intro e; rw [e] at g'; exact absurd g' (Nat.not_lt_zero _)),hcell,hbut.out.cell (H15.out k g').2 (HC.out.ne (H15.out k g').1),hlw,by omega,by omega,by omega,by omega⟩⟩
    ·exact ⟨false,⟨#[]⟩,by rw [Pl.cf_ge (by have h5 : n1 = p.length := HN1.out; omega)]; rfl,Or.inr ⟨g,rfl,rfl⟩⟩
   obtain ⟨a2,s2,hB,hB1⟩ : ∃ a s,Hid (Z (Pl.cf q k) = .agg #[.bool a,.string s]) ∧ ((k < n2 ∧ p2 = some ⟨b2,o2,none⟩ ∧ wz.cell? ⟨b2,o2 + k * 2,none⟩ = some (.bool a) ∧ wz.cell? ⟨b2,o2 + k * 2 + 1,none⟩ = some (.string s) ∧ b2 < wz.heap.size ∧ ¬ wz.heap.size = b2 ∧ ¬ b2 = wz.heap.size ∧ ¬ wz.heap.size + 1 = b2 ∧ ¬ b2 = wz.heap.size + 1) ∨ (n2 ≤ k ∧ a = false ∧ s = ⟨#[]⟩)) := by
    rcases Nat.lt_or_ge k n2 with g | g
    ·have g' : k < q.length := by have h5 : n2 = q.length := HN2.out; omega
     have hcell := hbut.out.cell (H25.out k g').1 (HC.out.ne (H25.out k g').1);have hlw := World.block_lt_of_cell? wz _ hcell;simp only at hlw;exact ⟨zb q[k],zs q[k],by rw [Pl.cf_lt g']; rfl,Or.inl ⟨g,H24.out (by intro e; rw [e] at g'; exact absurd g' (Nat.not_lt_zero _)),hcell,hbut.out.cell (H25.out k g').2 (HC.out.ne (H25.out k g').1),hlw,by omega,by omega,by omega,by omega⟩⟩
    ·exact ⟨false,⟨#[]⟩,by rw [Pl.cf_ge (by have h5 : n2 = q.length := HN2.out; omega)]; rfl,Or.inr ⟨g,rfl,rfl⟩⟩
   have HFk := i' (fun wr => HF.out k wr hkr);rw [hA.out,hB.out] at HFk;have hlen2 : k < (r.take k ++ List.replicate (n - k) 0).length := by simp; omega
   have hng : w.heap.size ≠ c := by have := HC.out.lt; omega
   have hglt : w.heap.size < wz.heap.size := haw.out.lt;have hset : Hid ((r.take k ++ List.replicate (n - k) 0).set k (Pl.cf r k) = r.take (k + 1) ++ List.replicate (n - (k + 1)) 0) := by
    show _ = _;obtain ⟨m,hm⟩ : ∃ m,n - k = m + 1 := ⟨n - k - 1,by omega⟩
    have hl : (r.take k).length = k := by simp; omega
    have e3 := k'ho (r.take k) m (Pl.cf r k);rw [hl] at e3;rw [hm,e3,List.take_succ_eq_append_getElem hkr,Pl.cf_lt hkr,show n - (k + 1) = m by omega]
   obtain ⟨wi,hwi⟩ : ∃ wi : World,wi = (wz.alloc (.cells #[.bool a,.string s] 44)).alloc (.cells #[.bool a2,.string s2] 44) := ⟨_,rfl⟩;have hAi : Hid (Aw wi w.heap.size (r.take k ++ List.replicate (n - k) 0)) := by rw [hwi]; exact (haw.out.alloc _).alloc _
   have hBi : Hid (But c w wi) := by rw [hwi]; exact (hbut.out.alloc _).alloc _
   have hCi : Hid (Ck wi c (I k)) := by rw [hwi]; exact (hck.out.alloc _).alloc _
   have HKR := i' hkr;have HL2 := i' hlen2;generalize Pl.cf r k = rk at *;rcases hA1 with ⟨g1,rfl,x0,x1,x2,x3,x4,x5,x6⟩ | ⟨g1,rfl,rfl⟩ <;> rcases hB1 with ⟨g2,rfl,y0,y1,y2,y3,y4,y5,y6⟩ | ⟨g2,rfl,rfl⟩
   rotate_left 3
   ·exfalso; have := HM.out; omega
   all_goals
    clear hlen2 hkr;go_wp2_with fail;rw [← hwi];clear hwi;refine (HFk.out _ hCi.out).mono ?_;rintro e w5 ⟨rfl,hb5,hk5⟩;have HA5 := i' (hb5.aw hAi.out hng);have hB5 := i' (hBi.out.trans hb5);have HK5 := i' hk5;have e0 := (HA5.out.cell k HL2.out).1;have e1 := (HA5.out.cell k HL2.out).2;have f0 := HA5.out.free (k * 2);have f1 := HA5.out.free (k * 2 + 1);have HA6 := i' (HA5.out.set k HL2.out rk);rw [hset.out] at HA6;have HB6 := i' ((hB5.out.new (p := ⟨w.heap.size,k * 2,none⟩) (Nat.le_refl _) (.bool (zb rk))).new (p := ⟨w.heap.size,k * 2 + 1,none⟩) (Nat.le_refl _) (.string (zs rk)));have HK6 := i' ((HK5.out.other ⟨w.heap.size,k * 2,none⟩ (.bool (zb rk)) (Ne.symm hng)).other ⟨w.heap.size,k * 2 + 1,none⟩ (.string (zs rk)) (Ne.symm hng));clear hb5 hk5;go_wp2;go_roundw
    case rel => exact ⟨_,k + 1,rfl,by omega,by go_num,HA6.out,HB6.out,HK6.out⟩
    case measure => simp [intOf]; omega
  ·obtain rfl : k = n := by omega
   have HRp : Hid (Rp wz (.slice (some ⟨w.heap.size,0,none⟩) k k) r) := by
    have h1 := haw.out;rw [Nat.sub_self,List.replicate_zero,List.append_nil,List.take_of_length_le (by have h5 : k = r.length := HN.out; omega)] at h1
    exact Rp.of_whole h1 k k HN.out.symm (Nat.le_refl _) (by unfold maxLen; omega)
   have HKI : Hid (Ck wz c (I r.length)) := by have h5 : k = r.length := HN.out; rw [← h5]; exact hck.out
   go_wp2;go_ret;exact ⟨_,rfl,HRp.out,hbut.out,HKI.out⟩
theorem k'hq (c : Nat) (p q r : List Int) (v1 v2 : Value) (w : World) (I : Nat → Int) (h1 : Rp w v1 p) (h2 : Rp w v2 q) (hc : Ck w c (I 0))
 (hr : r.length = max p.length q.length) (hlen : r.length ≤ 100)
 (hF : ∀ k wr,k < r.length → Ck wr c (I k) → Calls Tryz.prog 79 #[.pointer (some ⟨c,0,none⟩),Z (Pl.cf p k),Z (Pl.cf q k)] wr (KPost (Z (Pl.cf r k)) c (I (k + 1)) wr)) :
 Calls Tryz.prog 118 #[v1,v2,.func (.func 79) #[.pointer (some ⟨c,0,none⟩)] #[]] w (BPoly r c (I r.length) w) := by
 have R1 := i' h1;have R2 := i' h2;obtain ⟨p1,b1,o1,c1,rfl,_,_,h14,h15⟩ := h1.open_;obtain ⟨p2,b2,o2,c2,rfl,_,_,h24,h25⟩ := h2.open_;have HF := i' hF;have HC := i' hc;have H14 := i' h14;have H15 := i' h15;have H24 := i' h24;have H25 := i' h25;have HR := i' hr;obtain ⟨n1,hn1⟩ : ∃ n,n = p.length := ⟨_,rfl⟩;obtain ⟨n2,hn2⟩ : ∃ n,n = q.length := ⟨_,rfl⟩;obtain ⟨n,hn⟩ : ∃ n,n = r.length := ⟨_,rfl⟩;rw [← hn1,← hn2];have hm : max (n1 : Int) (n2 : Int) = (n : Int) := by omega
 have HM := i' hm;have hb1 : n1 ≤ 100 := by omega
 have hb2 : n2 ≤ 100 := by omega
 have hb3 : n ≤ 100 := by omega
 have hle1 : n1 ≤ n := by omega
 have hle2 : n2 ≤ n := by omega
 have HN1 := i' hn1;have HN2 := i' hn2;have HN := i' hn;have HK := i' (fun w => k'eb n w (by omega))
 clear h1 h2 h14 h15 h24 h25 hc hr hF hn1 hn2 hn;go_enter Tryz.func118,Tryz.ntmps118;have hk := HK.out;go_wp2;go_loopw [8,9,10,19] (fun _ _ _ iv wr => ∃ (wz : World) (k : Nat),wz = wr ∧ k ≤ n ∧ iv = .int .i64 (k : Int) ∧ Hid (Aw wz w.heap.size (r.take k ++ List.replicate (n - k) 0)) ∧ Hid (But c w wz) ∧ Hid (Ck wz c (I k)))
  (fun _ _ _ iv _ => n - (intOf iv).toNat)
 case atStart =>
  refine ⟨_,0,rfl,Nat.zero_le _,rfl,?_,(But.refl c w).alloc _,HC.out.alloc _⟩;rw [List.take_zero,Nat.sub_zero,List.nil_append];exact Aw.made w (List.replicate n 0)
 case round =>
  clear hk;obtain ⟨wz,k,rfl,hk,rfl,haw,hbut,hck⟩ := hrel;by_cases hlt : k < n
  ·have hkr : k < r.length := by have h5 : n = r.length := HN.out; omega
   obtain ⟨a,s,hA,hA1⟩ : ∃ a s,Hid (Z (Pl.cf p k) = .agg #[.bool a,.string s]) ∧ ((k < n1 ∧ p1 = some ⟨b1,o1,none⟩ ∧ wz.cell? ⟨b1,o1 + k * 2,none⟩ = some (.bool a) ∧ wz.cell? ⟨b1,o1 + k * 2 + 1,none⟩ = some (.string s) ∧ b1 < wz.heap.size ∧ ¬ wz.heap.size = b1 ∧ ¬ b1 = wz.heap.size ∧ ¬ wz.heap.size + 1 = b1 ∧ ¬ b1 = wz.heap.size + 1) ∨ (n1 ≤ k ∧ a = false ∧ s = ⟨#[]⟩)) := by
    rcases Nat.lt_or_ge k n1 with g | g
    ·have g' : k < p.length := by have h5 : n1 = p.length := HN1.out; omega
     have hcell := hbut.out.cell (H15.out k g').1 (HC.out.ne (H15.out k g').1);have hlw := World.block_lt_of_cell? wz _ hcell;simp only at hlw;exact ⟨zb p[k],zs p[k],by rw [Pl.cf_lt g']; rfl,Or.inl ⟨g,H14.out (by intro e; rw [e] at g'; exact absurd g' (Nat.not_lt_zero _)),hcell,hbut.out.cell (H15.out k g').2 (HC.out.ne (H15.out k g').1),hlw,by omega,by omega,by omega,by omega⟩⟩
    ·exact ⟨false,⟨#[]⟩,by rw [Pl.cf_ge (by have h5 : n1 = p.length := HN1.out; omega)]; rfl,Or.inr ⟨g,rfl,rfl⟩⟩
   obtain ⟨a2,s2,hB,hB1⟩ : ∃ a s,Hid (Z (Pl.cf q k) = .agg #[.bool a,.string s]) ∧ ((k < n2 ∧ p2 = some ⟨b2,o2,none⟩ ∧ wz.cell? ⟨b2,o2 + k * 2,none⟩ = some (.bool a) ∧ wz.cell? ⟨b2,o2 + k * 2 + 1,none⟩ = some (.string s) ∧ b2 < wz.heap.size ∧ ¬ wz.heap.size = b2 ∧ ¬ b2 = wz.heap.size ∧ ¬ wz.heap.size + 1 = b2 ∧ ¬ b2 = wz.heap.size + 1) ∨ (n2 ≤ k ∧ a = false ∧ s = ⟨#[]⟩)) := by
    rcases Nat.lt_or_ge k n2 with g | g
    ·have g' : k < q.length := by have h5 : n2 = q.length := HN2.out; omega
     have hcell := hbut.out.cell (H25.out k g').1 (HC.out.ne (H25.out k g').1);have hlw := World.block_lt_of_cell? wz _ hcell;simp only at hlw;exact ⟨zb q[k],zs q[k],by rw [Pl.cf_lt g']; rfl,Or.inl ⟨g,H24.out (by intro e; rw [e] at g'; exact absurd g' (Nat.not_lt_zero _)),hcell,hbut.out.cell (H25.out k g').2 (HC.out.ne (H25.out k g').1),hlw,by omega,by omega,by omega,by omega⟩⟩
    ·exact ⟨false,⟨#[]⟩,by rw [Pl.cf_ge (by have h5 : n2 = q.length := HN2.out; omega)]; rfl,Or.inr ⟨g,rfl,rfl⟩⟩
   have HFk := i' (fun wr => HF.out k wr hkr);rw [hA.out,hB.out] at HFk;have hlen2 : k < (r.take k ++ List.replicate (n - k) 0).length := by simp; omega
   have hng : w.heap.size ≠ c := by have := HC.out.lt; omega
   have hglt : w.heap.size < wz.heap.size := haw.out.lt;have hset : Hid ((r.take k ++ List.replicate (n - k) 0).set k (Pl.cf r k) = r.take (k + 1) ++ List.replicate (n - (k + 1)) 0) := by
    show _ = _;obtain ⟨m,hm⟩ : ∃ m,n - k = m + 1 := ⟨n - k - 1,by omega⟩
    have hl : (r.take k).length = k := by simp; omega
    have e3 := k'ho (r.take k) m (Pl.cf r k);rw [hl] at e3;rw [hm,e3,List.take_succ_eq_append_getElem hkr,Pl.cf_lt hkr,show n - (k + 1) = m by omega]
   obtain ⟨wi,hwi⟩ : ∃ wi : World,wi = (wz.alloc (.cells #[.bool a,.string s] 44)).alloc (.cells #[.bool a2,.string s2] 44) := ⟨_,rfl⟩;have hAi : Hid (Aw wi w.heap.size (r.take k ++ List.replicate (n - k) 0)) := by rw [hwi]; exact (haw.out.alloc _).alloc _
   have hBi : Hid (But c w wi) := by rw [hwi]; exact (hbut.out.alloc _).alloc _
   have hCi : Hid (Ck wi c (I k)) := by rw [hwi]; exact (hck.out.alloc _).alloc _
   have HKR := i' hkr;have HL2 := i' hlen2;generalize Pl.cf r k = rk at *;rcases hA1 with ⟨g1,rfl,x0,x1,x2,x3,x4,x5,x6⟩ | ⟨g1,rfl,rfl⟩ <;> rcases hB1 with ⟨g2,rfl,y0,y1,y2,y3,y4,y5,y6⟩ | ⟨g2,rfl,rfl⟩
   rotate_left 3
   ·exfalso; have := HM.out; omega
   all_goals
    clear hlen2 hkr;go_wp2_with fail;rw [← hwi];clear hwi;refine (HFk.out _ hCi.out).mono ?_;rintro e w5 ⟨rfl,hb5,hk5⟩;have HA5 := i' (hb5.aw hAi.out hng);have hB5 := i' (hBi.out.trans hb5);have HK5 := i' hk5;have e0 := (HA5.out.cell k HL2.out).1;have e1 := (HA5.out.cell k HL2.out).2;have f0 := HA5.out.free (k * 2);have f1 := HA5.out.free (k * 2 + 1);have HA6 := i' (HA5.out.set k HL2.out rk);rw [hset.out] at HA6;have HB6 := i' ((hB5.out.new (p := ⟨w.heap.size,k * 2,none⟩) (Nat.le_refl _) (.bool (zb rk))).new (p := ⟨w.heap.size,k * 2 + 1,none⟩) (Nat.le_refl _) (.string (zs rk)));have HK6 := i' ((HK5.out.other ⟨w.heap.size,k * 2,none⟩ (.bool (zb rk)) (Ne.symm hng)).other ⟨w.heap.size,k * 2 + 1,none⟩ (.string (zs rk)) (Ne.symm hng));clear hb5 hk5;go_wp2;go_roundw
    case rel => exact ⟨_,k + 1,rfl,by omega,by go_num,HA6.out,HB6.out,HK6.out⟩
    case measure => simp [intOf]; omega
  ·obtain rfl : k = n := by omega
   have HRp : Hid (Rp wz (.slice (some ⟨w.heap.size,0,none⟩) k k) r) := by
    have h1 := haw.out;rw [Nat.sub_self,List.replicate_zero,List.append_nil,List.take_of_length_le (by have h5 : k = r.length := HN.out; omega)] at h1
    exact Rp.of_whole h1 k k HN.out.symm (Nat.le_refl _) (by unfold maxLen; omega)
   have HKI : Hid (Ck wz c (I r.length)) := by have h5 : k = r.length := HN.out; rw [← h5]; exact hck.out
   go_wp2;go_ret;exact ⟨_,rfl,HRp.out,hbut.out,HKI.out⟩
namespace Pl
theorem prim_prim {p : List Int} (hp : Nrm p) : prim (prim p) = prim p := by
 by_cases h : p = []
 ·subst h; rfl
 ·have hc : (cont p : Int) ≠ 0 := by
   intro e;have h1 := scl_prim p;have h2 := nrm_cf hp (List.length_pos_iff.2 h);rw [← h1,cf_scl,e,Int.zero_mul] at h2;exact h2 rfl
  have h1 := prim_scl (p := prim p) hc;rw [scl_prim,Int.sign_eq_one_of_pos (by omega),scl_one] at h1
  exact h1.symm
theorem mx_rest (p q : List Int) : mx (rest p q) ≤ (2 * mx q) ^ (p.length + 1 - q.length) * mx p := Nat.le_trans (mx_trim _) (mx_prem _ _ _)
structure Euk (S : List Int → List Int → Prop) : Prop where
 top1 : ∀ p q,S p q → ∀ a ∈ p,a.natAbs < Top
 top2 : ∀ p q,S p q → ∀ a ∈ q,a.natAbs < Top
 fit : ∀ p q,S p q → 1 < q.length → q.length ≤ p.length → (2 * mx q) ^ (p.length + 1 - q.length) * mx p < Top
 step : ∀ p q,S p q → 1 < q.length → q.length ≤ p.length → S q (prim (rest p q))
structure EInv (S : List Int → List Int → Prop) (G p q : List Int) : Prop where
 np : Nrm p
 nq : Nrm q
 pp : prim p = p
 pq : prim q = q
 g : gcdP p q = G
 len : q.length ≤ p.length
 l50 : p.length ≤ 50
 s : S p q
structure ELast (G p : List Int) : Prop where
 np : Nrm p
 pp : prim p = p
 g : npr p = G
 l50 : p.length ≤ 50
 top : ∀ a ∈ p,a.natAbs < Top
theorem EInv.step {S : List Int → List Int → Prop} (hS : Euk S) {G p q : List Int} (h : EInv S G p q) (h1 : 1 < q.length) : EInv S G q (prim (rest p q)) := by
 have hr := rest_nrm p q;have hq : q ≠ [] := by intro e; subst e; simp at h1
 refine ⟨h.nq,prim_nrm hr,h.pq,prim_prim hr,?_,?_,by have := h.len; have := h.l50; omega,hS.step p q h.s h1 h.len⟩
 ·rw [gcdP_npr (p := q) (q := prim (rest p q)) (p' := q) (q' := rest p q) rfl (npr_prim hr),← gcdP_step h.np h.nq hq,h.g]
 ·rw [prim_length]; have := rest_length (p := p) (q := q) (by omega); omega
theorem EInv.one {S : List Int → List Int → Prop} (hS : Euk S) {G p q : List Int} (h : EInv S G p q) (h1 : q.length = 1) : ELast G q :=
 ⟨h.nq,h.pq,by rw [cont_unit h.nq h1,← h.g,gcdP_const h.np h.nq h1],by omega,hS.top2 p q h.s⟩
theorem EInv.zero {S : List Int → List Int → Prop} (hS : Euk S) {G p q : List Int} (h : EInv S G p q) (h1 : q.length = 0) : ELast G p := by
 have e := List.eq_nil_of_length_eq_zero h1;have h2 := h.g;have h3 := hS.top1 p q h.s;subst e;exact ⟨h.np,h.pp,h2,h.l50,h3⟩
theorem EInv.mx1 {S : List Int → List Int → Prop} {G p q : List Int} (h : EInv S G p q) (h1 : 1 < q.length) : 1 ≤ mx q := by
 have h2 := nrm_cf h.nq (by omega)
 have h3 := mx_cf q (q.length - 1);omega
theorem ELast.nil {G p : List Int} (h : ELast G p) (h0 : p.length = 0) : G = p := by
 have e := List.eq_nil_of_length_eq_zero h0;have := h.g;subst e;exact this.symm
theorem ELast.neg {G p : List Int} (h : ELast G p) (h0 : 0 < p.length) (hs : cf p (p.length - 1) < 0) : G = scl (-1) p := by
 rw [← h.g,npr_of_lead h.np (List.length_pos_iff.1 h0),if_pos (show lead p < 0 from hs),h.pp]
theorem ELast.pos {G p : List Int} (h : ELast G p) (h0 : 0 < p.length) (hs : ¬ cf p (p.length - 1) < 0) : G = p := by
 rw [← h.g,npr_of_lead h.np (List.length_pos_iff.1 h0),if_neg (show ¬ lead p < 0 from hs),h.pp]
end Pl
theorem k'hr (c : Nat) (q : List Int) (v : Value) (e : Int) (w : World) (h : Rp w v q) (hc : Ck w c e) (hl : q.length ≤ 100) (ht : ∀ a ∈ q,a.natAbs < Top) :
 Calls Tryz.prog 118 #[.slice none 0 0,v,.func (.func 79) #[.pointer (some ⟨c,0,none⟩)] #[]] w (RpPost (Pl.scl (-1) q) w) := by
 have hcf : ∀ k,(Pl.cf q k).natAbs < Top := by
  intro k;by_cases g : k < q.length
  ·rw [Pl.cf_lt g]; exact ht _ (List.getElem_mem g)
  ·rw [Pl.cf_ge (by omega)]; exact Nat.lt_of_le_of_lt (by simp) (Nat.lt_of_lt_of_le W0 k'48)
 have h1 := k'hq c [] q (Pl.scl (-1) q) (.slice none 0 0) v w (fun _ => e) (Rw.nil w) h hc (by simp [Pl.scl]) (by simpa [Pl.scl] using hl) (fun k wr hk hck => by
  have h2 := k'en c (Pl.cf [] k) (Pl.cf q k) e wr hck (by rw [Pl.cf_ge (by simp)]; exact Nat.lt_of_le_of_lt (by simp) (Nat.lt_of_lt_of_le W0 k'48)) (hcf k)
  have e1 : Pl.cf [] k - Pl.cf q k = Pl.cf (Pl.scl (-1) q) k := by rw [Pl.cf_scl,Pl.cf_ge (p := []) (by simp)]; omega
  have e2 : (Pl.cf [] k - Pl.cf q k).natAbs < Top := by rw [Pl.cf_ge (p := []) (by simp)]; have := hcf k; omega
  rw [k'ej e2,k'ei e e2,e1] at h2;exact h2)
 refine h1.mono ?_;rintro en w' ⟨v',rfl,hr,hb,hck⟩;exact ⟨v',rfl,hr,hb.below hc hck⟩
theorem k'hs (c : Nat) (p q : List Int) (v1 v2 : Value) (e : Int) (w : World) (h1 : Rp w v1 p) (h2 : Rp w v2 q) (hc : Ck w c e) (hp : Pl.Nrm p) (hq : Pl.Nrm q) (hl1 : p.length ≤ 50) (hl2 : q.length ≤ 50)
 (ht1 : ∀ a ∈ p,a.natAbs < Top) (ht2 : ∀ a ∈ q,a.natAbs < Top) (S : List Int → List Int → Prop) (hS : Pl.Euk S) (hS1 : q.length ≤ p.length → S (Pl.prim p) (Pl.prim q)) (hS2 : p.length < q.length → S (Pl.prim q) (Pl.prim p)) :
 Calls Tryz.prog 112 #[.pointer (some ⟨c,0,none⟩),v1,v2] w (RpPost (Pl.gcdP p q) w) := by
 obtain ⟨G,hG⟩ : ∃ G,G = Pl.gcdP p q := ⟨_,rfl⟩;rw [← hG];have HP1 := i' (k'hn c p v1 e w h1 hc hp (by omega) ht1)
 have HP2 := i' (fun w' (hb : Below w.heap.size w w') => k'hn c q v2 e w' (h2.below hb) (hc.below hb) hq (by omega) ht2)
 have HC := i' hc;have HS := i' hS;have hg0 : Pl.gcdP (Pl.prim p) (Pl.prim q) = G := by rw [hG]; exact Pl.gcdP_npr (Pl.npr_prim hp) (Pl.npr_prim hq)
 have HI1 : Hid (q.length ≤ p.length → Pl.EInv S G (Pl.prim p) (Pl.prim q)) := fun h5 =>
  ⟨Pl.prim_nrm hp,Pl.prim_nrm hq,Pl.prim_prim hp,Pl.prim_prim hq,hg0,by rw [Pl.prim_length,Pl.prim_length]; exact h5,by rw [Pl.prim_length]; exact hl1,hS1 h5⟩
 have HI2 : Hid (p.length < q.length → Pl.EInv S G (Pl.prim q) (Pl.prim p)) := fun h5 =>
  ⟨Pl.prim_nrm hq,Pl.prim_nrm hp,Pl.prim_prim hq,Pl.prim_prim hp,by rw [← Pl.gcdP_swap (Pl.prim_nrm hp) (Pl.prim_nrm hq) (by rw [Pl.prim_length,Pl.prim_length]; exact h5)]; exact hg0,by rw [Pl.prim_length,Pl.prim_length]; exact Nat.le_of_lt h5,by rw [Pl.prim_length]; exact hl2,hS2 h5⟩
 obtain ⟨k1,hk1⟩ : ∃ k,k = p.length := ⟨_,rfl⟩;obtain ⟨k2,hk2⟩ : ∃ k,k = q.length := ⟨_,rfl⟩;have HN1 : Hid (k1 = (Pl.prim p).length) := by show _ = _; rw [Pl.prim_length]; exact hk1
 have HN2 : Hid (k2 = (Pl.prim q).length) := by show _ = _; rw [Pl.prim_length]; exact hk2
 rw [← hk1] at hl1;rw [← hk2] at hl2;rw [← hk1,← hk2] at HI1 HI2;obtain ⟨_,_,_,_,rfl,-⟩ := h1.open_;obtain ⟨_,_,_,_,rfl,-⟩ := h2.open_;clear hG h1 h2 hc hp hq ht1 ht2 hS hS1 hS2 hg0 hk1 hk2;generalize Pl.prim p = pp at *;generalize Pl.prim q = pq at *;go_enter Tryz.func112,Tryz.ntmps112;go_wp2_with fail;refine HP1.out.mono ?_;rintro en w1 ⟨v1,rfl,r1,b1⟩;have B1 := i' b1;have R1 := i' r1;clear b1 r1;go_wp2_with fail;refine (HP2.out _ B1.out).mono ?_;rintro en w2 ⟨v2,rfl,r2,b2⟩;have B2 := i' (k'4h B1.out b2);have R1 := i' (R1.out.below b2);have R2 := i' r2;clear b2 r2;obtain ⟨A1,_,_,C1,rfl,-⟩ := Rp.open_ R1.out;obtain ⟨A2,_,_,C2,rfl,-⟩ := Rp.open_ R2.out;rw [← HN1.out] at R1 ⊢;rw [← HN2.out] at R2 ⊢;by_cases hlt0 : k1 < k2
 ·have HI := i' (HI2.out hlt0)
  clear HI1 HI2 HP1 HP2;go_wp2;clear hlt0;go_loopw [1,2] (fun v1 v2 wr => ∃ (wz : World) (a1 a2 : Option Addr) (n1 c1 n2 c2 : Nat) (p q : List Int),wz = wr ∧ v1 = .slice a1 n1 c1 ∧ v2 = .slice a2 n2 c2 ∧ n1 ≤ 50 ∧ n2 ≤ 50 ∧ Hid (n1 = p.length) ∧ Hid (n2 = q.length) ∧ Hid (Rp wz (.slice a1 n1 c1) p) ∧ Hid (Rp wz (.slice a2 n2 c2) q) ∧ Hid (Pl.EInv S G p q) ∧ Hid (Below w.heap.size w wz))
   (fun _ v2 _ => lenOf v2)
  case atStart => exact ⟨w2,A2,A1,k2,C2,k1,C1,pq,pp,rfl,rfl,rfl,hl2,hl1,HN2.out,HN1.out,R2.out,R1.out,HI.out,B2.out⟩
  case round =>
   clear R1 R2 B2 HI HN1 HN2;obtain ⟨wz,a1,a2,n1,c1,n2,c2,p,q,rfl,rfl,rfl,hn1,hn2,hp1,hq1,hR1,hR2,hE,hbl⟩ := hrel;by_cases hlt : 1 < n2
   ·have hE2 := hE.out
    have hq2 : n2 = q.length := hq1.out;have h1q : 1 < q.length := by omega
    have HRe := i' (k'gt c p q (.slice a1 n1 c1) (.slice a2 n2 c2) e wz hR1.out hR2.out (HC.out.below hbl.out) (by have := hp1.out; omega) (by omega) (by intro e0; rw [e0] at h1q; simp at h1q) (hE2.mx1 h1q) hE2.len (HS.out.top2 p q hE2.s) (HS.out.fit p q hE2.s h1q hE2.len))
    have HIn := i' (hE2.step HS.out h1q);have hmr : Pl.mx (Pl.rest p q) < Top := Nat.lt_of_le_of_lt (Pl.mx_rest p q) (HS.out.fit p q hE2.s h1q hE2.len);have hrl := Pl.rest_length (p := p) (q := q) (by omega)
    have HPr := i' (fun v w' h5 h6 => k'hn c (Pl.rest p q) v e w' h5 h6 (Pl.rest_nrm p q) (by omega) (fun a ha => Nat.lt_of_le_of_lt (Pl.mx_mem ha) hmr))
    have HLe : Hid ((Pl.prim (Pl.rest p q)).length < n2) := by show _ < _; rw [Pl.prim_length]; omega
    generalize Pl.rest p q = r at *;generalize Pl.prim r = pr at *;clear hE2 hq2 h1q hmr hrl;go_wp2_with fail;refine HRe.out.mono ?_;rintro en w5 ⟨v5,rfl,r5,b5⟩;have B5 := i' (k'4h hbl.out b5);have R5 := i' r5;have R25 := i' (hR2.out.below b5);clear b5 r5;go_wp2_with fail;refine (HPr.out _ _ R5.out (HC.out.below B5.out)).mono ?_;rintro en w6 ⟨v6,rfl,r6,b6⟩;have B6 := i' (k'4h B5.out b6);have R26 := i' (R25.out.below b6);obtain ⟨a6,b66,o6,c6,rfl,-,-,-,-⟩ := r6.open_;have R6 := i' r6;clear b6 r6;have hln : pr.length < n2 := HLe.out;obtain ⟨n6,hn6⟩ : ∃ n6,n6 = pr.length := ⟨_,rfl⟩;rw [← hn6] at hln R6 ⊢;have HN6 := i' hn6;clear hn6;go_wp2;go_roundw
    case rel => exact ⟨_,a2,a6,n2,c2,n6,c6,q,pr,rfl,rfl,rfl,hn2,by omega,hq1.out,HN6.out,R26.out,R6.out,HIn.out,B6.out⟩
    case measure => simp [lenOf]; omega
   ·rcases (show n2 = 1 ∨ n2 = 0 by omega) with h1 | h1
    ·have HLs := i' (hE.out.one HS.out (hq1.out.symm.trans h1))
     subst h1;clear hE hlt;obtain ⟨bx,ox,hx4,hx5⟩ : ∃ bx ox,(0 < 1 → a2 = some ⟨bx,ox,none⟩) ∧ ∀ k (h : k < q.length),wz.cell? ⟨bx,ox + k * 2,none⟩ = some (.bool (zb q[k])) ∧ wz.cell? ⟨bx,ox + k * 2 + 1,none⟩ = some (.string (zs q[k])) := by
      obtain ⟨ax,bx,ox,cx,h1,h2,h3,h4,h5⟩ := Rp.open_ hR2.out;injection h1 with e1 e2 e3;exact ⟨bx,ox,fun h0 => e1.trans (h4 (by intro e; rw [e] at e2; simp at e2 <;> omega)),h5⟩
     have hnx : 1 = q.length := hq1.out;have h0 : 0 < 1 := Nat.one_pos
     ·obtain rfl := hx4 h0
      have hmp : 0 < q.length := by omega
      obtain ⟨d0,d1⟩ := hx5 0 hmp;simp only [Nat.zero_mul,Nat.add_zero] at d0 d1;have e8 : q.length - 1 = 0 := by omega
      have e9 : Pl.cf q (q.length - 1) = q[0] := by rw [e8,Pl.cf_lt hmp]
      have HPos : Hid (¬ q[0] < 0 → G = q) := fun h => HLs.out.pos (by omega) (by rw [e9]; exact h)
      have HNeg : Hid (q[0] < 0 → G = Pl.scl (-1) q) := fun h => HLs.out.neg (by omega) (by rw [e9]; exact h)
      have htx := HLs.out.top _ (List.getElem_mem hmp);have hl5 := HLs.out.l50;have HSg := i' (fun w => k'56 (zb q[0]) (zs q[0]) w (Nat.le_trans (k'6m htx) (by decide)))
      rw [k'6l htx] at HSg;have HCom := i' (fun w' (hb : Below wz.heap.size wz w') => k'hr c q (.slice (some ⟨bx,ox,none⟩) 1 c2) e w' (hR2.out.below hb) (HC.out.below (k'4h hbl.out hb)) (by omega) HLs.out.top)
      clear hx4 hx5 e8 e9 htx;generalize q[0] = lz at *;clear hmp hnx hl5;clear h0;by_cases hneg : lz < 0
      ·have HG := i' (HNeg.out hneg)
       have hs1 : Int.sign lz = -1 := Int.sign_eq_neg_one_of_neg hneg;rw [hs1] at HSg;clear HNeg HPos hneg hs1;go_wp2_with fail;refine (HSg.out _).mono ?_;rintro en w5 ⟨rfl,b5⟩;have B5 := i' b5;clear b5;go_wp2_with fail;refine (HCom.out _ B5.out).mono ?_;rintro en w6 ⟨v6,rfl,r6,b6⟩;have B6 := i' (k'4h hbl.out (k'4h B5.out b6));have R6 := i' r6;clear b6 r6;go_wp2;go_ret;exact ⟨_,rfl,by rw [HG.out]; exact R6.out,B6.out⟩
      ·have HG := i' (HPos.out hneg)
       obtain ⟨sv,hsv⟩ : ∃ sv,sv = Int.sign lz := ⟨_,rfl⟩;have hs1 : ¬ sv < 0 := by
        rw [hsv];rcases Int.lt_trichotomy lz 0 with g | g | g
        ·exact absurd g hneg
        ·rw [g]; decide
        ·rw [Int.sign_eq_one_of_pos g]; decide
       rw [← hsv] at HSg;clear HNeg HPos hneg hsv;go_wp2_with fail;refine (HSg.out _).mono ?_;rintro en w5 ⟨rfl,b5⟩;have B5 := i' b5;clear b5;go_wp2;go_ret;exact ⟨_,rfl,by rw [HG.out]; exact hR2.out.below B5.out,k'4h hbl.out B5.out⟩
    ·have HLs := i' (hE.out.zero HS.out (hq1.out.symm.trans h1))
     subst h1;clear hE hlt;obtain ⟨bx,ox,hx4,hx5⟩ : ∃ bx ox,(0 < n1 → a1 = some ⟨bx,ox,none⟩) ∧ ∀ k (h : k < p.length),wz.cell? ⟨bx,ox + k * 2,none⟩ = some (.bool (zb p[k])) ∧ wz.cell? ⟨bx,ox + k * 2 + 1,none⟩ = some (.string (zs p[k])) := by
      obtain ⟨ax,bx,ox,cx,h1,h2,h3,h4,h5⟩ := Rp.open_ hR1.out;injection h1 with e1 e2 e3;exact ⟨bx,ox,fun h0 => e1.trans (h4 (by intro e; rw [e] at e2; simp at e2 <;> omega)),h5⟩
     have hnx : n1 = p.length := hp1.out;rcases Nat.eq_zero_or_pos n1 with h0 | h0
     ·have HG := i' (HLs.out.nil (by omega))
      clear hx4 hx5 hnx;subst h0;go_wp2;go_ret;exact ⟨_,rfl,by rw [HG.out]; exact hR1.out,hbl.out⟩
     ·obtain ⟨mm,hmm⟩ : ∃ mm,n1 = mm + 1 := ⟨n1 - 1,by omega⟩
      obtain rfl := hx4 h0;have hmp : mm < p.length := by omega
      obtain ⟨d0,d1⟩ := hx5 mm hmp;have e8 : p.length - 1 = mm := by omega
      have e9 : Pl.cf p (p.length - 1) = p[mm] := by rw [e8,Pl.cf_lt hmp]
      have HPos : Hid (¬ p[mm] < 0 → G = p) := fun h => HLs.out.pos (by omega) (by rw [e9]; exact h)
      have HNeg : Hid (p[mm] < 0 → G = Pl.scl (-1) p) := fun h => HLs.out.neg (by omega) (by rw [e9]; exact h)
      have htx := HLs.out.top _ (List.getElem_mem hmp);have hl5 := HLs.out.l50;have HSg := i' (fun w => k'56 (zb p[mm]) (zs p[mm]) w (Nat.le_trans (k'6m htx) (by decide)))
      rw [k'6l htx] at HSg;have HCom := i' (fun w' (hb : Below wz.heap.size wz w') => k'hr c p (.slice (some ⟨bx,ox,none⟩) n1 c1) e w' (hR1.out.below hb) (HC.out.below (k'4h hbl.out hb)) (by omega) HLs.out.top)
      clear hx4 hx5 e8 e9 htx;generalize p[mm] = lz at *;clear hmp hnx hl5;have i0 : (n1 : Int) - 1 = (mm : Int) := by omega
      have i1 : (mm : Int) < (n1 : Int) := by omega
      clear hmm;by_cases hneg : lz < 0
      ·have HG := i' (HNeg.out hneg)
       have hs1 : Int.sign lz = -1 := Int.sign_eq_neg_one_of_neg hneg;rw [hs1] at HSg;clear HNeg HPos hneg hs1;go_wp2_with fail;refine (HSg.out _).mono ?_;rintro en w5 ⟨rfl,b5⟩;have B5 := i' b5;clear b5;go_wp2_with fail;refine (HCom.out _ B5.out).mono ?_;rintro en w6 ⟨v6,rfl,r6,b6⟩;have B6 := i' (k'4h hbl.out (k'4h B5.out b6));have R6 := i' r6;clear b6 r6;go_wp2;go_ret;exact ⟨_,rfl,by rw [HG.out]; exact R6.out,B6.out⟩
      ·have HG := i' (HPos.out hneg)
       obtain ⟨sv,hsv⟩ : ∃ sv,sv = Int.sign lz := ⟨_,rfl⟩;have hs1 : ¬ sv < 0 := by
        rw [hsv];rcases Int.lt_trichotomy lz 0 with g | g | g
        ·exact absurd g hneg
        ·rw [g]; decide
        ·rw [Int.sign_eq_one_of_pos g]; decide
       rw [← hsv] at HSg;clear HNeg HPos hneg hsv;go_wp2_with fail;refine (HSg.out _).mono ?_;rintro en w5 ⟨rfl,b5⟩;have B5 := i' b5;clear b5;go_wp2;go_ret;exact ⟨_,rfl,by rw [HG.out]; exact hR1.out.below B5.out,k'4h hbl.out B5.out⟩
 ·have HI := i' (HI1.out (by omega))
  clear HI1 HI2 HP1 HP2;go_wp2;clear hlt0;go_loopw [1,2] (fun v1 v2 wr => ∃ (wz : World) (a1 a2 : Option Addr) (n1 c1 n2 c2 : Nat) (p q : List Int),wz = wr ∧ v1 = .slice a1 n1 c1 ∧ v2 = .slice a2 n2 c2 ∧ n1 ≤ 50 ∧ n2 ≤ 50 ∧ Hid (n1 = p.length) ∧ Hid (n2 = q.length) ∧ Hid (Rp wz (.slice a1 n1 c1) p) ∧ Hid (Rp wz (.slice a2 n2 c2) q) ∧ Hid (Pl.EInv S G p q) ∧ Hid (Below w.heap.size w wz))
   (fun _ v2 _ => lenOf v2)
  case atStart => exact ⟨w2,A1,A2,k1,C1,k2,C2,pp,pq,rfl,rfl,rfl,hl1,hl2,HN1.out,HN2.out,R1.out,R2.out,HI.out,B2.out⟩
  case round =>
   clear R1 R2 B2 HI HN1 HN2;obtain ⟨wz,a1,a2,n1,c1,n2,c2,p,q,rfl,rfl,rfl,hn1,hn2,hp1,hq1,hR1,hR2,hE,hbl⟩ := hrel;by_cases hlt : 1 < n2
   ·have hE2 := hE.out
    have hq2 : n2 = q.length := hq1.out;have h1q : 1 < q.length := by omega
    have HRe := i' (k'gt c p q (.slice a1 n1 c1) (.slice a2 n2 c2) e wz hR1.out hR2.out (HC.out.below hbl.out) (by have := hp1.out; omega) (by omega) (by intro e0; rw [e0] at h1q; simp at h1q) (hE2.mx1 h1q) hE2.len (HS.out.top2 p q hE2.s) (HS.out.fit p q hE2.s h1q hE2.len))
    have HIn := i' (hE2.step HS.out h1q);have hmr : Pl.mx (Pl.rest p q) < Top := Nat.lt_of_le_of_lt (Pl.mx_rest p q) (HS.out.fit p q hE2.s h1q hE2.len);have hrl := Pl.rest_length (p := p) (q := q) (by omega)
    have HPr := i' (fun v w' h5 h6 => k'hn c (Pl.rest p q) v e w' h5 h6 (Pl.rest_nrm p q) (by omega) (fun a ha => Nat.lt_of_le_of_lt (Pl.mx_mem ha) hmr))
    have HLe : Hid ((Pl.prim (Pl.rest p q)).length < n2) := by show _ < _; rw [Pl.prim_length]; omega
    generalize Pl.rest p q = r at *;generalize Pl.prim r = pr at *;clear hE2 hq2 h1q hmr hrl;go_wp2_with fail;refine HRe.out.mono ?_;rintro en w5 ⟨v5,rfl,r5,b5⟩;have B5 := i' (k'4h hbl.out b5);have R5 := i' r5;have R25 := i' (hR2.out.below b5);clear b5 r5;go_wp2_with fail;refine (HPr.out _ _ R5.out (HC.out.below B5.out)).mono ?_;rintro en w6 ⟨v6,rfl,r6,b6⟩;have B6 := i' (k'4h B5.out b6);have R26 := i' (R25.out.below b6);obtain ⟨a6,b66,o6,c6,rfl,-,-,-,-⟩ := r6.open_;have R6 := i' r6;clear b6 r6;have hln : pr.length < n2 := HLe.out;obtain ⟨n6,hn6⟩ : ∃ n6,n6 = pr.length := ⟨_,rfl⟩;rw [← hn6] at hln R6 ⊢;have HN6 := i' hn6;clear hn6;go_wp2;go_roundw
    case rel => exact ⟨_,a2,a6,n2,c2,n6,c6,q,pr,rfl,rfl,rfl,hn2,by omega,hq1.out,HN6.out,R26.out,R6.out,HIn.out,B6.out⟩
    case measure => simp [lenOf]; omega
   ·rcases (show n2 = 1 ∨ n2 = 0 by omega) with h1 | h1
    ·have HLs := i' (hE.out.one HS.out (hq1.out.symm.trans h1))
     subst h1;clear hE hlt;obtain ⟨bx,ox,hx4,hx5⟩ : ∃ bx ox,(0 < 1 → a2 = some ⟨bx,ox,none⟩) ∧ ∀ k (h : k < q.length),wz.cell? ⟨bx,ox + k * 2,none⟩ = some (.bool (zb q[k])) ∧ wz.cell? ⟨bx,ox + k * 2 + 1,none⟩ = some (.string (zs q[k])) := by
      obtain ⟨ax,bx,ox,cx,h1,h2,h3,h4,h5⟩ := Rp.open_ hR2.out;injection h1 with e1 e2 e3;exact ⟨bx,ox,fun h0 => e1.trans (h4 (by intro e; rw [e] at e2; simp at e2 <;> omega)),h5⟩
     have hnx : 1 = q.length := hq1.out;have h0 : 0 < 1 := Nat.one_pos
     ·obtain rfl := hx4 h0
      have hmp : 0 < q.length := by omega
      obtain ⟨d0,d1⟩ := hx5 0 hmp;simp only [Nat.zero_mul,Nat.add_zero] at d0 d1;have e8 : q.length - 1 = 0 := by omega
      have e9 : Pl.cf q (q.length - 1) = q[0] := by rw [e8,Pl.cf_lt hmp]
      have HPos : Hid (¬ q[0] < 0 → G = q) := fun h => HLs.out.pos (by omega) (by rw [e9]; exact h)
      have HNeg : Hid (q[0] < 0 → G = Pl.scl (-1) q) := fun h => HLs.out.neg (by omega) (by rw [e9]; exact h)
      have htx := HLs.out.top _ (List.getElem_mem hmp);have hl5 := HLs.out.l50;have HSg := i' (fun w => k'56 (zb q[0]) (zs q[0]) w (Nat.le_trans (k'6m htx) (by decide)))
      rw [k'6l htx] at HSg;have HCom := i' (fun w' (hb : Below wz.heap.size wz w') => k'hr c q (.slice (some ⟨bx,ox,none⟩) 1 c2) e w' (hR2.out.below hb) (HC.out.below (k'4h hbl.out hb)) (by omega) HLs.out.top)
      clear hx4 hx5 e8 e9 htx;generalize q[0] = lz at *;clear hmp hnx hl5;clear h0;by_cases hneg : lz < 0
      ·have HG := i' (HNeg.out hneg)
       have hs1 : Int.sign lz = -1 := Int.sign_eq_neg_one_of_neg hneg;rw [hs1] at HSg;clear HNeg HPos hneg hs1;go_wp2_with fail;refine (HSg.out _).mono ?_;rintro en w5 ⟨rfl,b5⟩;have B5 := i' b5;clear b5;go_wp2_with fail;refine (HCom.out _ B5.out).mono ?_;rintro en w6 ⟨v6,rfl,r6,b6⟩;have B6 := i' (k'4h hbl.out (k'4h B5.out b6));have R6 := i' r6;clear b6 r6;go_wp2;go_ret;exact ⟨_,rfl,by rw [HG.out]; exact R6.out,B6.out⟩
      ·have HG := i' (HPos.out hneg)
       obtain ⟨sv,hsv⟩ : ∃ sv,sv = Int.sign lz := ⟨_,rfl⟩;have hs1 : ¬ sv < 0 := by
        rw [hsv];rcases Int.lt_trichotomy lz 0 with g | g | g
        ·exact absurd g hneg
        ·rw [g]; decide
        ·rw [Int.sign_eq_one_of_pos g]; decide
       rw [← hsv] at HSg;clear HNeg HPos hneg hsv;go_wp2_with fail;refine (HSg.out _).mono ?_;rintro en w5 ⟨rfl,b5⟩;have B5 := i' b5;clear b5;go_wp2;go_ret;exact ⟨_,rfl,by rw [HG.out]; exact hR2.out.below B5.out,k'4h hbl.out B5.out⟩
    ·have HLs := i' (hE.out.zero HS.out (hq1.out.symm.trans h1))
     subst h1;clear hE hlt;obtain ⟨bx,ox,hx4,hx5⟩ : ∃ bx ox,(0 < n1 → a1 = some ⟨bx,ox,none⟩) ∧ ∀ k (h : k < p.length),wz.cell? ⟨bx,ox + k * 2,none⟩ = some (.bool (zb p[k])) ∧ wz.cell? ⟨bx,ox + k * 2 + 1,none⟩ = some (.string (zs p[k])) := by
      obtain ⟨ax,bx,ox,cx,h1,h2,h3,h4,h5⟩ := Rp.open_ hR1.out;injection h1 with e1 e2 e3;exact ⟨bx,ox,fun h0 => e1.trans (h4 (by intro e; rw [e] at e2; simp at e2 <;> omega)),h5⟩
     have hnx : n1 = p.length := hp1.out;rcases Nat.eq_zero_or_pos n1 with h0 | h0
     ·have HG := i' (HLs.out.nil (by omega))
      clear hx4 hx5 hnx;subst h0;go_wp2;go_ret;exact ⟨_,rfl,by rw [HG.out]; exact hR1.out,hbl.out⟩
     ·obtain ⟨mm,hmm⟩ : ∃ mm,n1 = mm + 1 := ⟨n1 - 1,by omega⟩
      obtain rfl := hx4 h0;have hmp : mm < p.length := by omega
      obtain ⟨d0,d1⟩ := hx5 mm hmp;have e8 : p.length - 1 = mm := by omega
      have e9 : Pl.cf p (p.length - 1) = p[mm] := by rw [e8,Pl.cf_lt hmp]
      have HPos : Hid (¬ p[mm] < 0 → G = p) := fun h => HLs.out.pos (by omega) (by rw [e9]; exact h)
      have HNeg : Hid (p[mm] < 0 → G = Pl.scl (-1) p) := fun h => HLs.out.neg (by omega) (by rw [e9]; exact h)
      have htx := HLs.out.top _ (List.getElem_mem hmp);have hl5 := HLs.out.l50;have HSg := i' (fun w => k'56 (zb p[mm]) (zs p[mm]) w (Nat.le_trans (k'6m htx) (by decide)))
      rw [k'6l htx] at HSg;have HCom := i' (fun w' (hb : Below wz.heap.size wz w') => k'hr c p (.slice (some ⟨bx,ox,none⟩) n1 c1) e w' (hR1.out.below hb) (HC.out.below (k'4h hbl.out hb)) (by omega) HLs.out.top)
      clear hx4 hx5 e8 e9 htx;generalize p[mm] = lz at *;clear hmp hnx hl5;have i0 : (n1 : Int) - 1 = (mm : Int) := by omega
      have i1 : (mm : Int) < (n1 : Int) := by omega
      clear hmm;by_cases hneg : lz < 0
      ·have HG := i' (HNeg.out hneg)
       have hs1 : Int.sign lz = -1 := Int.sign_eq_neg_one_of_neg hneg;rw [hs1] at HSg;clear HNeg HPos hneg hs1;go_wp2_with fail;refine (HSg.out _).mono ?_;rintro en w5 ⟨rfl,b5⟩;have B5 := i' b5;clear b5;go_wp2_with fail;refine (HCom.out _ B5.out).mono ?_;rintro en w6 ⟨v6,rfl,r6,b6⟩;have B6 := i' (k'4h hbl.out (k'4h B5.out b6));have R6 := i' r6;clear b6 r6;go_wp2;go_ret;exact ⟨_,rfl,by rw [HG.out]; exact R6.out,B6.out⟩
      ·have HG := i' (HPos.out hneg)
       obtain ⟨sv,hsv⟩ : ∃ sv,sv = Int.sign lz := ⟨_,rfl⟩;have hs1 : ¬ sv < 0 := by
        rw [hsv];rcases Int.lt_trichotomy lz 0 with g | g | g
        ·exact absurd g hneg
        ·rw [g]; decide
        ·rw [Int.sign_eq_one_of_pos g]; decide
       rw [← hsv] at HSg;clear HNeg HPos hneg hsv;go_wp2_with fail;refine (HSg.out _).mono ?_;rintro en w5 ⟨rfl,b5⟩;have B5 := i' b5;clear b5;go_wp2;go_ret;exact ⟨_,rfl,by rw [HG.out]; exact hR1.out.below B5.out,k'4h hbl.out B5.out⟩
end Go.Proofs.YtepddegphdlbeaaGreat
