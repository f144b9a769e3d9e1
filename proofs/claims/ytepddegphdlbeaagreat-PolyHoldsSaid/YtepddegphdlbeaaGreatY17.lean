/- What the theorem leans on, part Y17. -/
import Derived.Test.YtepddegphdlbeaaGreatY15
import Derived.Test.YtepddegphdlbeaaGreatY13
import Derived.Test.YtepddegphdlbeaaGreatY12
import Derived.Test.YtepddegphdlbeaaGreatY11
import Derived.Test.YtepddegphdlbeaaGreatY10
import Derived.Test.YtepddegphdlbeaaGreatY7
import Derived.Test.YtepddegphdlbeaaGreatY4
import Derived.Test.YtepddegphdlbeaaGreatY3
import Derived.Test.YtepddegphdlbeaaGreatY2
import Derived.Test.YtepddegphdlbeaaGreatY1
import Derived.Test.YtepddegphdlbeaaGreatY0
import Derived.Test.YtepddegphdlbeaaGreatProg
import Derived.WalkKit
import Derived.WalkSpells
import Derived.WalkLawsBesides
import Derived.Lib.Hide
import Derived.Deep.QuietTactic
import Derived.BigQuiet
import Derived.Shelf.Small.Bits
import Derived.Shelf.Small.Wraps
import Derived.Shelf.Strconv.Itoa0
import Derived.Shelf.Bits.Mul64
import Derived.Ground.Names2Prog
import Derived.Shelf.Slices.SearchI
import Derived.Shelf.Spec.BitsCarry
import Derived.Deep.LoopGhost
import Derived.Deep.RegionHeld3
import Derived.Deep.DeepCutAuto
import Derived.Test.YtepddegphdlbeaaGreatY6
import Derived.Test.YtepddegphdlbeaaGreatY5
import Derived.Laws.AppendOwnNone
import Derived.Test.YtepddegphdlbeaaGreatY8
import Derived.Test.YtepddegphdlbeaaGreatY9
import Derived.Below
import Derived.RangeFuncNested
import Derived.RangeFuncBound
import Derived.RangeFuncCalls
import Derived.RangeFuncLeaves
import Derived.Shelf.Abstract
import Derived.Shelf.RegionOpen
import Derived.OwnWalkIn
import Derived.TacticsInMore
import Derived.LoopNIn
import Derived.LoopIn
import Derived.OrdersIn
import Derived.Deep.RegionHeld
import Derived.Maps.AppendAt
import Derived.Lib.SliceRun
import Derived.IntWalk
import Derived.Test.YtepddegphdlbeaaGreatY14
import Derived.Test.YtepddegphdlbeaaGreatY16
import Derived.Laws.StructEq
set_option maxRecDepth 100000
set_option maxHeartbeats 16000000
set_option linter.all false
namespace Go.Proofs.YtepddegphdlbeaaGreat
open Go.RowKit
def Rn (w : World) (v : Value) (L : List Int) : Prop := ∃ (p : Option Addr) (b off cap : Nat),v = .slice p L.length cap ∧ (0 < L.length → p = some ⟨b,off,none⟩) ∧ ∀ k (h : k < L.length),w.cell? ⟨b,off + k,none⟩ = some (.int .i64 L[k])
theorem k'kn (L : List Int) (v : Value) (w : World) (h : Rn w v L) (hl : L.length ≤ 1000) (ht : ∀ a ∈ L,-9223372036854775808 ≤ a ∧ a ≤ 9223372036854775807) :
 Calls Tryz.prog 22 #[v] w (fun e w' => if (Pl.trim L).length ≤ 25 then ResP (Pl.trim L) w e w' else ResE 7 w e w') := by
 obtain ⟨p,b,off,cap,rfl,h4,h5⟩ := h;obtain ⟨Q,hQ⟩ : ∃ Q : Ending → World → Prop,Q = fun e w' => if (Pl.trim L).length ≤ 25 then ResP (Pl.trim L) w e w' else ResE 7 w e w' := ⟨_,rfl⟩
 rw [← hQ];have HOk : Hid (∀ k,k ≤ L.length → Pl.trim L = L.take k → k ≤ 25 → ∀ e w',ResP (Pl.trim L) w e w' → Q e w') := by
  intro k hk hkt h25 e w' hr;rw [hQ];show ite _ _ _;rw [if_pos (by rw [hkt]; simp; omega)]
  exact hr
 have HFull : Hid (∀ k,k ≤ L.length → Pl.trim L = L.take k → ¬ k ≤ 25 → ∀ e w',ResE 7 w e w' → Q e w') := by
  intro k hk hkt h25 e w' hr;rw [hQ];show ite _ _ _;rw [if_neg (by rw [hkt]; simp; omega)]
  exact hr
 have HK := i' (fun k (h25 : k ≤ 25) w => k'eb k w (by omega))
 obtain ⟨n,hn⟩ : ∃ n,n = L.length := ⟨_,rfl⟩;rw [← hn] at hl h4 HOk HFull ⊢;have HN := i' hn;have H4 := i' h4;have H5 := i' h5;have HT := i' ht;clear hQ h4 h5 ht hn;go_enter Tryz.func22,Tryz.ntmps22;go_wp2;go_loopw [4] (fun kv wr => ∃ k : Nat,w = wr ∧ k ≤ n ∧ kv = .int .i64 (k : Int) ∧ Hid (∀ i (h : i < L.length),k ≤ i → L[i] = 0))
  (fun kv _ => (intOf kv).toNat)
 case atStart => exact ⟨n,rfl,Nat.le_refl _,rfl,fun i h hi => absurd h (by have h5 : n = L.length := HN.out; omega)⟩
 case round =>
  obtain ⟨k,rfl,hk,rfl,hz⟩ := hrel;rcases Nat.eq_zero_or_pos k with h0 | h0
  ·have htk : Pl.trim L = L.take 0 := Pl.trim_take (Nat.zero_le _) (fun i h _ => hz.out i h (by omega)) (by rw [List.take_zero]; exact Pl.nrm_nil)
   have HR := i' (HOk.out 0 (Nat.zero_le _) htk (by omega))
   have HE : Hid (Pl.trim L = []) := by show _ = _; rw [htk,List.take_zero]
   have hmk : ∀ w,(Instr.makeSlice 23 (.int .i64 0) (.int .i64 0)).run Tryz.prog w = .ok (.slice (some ⟨w.heap.size,0,none⟩) 0 0) (w.alloc (.cells (wv ([] : List Int)).toArray 44)) := HK.out 0 (by omega)
   subst h0;clear hz htk HOk HFull;go_wp2;clear hmk;obtain ⟨w1,hw1⟩ : ∃ w1 : World,w1 = w.alloc (.cells (wv ([] : List Int)).toArray 44) := ⟨_,rfl⟩;have HB1 : Hid (Below w.heap.size w w1) := by show Below _ _ _; rw [hw1]; exact (Below.refl _ _).alloc (Nat.le_refl _) _
   rw [← hw1];clear hw1;go_loopw [6,27] (fun _ iv wr => w1 = wr ∧ iv = .int .i64 0) (fun _ _ _ => 0)
   case atStart => exact ⟨rfl,rfl⟩
   case round =>
    obtain ⟨rfl,rfl⟩ := hrel;go_wp2;exact HR.out _ _ ⟨_,rfl,by rw [HE.out]; exact Rp.mk (b := 0) (off := 0) rfl (Nat.le_refl _) (by decide) (fun h => absurd rfl h) (fun k hk => absurd hk (by simp)),HB1.out⟩
  ·obtain ⟨j,hj⟩ : ∃ j,k = j + 1 := ⟨k - 1,by omega⟩
   have hjL : j < L.length := by have h5 : n = L.length := HN.out; omega
   obtain rfl := H4.out (by omega)
   have c0 := H5.out j hjL;have j0 : (k : Int) - 1 = (j : Int) := by omega
   have j1 : (j : Int) < (n : Int) := by omega
   have j2 : (0 : Int) ≤ (j : Int) := by omega
   have j3 : (0 : Int) < (k : Int) := by omega
   have j4 : IntKind.i64.wrap (j : Int) = (j : Int) := IntWalk.i64_in _ (by omega)
   by_cases hv : L[j] = 0
   ·have HV := i' hv
    rw [hv] at c0;have HZ : Hid (∀ i (h : i < L.length),j ≤ i → L[i] = 0) := by
     intro i h hi;rcases Nat.lt_or_ge j i with g | g
     ·exact hz.out i h (by omega)
     ·obtain rfl : i = j := by omega
      exact HV.out
    clear hv hz hj h0;go_wp2;go_roundw
    case rel => exact ⟨j,(by first | rfl | trivial),by omega,rfl,HZ.out⟩
    case measure => simp [intOf]; omega
   ·have htk : Hid (Pl.trim L = L.take k) := by
     show _ = _;rw [hj];exact Pl.trim_take (by omega) (fun i h hi => hz.out i h (by omega)) (Pl.nrm_take_last hjL hv)
    have hv2 : (L[j] == 0) = false := by simpa using hv
    clear hz;generalize L[j] = lz at *;clear hv hjL hj h0;by_cases h25 : k ≤ 25
    ·have HR := i' (HOk.out k hk htk.out h25)
     have hk25 : ¬ (25 : Int) < (k : Int) := by omega
     have hkk : (k : Int) ≤ 25 := by omega
     have hmk := HK.out k h25;clear HOk HFull;go_wp2;clear hmk;obtain ⟨w1,hw1⟩ : ∃ w1 : World,w1 = w.alloc (.cells (wv (List.replicate k 0)).toArray 44) := ⟨_,rfl⟩;have HA1 : Hid (Aw w1 w.heap.size (L.take 0 ++ List.replicate (k - 0) 0)) := by rw [hw1,List.take_zero,List.nil_append,Nat.sub_zero]; exact Aw.made w _
     have HB1 : Hid (Below w.heap.size w w1) := by show Below _ _ _; rw [hw1]; exact (Below.refl _ _).alloc (Nat.le_refl _) _
     rw [← hw1];clear hw1;go_loopw [6,27] (fun _ iv wr => ∃ (wz : World) (i : Nat),wz = wr ∧ i ≤ k ∧ iv = .int .i64 (i : Int) ∧ Hid (Aw wz w.heap.size (L.take i ++ List.replicate (k - i) 0)) ∧ Hid (Below w.heap.size w wz))
      (fun _ iv _ => k - (intOf iv).toNat)
     case atStart => exact ⟨w1,0,rfl,Nat.zero_le _,rfl,HA1.out,HB1.out⟩
     case round =>
      clear HA1 HB1;obtain ⟨wz,i,rfl,hi,rfl,haw,hbl⟩ := hrel;have hgl := haw.out.lt;by_cases hlt : i < k
      ·have hiL : i < L.length := by have h5 : n = L.length := HN.out; omega
       have c0 := k'4i hbl.out (H5.out i hiL);have HOi := i' (fun w => k'gw L[i] w (HT.out _ (List.getElem_mem hiL)).1 (HT.out _ (List.getElem_mem hiL)).2);have hll : i < (L.take i ++ List.replicate (k - i) 0).length := by simp; omega
       have HSet : Hid ((L.take i ++ List.replicate (k - i) 0).set i L[i] = L.take (i + 1) ++ List.replicate (k - (i + 1)) 0) := by
        show _ = _;obtain ⟨d,hd⟩ : ∃ d,k - i = d + 1 := ⟨k - i - 1,by omega⟩
        have h6 := k'ho (L.take i) d L[i];rw [show (L.take i).length = i by simp; omega] at h6
        rw [hd,h6,show k - (i + 1) = d by omega,List.take_succ_eq_append_getElem hiL]
       have i0 : (0 : Int) ≤ (i : Int) := by omega
       have i1 : (i : Int) < (k : Int) := by omega
       have i2 : (i : Int) < (n : Int) := by omega
       have HLL := i' hll;clear hll;generalize L[i] = x at *;clear hiL;unfold Z at HOi;go_wp2_with fail;refine (HOi.out _).mono ?_;rintro e w5 ⟨rfl,b5⟩;have HA5 := i' (haw.out.below b5);have HB5 := i' (k'4h hbl.out b5);clear b5 c0;obtain ⟨y0,y1⟩ := HA5.out.cell i HLL.out;have f0 := HA5.out.free (i * 2);have f1 := HA5.out.free (i * 2 + 1);have HA7 := HA5.out.set i HLL.out x;rw [HSet.out] at HA7;have HA8 := i' HA7;have HB8 := i' ((HB5.out.setCell (p := ⟨w.heap.size,i * 2,none⟩) (Nat.le_refl _) (.bool (zb x))).setCell (p := ⟨w.heap.size,i * 2 + 1,none⟩) (Nat.le_refl _) (.string (zs x)));clear HA7;go_wp2;go_roundw
       case rel => exact ⟨_,i + 1,rfl,by omega,by go_num,HA8.out,HB8.out⟩
       case measure => simp [intOf]; omega
      ·obtain rfl : i = k := by omega
       have HRp : Hid (Rp wz (.slice (some ⟨w.heap.size,0,none⟩) i i) (Pl.trim L)) := by
        have h5 := haw.out;rw [Nat.sub_self,List.replicate_zero,List.append_nil,← htk.out] at h5;exact Rp.of_whole h5 i i (by rw [htk.out]; simp; have h5 : n = L.length := HN.out; omega) (Nat.le_refl _) (by unfold maxLen; omega)
       go_wp2;exact HR.out _ _ ⟨_,rfl,HRp.out,hbl.out⟩
    ·have HR := i' (HFull.out k hk htk.out h25)
     have hk25 : (25 : Int) < (k : Int) := by omega
     clear HOk HFull;go_wp2;exact HR.out _ _ ⟨rfl,Below.refl _ _⟩
theorem k'kp (L : List Int) (v : Value) (w : World) (h : Rn w v L) (hl : L.length ≤ 1000) (ht : ∀ a ∈ L,-9223372036854775808 ≤ a ∧ a ≤ 9223372036854775807) : Calls Tryz.prog 23 #[v] w (RPPost (Pl.trim L) w) := by
 obtain ⟨a,b,off,cap,rfl,h4,h5⟩ := h;have HF := i' (fun k (hk : k < L.length) w => k'9c L[k] w (ht _ (List.getElem_mem hk)).1 (ht _ (List.getElem_mem hk)).2);have HTk := i' (fun k (hk : k < L.length) => show L.take k ++ [L[k]] = L.take (k + 1) from (List.take_succ_eq_append_getElem hk).symm);obtain ⟨n,hn⟩ : ∃ n,n = L.length := ⟨_,rfl⟩;rw [← hn] at hl h4 ⊢;have HN := i' hn;have H4 := i' h4;have H5 := i' h5;clear h4 h5 hn ht;go_enter Tryz.func23,Tryz.ntmps23;go_wp2;go_loopw [3,4] (fun v iv wr => ∃ (wz : World) (k : Nat),wz = wr ∧ k ≤ n ∧ iv = .int .i64 (k : Int) ∧ Hid (RowP wz w.heap.size v (L.take k)) ∧ Hid (Below w.heap.size w wz))
  (fun _ iv _ => n - (intOf iv).toNat)
 case atStart => exact ⟨w,0,rfl,Nat.zero_le _,rfl,RowP.nil _ _,Below.refl _ _⟩
 case round =>
  obtain ⟨wz,k,rfl,hk,rfl,hrow,hbl⟩ := hrel;by_cases hlt : k < n
  ·have hkp : k < L.length := by have h5 : n = L.length := HN.out; omega
   obtain rfl := H4.out (by omega)
   have c0 := k'4i hbl.out (H5.out k hkp);have HFk := i' (HF.out k hkp);have HT := i' (HTk.out k hkp);have hkk : (k : Int) < (n : Int) := by omega
   have hk0 : (0 : Int) ≤ (k : Int) := by omega
   have HLk : Hid ((L.take k).length ≤ 100000) := by show _ ≤ _; rw [List.length_take]; omega
   generalize L[k] = z at *;clear hkp;go_wp2_with fail;refine (HFk.out _).mono ?_;rintro e w5 ⟨u,rfl,r5,b5⟩;have HR5 := i' r5;have HX5 := i' (hrow.out.below b5);have HB5 := i' (k'4h hbl.out b5);clear b5 r5 c0;unfold iV;go_wp2_with (at_builtin; refine k'j3 rfl rfl _ _ rfl rfl rfl HX5.out HR5.out HLk.out HB5.out ?_);intro v' w1 hrow1 hb1 _;have HN1 := i' hrow1;have HB1 := i' hb1;rw [HT.out] at HN1;clear hrow1 hb1;go_wp2;go_roundw
   case rel => exact ⟨_,k + 1,rfl,by omega,by go_num,HN1.out,HB1.out⟩
   case measure => simp [intOf]; omega
  ·obtain rfl : k = n := by omega
   have HRo : Hid (RP wz u3 L) := by
    have h5 := hrow.out.rp;rw [show k = L.length from HN.out,List.take_length] at h5;exact h5
   go_wp2_with fail;refine (k'f8 _ _ _ HRo.out).mono ?_;rintro e w6 ⟨v6,rfl,r6,b6⟩;have HR6 := i' r6;have HB6 := i' (k'4h hbl.out b6);clear r6 b6;go_wp2;go_ret;exact ⟨_,rfl,HR6.out,HB6.out⟩
theorem k'ks (w : World) (a b : Bool) (s t : ByteArray) : (binOp .neq 44 (.agg #[.bool a,.string s]) (.agg #[.bool b,.string t])).run Tryz.prog w = .ok (.bool (!(a == b && s.toList == t.toList))) w := by
 have hu := Tryz.underlying44;have hs : Tryz.prog.stoodInHeld 44 = false := by kernel_rfl
 rw [run_neq_struct,show (10000 : Nat) = 9999 + 1 from rfl,run_equalIn_agg w 9999 _ _ _ (by simp only [Program.fieldsOf,hu]) hs]
 simp only [Program.fieldsOf,hu]
 cases hab : (a == b) <;> simp [Op.eqFields,go_sem,part,run_equalIn_bool',run_equalIn_string,Tryz.underlying4,Tryz.underlying9,hab]
 by_cases h : s.toList = t.toList <;> simp [h]
theorem k'kv (L1 L2 : List (Bool × ByteArray)) (v1 v2 : Value) (w : World) (h1 : Rw w v1 L1) (h2 : Rw w v2 L2) :
 Calls Tryz.prog 18 #[v1,v2] w (BPost (decide (L1 = L2)) w) := by
 have hl1 := h1.len;have hl2 := h2.len;obtain ⟨p1,b1,o1,c1,rfl,-,-,h14,h15⟩ := h1;obtain ⟨p2,b2,o2,c2,rfl,-,-,h24,h25⟩ := h2;obtain ⟨r,hr⟩ : ∃ r,r = decide (L1 = L2) := ⟨_,rfl⟩;rw [← hr];have HNe : Hid (∀ k (hk1 : k < L1.length) (hk2 : k < L2.length),L1[k] ≠ L2[k] → r = false) := by
  intro k hk1 hk2 hne;rw [hr,decide_eq_false_iff_not];intro e;subst e;exact hne rfl
 have HEq : Hid (L1.length = L2.length → (∀ k (hk1 : k < L1.length) (hk2 : k < L2.length),L1[k] = L2[k]) → r = true) := by
  intro hl h;rw [hr,decide_eq_true_eq];exact List.ext_getElem hl fun k a b => h k a b
 have HLn : Hid (L1.length ≠ L2.length → r = false) := by
  intro hl;rw [hr,decide_eq_false_iff_not];intro e;exact hl (by rw [e])
 have H14 := i' h14;have H24 := i' h24;have H15 := i' h15;have H25 := i' h25;clear hr h14 h24 h15 h25;obtain ⟨n1,hn1⟩ : ∃ n,n = L1.length := ⟨_,rfl⟩;obtain ⟨n2,hn2⟩ : ∃ n,n = L2.length := ⟨_,rfl⟩;rw [← hn1,← hn2] at HLn ⊢;rw [← hn1] at hl1;rw [← hn2] at hl2;have HN1 := i' hn1;have HN2 := i' hn2;clear hn1 hn2;by_cases hne : n1 = n2
 ·subst hne
  have HEq := i' (HEq.out (HN1.out.symm.trans HN2.out));clear HLn;go_enter Tryz.func18,Tryz.ntmps18;go_wp2;go_loopw [5] (fun iv wr => ∃ (wz : World) (k : Nat),wz = wr ∧ k ≤ n1 ∧ iv = .int .i64 (k : Int) ∧ Hid (∀ j (h1 : j < L1.length) (h2 : j < L2.length),j < k → L1[j] = L2[j]) ∧ Hid (Below w.heap.size w wz))
   (fun iv _ => n1 - (intOf iv).toNat)
  case atStart => exact ⟨w,0,rfl,Nat.zero_le _,rfl,fun j _ _ hj => absurd hj (Nat.not_lt_zero _),Below.refl _ _⟩
  case round =>
   obtain ⟨wz,k,rfl,hk,rfl,hall,hbl⟩ := hrel;by_cases hlt : k < n1
   ·have hk1 : k < L1.length := by have h5 : n1 = L1.length := HN1.out; omega
    have hk2 : k < L2.length := by have h5 : n1 = L2.length := HN2.out; omega
    obtain ⟨a,s,hL1⟩ : ∃ a s,L1[k] = (a,s) := ⟨_,_,rfl⟩;obtain ⟨b,t,hL2⟩ : ∃ b t,L2[k] = (b,t) := ⟨_,_,rfl⟩;obtain rfl := H14.out (by intro e; rw [e] at hk1; exact absurd hk1 (Nat.not_lt_zero _))
    obtain rfl := H24.out (by intro e; rw [e] at hk2; exact absurd hk2 (Nat.not_lt_zero _))
    have c0 := k'4i hbl.out (H15.out k hk1).1;have c1 := k'4i hbl.out (H15.out k hk1).2;have d0 := k'4i hbl.out (H25.out k hk2).1;have d1 := k'4i hbl.out (H25.out k hk2).2;rw [hL1] at c0 c1;rw [hL2] at d0 d1;simp only at c0 c1 d0 d1;have HF : Hid (¬ (a = b ∧ s = t) → r = false) := fun h => HNe.out k hk1 hk2 (by rw [hL1,hL2]; intro e; injection e with e1 e2; exact h ⟨e1,e2⟩)
    have HR : Hid (a = b ∧ s = t → ∀ j (h1 : j < L1.length) (h2 : j < L2.length),j < k + 1 → L1[j] = L2[j]) := by
     rintro ⟨rfl,rfl⟩ j h1 h2 hj;rcases Nat.lt_or_ge j k with g | g
     ·exact hall.out j h1 h2 g
     ·obtain rfl : j = k := by omega
      rw [hL1,hL2]
    have hkk : (k : Int) < (n1 : Int) := by omega
    have hk0 : (0 : Int) ≤ (k : Int) := by omega
    clear hL1 hL2 hall hk1 hk2;by_cases hab : (a == b && s.toList == t.toList) = true
    ·have qN : ∀ w,(binOp .neq 44 (.agg #[.bool a,.string s]) (.agg #[.bool b,.string t])).run Tryz.prog w = .ok (.bool false) w := fun w => by rw [k'ks,hab]; rfl
     have HR2 : Hid (∀ j (h1 : j < L1.length) (h2 : j < L2.length),j < k + 1 → L1[j] = L2[j]) := HR.out (by
      rw [Bool.and_eq_true,beq_iff_eq,beq_iff_eq] at hab;have h6 : s.data.toList = t.data.toList := by rw [← ByteArray.toList_eq,← ByteArray.toList_eq]; exact hab.2
      exact ⟨hab.1,ByteArray.ext (Array.ext' h6)⟩)
     clear hab HR HF;go_upto_region 6 with (fail);go_quiet (fail);go_wp2;go_roundw
     case rel => exact ⟨_,k + 1,rfl,by omega,by go_num,HR2.out,k'2w hbl.out _⟩
     case measure => simp [intOf]; omega
    ·have qN : ∀ w,(binOp .neq 44 (.agg #[.bool a,.string s]) (.agg #[.bool b,.string t])).run Tryz.prog w = .ok (.bool true) w := fun w => by rw [k'ks,Bool.not_eq_true _ |>.mp hab]; rfl
     have HF2 : Hid (r = false) := HF.out (by
      rintro ⟨rfl,rfl⟩;exact hab (by simp))
     clear hab HR HF;go_upto_region 6 with (fail);go_quiet (fail);go_wp2;go_ret;exact ⟨by rw [HF2.out]; rfl,k'2w hbl.out _⟩
   ·have HT : Hid (r = true) := HEq.out (fun j h1 h2 => hall.out j h1 h2 (by have h5 : n1 = L1.length := HN1.out; omega))
    obtain rfl : k = n1 := by omega
    clear hall;go_wp2;go_ret;exact ⟨by rw [HT.out]; rfl,hbl.out⟩
 ·have HF := i' (HLn.out hne)
  have hne2 : ((n1 : Int) == (n2 : Int)) = false := by simp; omega
  clear HLn;go_enter Tryz.func18,Tryz.ntmps18;go_wp2;go_ret;exact ⟨by rw [HF.out]; rfl,Below.refl _ _⟩
def ckv (L : List (Bool × ByteArray)) (a : Bool) (s : ByteArray) (b : Bool) (t : ByteArray) : Int :=
 if (vldP L && vldR a s b t) = true then (if tlg L (glb [(a,s),(b,t)]) = true then 7 else 0) else 2
theorem k'kw (L : List (Bool × ByteArray)) (v : Value) (a b : Bool) (s t : ByteArray) (w : World) (h : Rw w v L) (z : Small L) (z1 : s.size ≤ 140737488351232) (z2 : t.size ≤ 140737488351232) :
 Calls Tryz.prog 99 #[v,rat a s b t] w (IPost (ckv L a s b t) w) := by
 have HV := i' (fun w' (hb : Below w.heap.size w w') => k'ex L v w' (h.below hb) z);have HR := i' (fun w' => k'63 a b s t w' z1 z2);have HG := i' (fun v w' h => k'f3 [(a,s),(b,t)] v w' h (by intro x hx; simp at hx; rcases hx with rfl | rfl <;> assumption))
 have HT : Hid (vldP L = true → ∀ w',Below w.heap.size w w' → Calls Tryz.prog 107 #[v,.int .i64 (glb [(a,s),(b,t)])] w' (BPost (tlg L (glb [(a,s),(b,t)])) w')) :=
  fun hv w' hb => k'hc L v _ w' (h.below hb) z (k'ha hv) (by have := k'h9 [(a,s),(b,t)]; omega)
 obtain ⟨r,hr⟩ : ∃ r,r = ckv L a s b t := ⟨_,rfl⟩;rw [← hr];unfold ckv at hr;have HW : Hid (∀ w' q,w'.cell? ⟨q,0,none⟩ = some (.bool a) → w'.cell? ⟨q,0 + 1,none⟩ = some (.string s) → w'.cell? ⟨q,0 + 2,none⟩ = some (.bool b) → w'.cell? ⟨q,0 + 2 + 1,none⟩ = some (.string t) → Rw w' (.slice (some ⟨q,0,none⟩) 2 2) [(a,s),(b,t)]) := by
  intro w' q h0 h1 h2 h3;refine ⟨_,q,0,2,rfl,by simp,by decide,fun _ => rfl,fun k hk => ?_⟩
  match k,hk with
  | 0,_ => exact ⟨h0,h1⟩
  | 1,_ => exact ⟨h2,h3⟩
 obtain ⟨p,b0,o,c,rfl,-,-,-,-⟩ := h;clear z z1 z2;unfold rat;generalize vldP L = x1 at *;generalize vldR a s b t = x2 at *;generalize glb [(a,s),(b,t)] = g at *;generalize tlg L g = x3 at *;obtain ⟨w0,hw0⟩ : ∃ w0 : World,w0 = w.alloc (.cells #[.bool a,.string s,.bool b,.string t] 59) := ⟨_,rfl⟩;have HB0 : Hid (Below w.heap.size w w0) := by rw [hw0]; exact (Below.refl _ _).alloc (Nat.le_refl _) _
 have C0 : Hid (w0.cell? ⟨w.heap.size,0,none⟩ = some (.bool a) ∧ w0.cell? ⟨w.heap.size,1,none⟩ = some (.string s) ∧ w0.cell? ⟨w.heap.size,2,none⟩ = some (.bool b) ∧ w0.cell? ⟨w.heap.size,3,none⟩ = some (.string t)) := by
  rw [hw0]; exact ⟨by simp [go_sem],by simp [go_sem],by simp [go_sem],by simp [go_sem]⟩
 cases x1
 ·have HR : Hid (r = 2) := hr
  clear hr;go_enter Tryz.func99,Tryz.ntmps99;go_wp2_with fail;rw [← hw0];clear hw0;refine (HV.out _ HB0.out).mono ?_;rintro e w1 ⟨rfl,b1⟩;have c0 := k'4i b1 C0.out.1;have c1 := k'4i b1 C0.out.2.1;have c2 := k'4i b1 C0.out.2.2.1;have c3 := k'4i b1 C0.out.2.2.2;have B1 := i' (k'4h HB0.out b1);clear b1;clear c0 c1 c2 c3;go_wp2;go_ret;exact ⟨by rw [HR.out]; rfl,B1.out⟩
 have HT2 := i' (HT.out rfl);clear HT
 cases x2
 ·have HRr : Hid (r = 2) := hr
  clear hr;go_enter Tryz.func99,Tryz.ntmps99;go_wp2_with fail;rw [← hw0];clear hw0;refine (HV.out _ HB0.out).mono ?_;rintro e w1 ⟨rfl,b1⟩;have c0 := k'4i b1 C0.out.1;have c1 := k'4i b1 C0.out.2.1;have c2 := k'4i b1 C0.out.2.2.1;have c3 := k'4i b1 C0.out.2.2.2;have B1 := i' (k'4h HB0.out b1);clear b1;go_wp2_with fail;refine (HR.out _).mono ?_;rintro e w2 ⟨rfl,b2⟩;have B2 := i' (k'4h B1.out b2);clear b2 c0 c1 c2 c3;go_wp2;go_ret;exact ⟨by rw [HRr.out]; rfl,B2.out⟩
 rw [show (true && true) = true from rfl,if_pos rfl] at hr
 cases x3
 all_goals
  have HRr : Hid (r = _) := hr;clear hr;go_enter Tryz.func99,Tryz.ntmps99;go_wp2_with fail;rw [← hw0];clear hw0;refine (HV.out _ HB0.out).mono ?_;rintro e w1 ⟨rfl,b1⟩;have c0 := k'4i b1 C0.out.1;have c1 := k'4i b1 C0.out.2.1;have c2 := k'4i b1 C0.out.2.2.1;have c3 := k'4i b1 C0.out.2.2.2;have B1 := i' (k'4h HB0.out b1);clear b1;go_wp2_with fail;refine (HR.out _).mono ?_;rintro e w2 ⟨rfl,b2⟩;have B2 := i' (k'4h B1.out b2);have c0 := k'4i b2 c0;have c1 := k'4i b2 c1;have c2 := k'4i b2 c2;have c3 := k'4i b2 c3;clear b2;go_wp2_with fail;obtain ⟨w3,hw3⟩ : ∃ w3 : World,w3 = w2.alloc (.cells #[.bool a,.string s,.bool b,.string t] 44) := ⟨_,rfl⟩;have hg := HW.out w3 w2.heap.size (by rw [hw3]; simp [go_sem]) (by rw [hw3]; simp [go_sem]) (by rw [hw3]; simp [go_sem]) (by rw [hw3]; simp [go_sem])
  have B3 := i' (B2.out.alloc B2.out.size (.cells #[.bool a,.string s,.bool b,.string t] 44));rw [← hw3] at B3 ⊢;clear hw3 c0 c1 c2 c3;refine (HG.out _ _ hg).mono ?_;rintro e w4 ⟨rfl,b4⟩;have B4 := i' (k'4h B3.out b4);clear b4 hg;go_wp2_with fail;refine (HT2.out _ B4.out).mono ?_;rintro e w5 ⟨rfl,b5⟩;have B5 := i' (k'4h B4.out b5);clear b5;go_wp2;go_ret;exact ⟨by rw [HRr.out]; rfl,B5.out⟩
theorem k'kx (a : Int) (n : Nat) : a ^ (n + 1) = a ^ n * a := by rw [Int.pow_succ]
theorem k'ky (c : Nat) (a : Int) (n : Int) (m : Nat) (e : Int) (w : World) (hc : Ck w c e) (ha : a.natAbs < Top) (hm : m = n.toNat) (hn : -100 ≤ n ∧ n ≤ 100) (hp : ∀ j,j ≤ m → (a ^ j).natAbs < Top) :
 Calls Tryz.prog 101 #[.pointer (some ⟨c,0,none⟩),Z a,.int .i64 n] w (Ret (Z (a ^ m)) w) := by
 have HO := i' (fun w => k'gw 1 w (by decide) (by decide))
 have HM := i' (fun k (h : k < m) w hc => k'es c (a ^ k) a e w hc (hp k (by omega)) ha (by rw [← k'kx]; exact hp _ (by omega)))
 have HC := i' hc;have hcl := hc.lt;obtain ⟨w0,hw0⟩ : ∃ w0 : World,w0 = (w.alloc (.cells #[.bool (zb a),.string (zs a)] 44)).alloc (.cells #[.bool false,.string ⟨#[]⟩] 44) := ⟨_,rfl⟩;have HA0 : Hid (Aw w0 w.heap.size [a]) := by show Aw _ _ _; rw [hw0]; exact (Aw.made w [a]).alloc _
 have HR0 : Hid (Aw w0 (w.heap.size + 1) [0]) := by
  show Aw _ _ _;rw [hw0];have h5 := Aw.made (w.alloc (.cells #[.bool (zb a),.string (zs a)] 44)) [0];rw [World.size_alloc] at h5;exact h5
 have HB0 : Hid (Below w.heap.size w w0) := by show Below _ _ _; rw [hw0]; exact ((Below.refl _ _).alloc (Nat.le_refl _) _).alloc (by simp) _
 have HZ0 : Hid (w0.heap.size = w.heap.size + 2) := by show _ = _; rw [hw0]; simp
 obtain ⟨P,hP⟩ : ∃ P,P = a ^ m := ⟨_,rfl⟩;rw [← hP];have HP := i' hP;have HN := i' hm;clear hc ha hp hP hm;go_enter Tryz.func101,Tryz.ntmps101;unfold Z;go_wp2_with fail;rw [← hw0];clear hw0;refine (HO.out _).mono ?_;rintro en w1 ⟨rfl,b1⟩;have hs1 := b1.size;have h02 := HZ0.out;have HA1 := i' ((HA0.out.below b1).alloc (.cells #[.bool (zb 1),.string (zs 1)] 44));have HR1 := i' ((HR0.out.below b1).alloc (.cells #[.bool (zb 1),.string (zs 1)] 44));have HG1 : Hid (Aw (w1.alloc (.cells #[.bool (zb 1),.string (zs 1)] 44)) w1.heap.size [1]) := Aw.made w1 [1];have HB1 := i' ((k'4h HB0.out b1).alloc (by omega) (.cells #[.bool (zb 1),.string (zs 1)] 44))
 obtain ⟨w2,hw2⟩ : ∃ w2 : World,w2 = w1.alloc (.cells #[.bool (zb 1),.string (zs 1)] 44) := ⟨_,rfl⟩;obtain ⟨g,hg⟩ : ∃ g,g = w1.heap.size := ⟨_,rfl⟩;rw [← hw2] at HA1 HR1 HG1 HB1;rw [← hg] at HG1;have hgs : w.heap.size + 2 ≤ g := by omega
 clear b1 HA0 HR0 HB0;unfold Z;go_wp2_with fail;rw [← hw2,← hg];clear hw2 hg;go_loopw [10] (fun iv wr => ∃ (wz : World) (k : Nat),wz = wr ∧ k ≤ m ∧ iv = .int .i64 (k : Int) ∧ Hid (Aw wz g [a ^ k]) ∧ Hid (Aw wz w.heap.size [a]) ∧ Hid (Aw wz (w.heap.size + 1) [0]) ∧ Hid (Below w.heap.size w wz))
  (fun iv _ => m - (intOf iv).toNat)
 case atStart => exact ⟨_,0,rfl,Nat.zero_le _,rfl,by rw [Int.pow_zero]; exact HG1.out,HA1.out,HR1.out,HB1.out⟩
 case round =>
  clear HG1 HA1 HR1 HB1;obtain ⟨wz,k,rfl,hk,rfl,hG,hA,hR,hbl⟩ := hrel;have hgl := hG.out.lt;have hmn : m = n.toNat := HN.out;by_cases hlt : k < m
  ·have HMk := i' (HM.out k hlt)
   have hkn : (k : Int) < n := by omega
   obtain ⟨d0,d1⟩ := hG.out.cell 0 (by simp)
   obtain ⟨x0,x1⟩ := hA.out.cell 0 (by simp)
   simp only [Nat.zero_mul,Nat.zero_add,List.getElem_cons_zero] at d0 d1 x0 x1;have HY : Hid (a ^ k * a = a ^ (k + 1)) := (k'kx a k).symm;generalize a ^ k * a = y at *;generalize a ^ k = x at *;unfold Z at HMk;go_wp2_with fail;refine (HMk.out _ (HC.out.below hbl.out)).mono ?_;rintro en w5 ⟨rfl,b5⟩;have HG5 := i' (hG.out.below b5);have HA5 := i' (hA.out.below b5);have HR5 := i' (hR.out.below b5);have HB5 := i' (k'4h hbl.out b5);clear b5 hG hA hR hbl;obtain ⟨y0,y1⟩ := HG5.out.cell 0 (by simp)
   simp only [Nat.zero_mul,Nat.zero_add,List.getElem_cons_zero] at y0 y1;have f0 := HG5.out.free 0;have f1 := HG5.out.free 1;have HG7 := HG5.out.set 0 (by simp) y
   simp only [Nat.zero_mul,Nat.zero_add,List.set_cons_zero] at HG7;have HG8 := i' HG7;have HA8 := i' ((HA5.out.other ⟨g,0,none⟩ (.bool (zb y)) (by simp only; omega)).other ⟨g,1,none⟩ (.string (zs y)) (by simp only; omega))
   have HR8 := i' ((HR5.out.other ⟨g,0,none⟩ (.bool (zb y)) (by simp only; omega)).other ⟨g,1,none⟩ (.string (zs y)) (by simp only; omega))
   have HB8 := i' ((HB5.out.setCell (p := ⟨g,0,none⟩) (by simp only; omega) (.bool (zb y))).setCell (p := ⟨g,1,none⟩) (by simp only; omega) (.string (zs y)))
   clear HG7;go_wp2;go_roundw
   case rel => exact ⟨_,k + 1,rfl,by omega,by go_num,by rw [← HY.out]; exact HG8.out,HA8.out,HR8.out,HB8.out⟩
   case measure => simp [intOf]; omega
  ·obtain rfl : k = m := by omega
   have hkn : ¬ (k : Int) < n := by omega
   obtain ⟨d0,d1⟩ := hG.out.cell 0 (by simp)
   obtain ⟨e0,e1⟩ := hR.out.cell 0 (by simp)
   simp only [Nat.zero_mul,Nat.zero_add,List.getElem_cons_zero] at d0 d1 e0 e1;rw [← HP.out] at d0 d1;have f0 := hR.out.free 0;have f1 := hR.out.free 1;have HB8 := i' ((hbl.out.setCell (p := ⟨w.heap.size + 1,0,none⟩) (by simp) (.bool (zb P))).setCell (p := ⟨w.heap.size + 1,1,none⟩) (by simp) (.string (zs P)))
   go_wp2;exact bodyPost_ret (v := .agg #[.bool (zb P),.string (zs P)]) (by simp [results,Tryz.results101,go_sem,e0,e1]) rfl ⟨rfl,HB8.out⟩
end Go.Proofs.YtepddegphdlbeaaGreat
namespace Go.Proofs.YtepddegphdlbeaaGreat
open Go.RowKit Go.Shelf
attribute [local go_sem] Oper.semAt_some
def hor (L : List Int) (x : Int) (k : Nat) : Int := Pl.ev (L.drop (L.length - k)) x
theorem k'kz (L : List Int) (x : Int) : hor L x 0 = 0 := by simp [hor,Pl.ev]
theorem k'l0 (L : List Int) (x : Int) (k : Nat) (h : k < L.length) : hor L x (k + 1) = hor L x k * x + Pl.cf L (L.length - 1 - k) := by
 unfold hor;rw [List.drop_eq_getElem_cons (by omega : L.length - (k + 1) < L.length),Pl.ev,← Pl.cf_lt (by omega),show L.length - (k + 1) + 1 = L.length - k by omega,show L.length - (k + 1) = L.length - 1 - k by omega,Int.mul_comm x]; omega
theorem k'l1 (L : List Int) (x : Int) : hor L x L.length = Pl.ev L x := by simp [hor]
def VlI (L : List Int) (c M0 Sb n₀ Bs : Nat) (sv : Value) (num e : Int) (w : World) (pre : List (Fin L.length)) (W : World) : Prop :=
 (∃ (s en : Int),s.natAbs < Top ∧ Aw W Sb [s] ∧ Ck W c en ∧ ∀ k h,pre = dn L.length k h → en = e ∧ s = hor L num k) ∧
 (W.cell? ⟨M0,0,none⟩ = some (.pointer (some ⟨c,0,none⟩)) ∧ W.cell? ⟨M0 + 1,0,none⟩ = some (.bool (zb num)) ∧ W.cell? ⟨M0 + 1,1,none⟩ = some (.string (zs num)) ∧ W.cell? ⟨Bs,0,none⟩ = some sv) ∧ Aw W (M0 + 1 + 1) [0] ∧ Bn c n₀ w W
theorem k'l2 (L : List Int) (c M0 Sb n₀ Bs B : Nat) (sv : Value) (num e : Int) (w : World) (hn : n₀ ≤ w.heap.size) (hB : n₀ ≤ B) : OwnFrom B (VlI L c M0 Sb n₀ Bs sv num e w) := by
 rintro pre W W' row ⟨⟨s,en,h2,h4,h5,h6⟩,⟨h7,h8,h11,h12⟩,h9,h10⟩ hg hr;have hr' : ∀ r,row = some r → ∃ o : Obj,W.heap[r]? = some o ∧ o.isCells = false := fun r e => (hr r e).2;exact ⟨⟨s,en,h2,k'gx h4 hg hr',k'gy h5 hg hr',h6⟩,⟨cell_kept h7 hg hr',cell_kept h8 hg hr',cell_kept h11 hg hr',cell_kept h12 hg hr'⟩,k'gx h9 hg hr',k'fv (β := Unit) hn hB () W W' row h10 hg hr⟩
structure Kv (c n₀ Bs bL n : Nat) (W W' : World) : Prop where
 bk : Bk c n₀ Bs W W'
 row : 0 < n → W'.heap[bL]? = W.heap[bL]?
theorem Kv.refl (c n₀ Bs bL n : Nat) (W : World) : Kv c n₀ Bs bL n W W := ⟨Bk.refl _ _ _ _,fun _ => rfl⟩
theorem k'l3 {c n₀ Bs bL n : Nat} : ∀ {A B C : World},Kv c n₀ Bs bL n A B → Kv c n₀ Bs bL n B C → Kv c n₀ Bs bL n A C := fun h k => ⟨h.bk.trans k.bk,fun h0 => (k.row h0).trans (h.row h0)⟩
theorem k'l4 {c n₀ Bs bL n : Nat} {w : World} (hn : n₀ ≤ w.heap.size) (hB : Bs < w.heap.size) (hL : 0 < n → bL < w.heap.size) : ∀ (W : World) (l : Nat) (o o' : Obj),w.heap.size ≤ l → W.heap[l]? = some o → o.isCells = false → o.isWalk = false → Kv c n₀ Bs bL n W (W.putObj l o') :=
 fun W l o o' hl h1 h2 h3 => ⟨k'fx hn hB W l o o' hl h1 h2 h3,fun h0 => World.putObj_heap_other (by have := hL h0; omega)⟩
theorem Kv.of_but {c n₀ Bs bL n : Nat} {w w' : World} (h : But c w w') (hn : n₀ ≤ w.heap.size) (hB : Bs < w.heap.size) (hc : Bs ≠ c) (hL : 0 < n → bL < w.heap.size ∧ bL ≠ c) : Kv c n₀ Bs bL n w w' := ⟨Bk.of_but h hn hB hc,fun h0 => h.block bL (hL h0).1 (hL h0).2⟩
theorem Kv.new {c n₀ Bs bL n : Nat} {a b : World} (h : Kv c n₀ Bs bL n a b) {p : Addr} (hp : n₀ ≤ p.block) (hB : Bs ≠ p.block) (hL : 0 < n → bL ≠ p.block) (v : Value) : Kv c n₀ Bs bL n a (b.setCell p v) := ⟨h.bk.new hp hB v,fun h0 => (Below.heap_setCell _ _ _ _ (hL h0)).trans (h.row h0)⟩
theorem Kv.alloc {c n₀ Bs bL n : Nat} {a b : World} (h : Kv c n₀ Bs bL n a b) (hn : n₀ ≤ b.heap.size) (hB : Bs < b.heap.size) (hL : 0 < n → bL < b.heap.size) (o : Obj) : Kv c n₀ Bs bL n a (b.alloc o) := ⟨h.bk.alloc hn hB o,fun h0 => (Below.heap_alloc _ _ _ (hL h0)).trans (h.row h0)⟩
theorem k'l5 {px : Int} (L : List Int) (pre : List (Fin L.length)) (x : Fin L.length) (num s en e m e1 s2 e2 : Int)
 (hgood : ∀ k h,pre = dn L.length k h → en = e ∧ s = hor L num k)
 (hm : m = clip (s * num)) (he1 : e1 = er en (s * num)) (hs2 : s2 = clip (m + px)) (he2 : e2 = er e1 (m + px)) (hpx : px = Pl.cf L x.val)
 (hh : ∀ k,k ≤ L.length → (hor L num k).natAbs < Top) (hmm : ∀ k,k < L.length → (hor L num k * num).natAbs < Top) :
 ∀ k h,pre ++ [x] = dn L.length k h → e2 = e ∧ s2 = hor L num k := by
 intro k h hk;obtain ⟨k',h',rfl,h1,h2⟩ := k'h2 hk;obtain ⟨g1,g2⟩ := hgood k' h' h1;have hk' : k' < L.length := by omega
 have f1 : (s * num).natAbs < Top := by rw [g2]; exact hmm k' hk'
 have e3 : m + px = hor L num (k' + 1) := by rw [hm,k'ej f1,hpx,h2,g2,k'l0 _ _ _ hk']
 have f2 : (m + px).natAbs < Top := by rw [e3]; exact hh _ (by omega)
 exact ⟨by rw [he2,k'ei _ f2,he1,k'ei _ f1,g1],by rw [hs2,k'ej f2,e3]⟩
theorem k'l6 (c : Nat) (p : List Int) (v : Value) (num den e : Int) (w : World) (h : Rp w v p) (hc : Ck w c e) (hl : p.length ≤ 50) (ht : ∀ a ∈ p,a.natAbs < Top) (hd : den.natAbs < Top) (hn : num.natAbs < Top)
 (hpow : ∀ j,j ≤ p.length - 1 → (den ^ j).natAbs < Top) (hfit : ∀ i j,j ≤ p.length - 1 → (Pl.cf p i * den ^ j).natAbs < Top)
 (hh : ∀ k,k ≤ p.length → (hor (Pl.lev p den) num k).natAbs < Top) (hm : ∀ k,k < p.length → (hor (Pl.lev p den) num k * num).natAbs < Top) :
 Calls Tryz.prog 100 #[.pointer (some ⟨c,0,none⟩),v,.agg #[.bool (zb num),.string (zs num),.bool (zb den),.string (zs den)]] w (Ret (Z (Pl.ev (Pl.lev p den) num)) w) := by
 have HLv := i' (fun w' (hb : Below w.heap.size w w') => k'h7 c p v den e w' (h.below hb) (hc.below hb) hl ht hd hpow hfit);obtain ⟨a,b,off,cap,rfl,h2,h3,h4,h5⟩ := h.open_;obtain ⟨L,hL⟩ : ∃ L,L = Pl.lev p den := ⟨_,rfl⟩;have hLl : L.length = p.length := by rw [hL,Pl.lev_length]
 have HLt : Hid (∀ x ∈ L,x.natAbs < Top) := by
  intro x hx;obtain ⟨i,hi,rfl⟩ := List.mem_iff_getElem.1 hx;rw [← Pl.cf_lt hi,hL,Pl.cf_lev];exact hfit i _ (by omega)
 rw [← hL] at HLv hh hm ⊢;rw [← hLl] at hh hm;obtain ⟨n,hnp⟩ : ∃ n,n = p.length := ⟨_,rfl⟩;rw [← hnp] at hl ⊢;have HN : Hid (n = L.length) := hnp.trans hLl.symm;rw [← hnp] at HLv;have HHh := i' hh;have HHm := i' hm;have HC := i' hc;have HNu := i' hn;clear h h2 h3 h4 h5 hc ht hd hn hpow hfit hh hm hL hLl hnp;refine (callsIn_wide (n := 5)).1 ?_;refine callsIn_of_wp_marks Tryz.func100 rfl trivial ?_ rfl;simp only [Tryz.ntmps100,List.size_toArray,List.length_cons,List.length_nil,Nat.reduceAdd,Nat.reduceSub,Array.replicate_succ,Array.replicate_zero,List.push_toArray,List.append_toArray,List.nil_append,List.cons_append]
 gi_wp2_with fail
 obtain ⟨W4,hW4⟩ : ∃ W4 : World,W4 = (((w.alloc (.cells #[.pointer (some ⟨c,0,none⟩)] 94)).alloc (.cells #[.bool (zb num),.string (zs num),.bool (zb den),.string (zs den)] 59)).alloc (.cells #[.bool false,.string ⟨#[]⟩] 44)).alloc (.cells #[.bool false,.string ⟨#[]⟩] 44) := ⟨_,rfl⟩;have hs4 : W4.heap.size = w.heap.size + 4 := by rw [hW4]; simp
 have t0 : W4.cell? ⟨w.heap.size,0,none⟩ = some (.pointer (some ⟨c,0,none⟩)) := by rw [hW4]; simp [go_sem]
 have t1 : W4.cell? ⟨w.heap.size + 1,0,none⟩ = some (.bool (zb num)) := by rw [hW4]; simp [go_sem]
 have t2 : W4.cell? ⟨w.heap.size + 1,1,none⟩ = some (.string (zs num)) := by rw [hW4]; simp [go_sem]
 have t3 : Aw W4 (w.heap.size + 1 + 1) [0] := by
  rw [hW4];have h5 := (Aw.made ((w.alloc (.cells #[.pointer (some ⟨c,0,none⟩)] 94)).alloc (.cells #[.bool (zb num),.string (zs num),.bool (zb den),.string (zs den)] 59)) [0]).alloc (.cells #[.bool false,.string ⟨#[]⟩] 44);rw [World.size_alloc,World.size_alloc] at h5;exact h5
 have t4 : Aw W4 (w.heap.size + 1 + 1 + 1) [0] := by
  rw [hW4];have h5 := Aw.made (((w.alloc (.cells #[.pointer (some ⟨c,0,none⟩)] 94)).alloc (.cells #[.bool (zb num),.string (zs num),.bool (zb den),.string (zs den)] 59)).alloc (.cells #[.bool false,.string ⟨#[]⟩] 44)) [0];rw [World.size_alloc,World.size_alloc,World.size_alloc] at h5;exact h5
 have t5 : Below w.heap.size w W4 := by rw [hW4]; exact ((((Below.refl _ _).alloc (Nat.le_refl _) _).alloc (by simp) _).alloc (by simp; omega) _).alloc (by simp; omega) _
 have T := i' (And.intro t0 (And.intro t1 (And.intro t2 (And.intro t3 (And.intro t4 t5)))));rw [← hW4];clear hW4 t0 t1 t2 t3 t4 t5;refine ⟨trivial,?_⟩;refine (callsIn_wide.2 (HLv.out W4 T.out.2.2.2.2.2)).mono ?_;rintro e0 w1 ⟨a2,n2,cap2,rfl,hr2,ho2,b1⟩;obtain rfl : n2 = n := by
  obtain ⟨_,_,_,_,e1,_⟩ := hr2.open_;injection e1 with _ e2 _;exact e2.trans HN.out.symm
 have hs1 := b1.size;obtain ⟨bL,hbL⟩ : ∃ bL,Hid ((0 < n2 → a2 = some ⟨bL,0,none⟩) ∧ (0 < n2 → w.heap.size + 4 ≤ bL ∧ bL < w1.heap.size) ∧ (∀ j (hj : j < L.length),w1.cell? ⟨bL,0 + j * 2,none⟩ = some (.bool (zb L[j])) ∧ w1.cell? ⟨bL,0 + j * 2 + 1,none⟩ = some (.string (zs L[j])))) := by
  by_cases h0 : L = []
  ·have h1 : n2 = L.length := HN.out
   rw [h0] at h1;exact ⟨0,fun h => absurd h (by simp at h1; omega),fun h => absurd h (by simp at h1; omega),fun j hj => by rw [h0] at hj; simp at hj⟩
  ·obtain ⟨g,rfl,h2,h3⟩ := ho2 h0
   exact ⟨g,fun _ => rfl,fun _ => ⟨by omega,h3.lt⟩,fun j hj => by rw [Nat.zero_add]; exact h3.cell j hj⟩
 have B1 := i' b1;clear hr2 ho2 b1
 gi_wp2_with fail
 refine ⟨trivial,?_⟩;refine (k'g0 Fence.wide _ trivial rfl a2 n2 cap2 _).mono ?_;rintro e3 w2 ⟨rfl,hw2⟩;have HZ2 : Hid (w2.heap.size = w1.heap.size + 1) := by show _ = _; rw [hw2]; simp
 have HB2 : Hid (Below w1.heap.size w1 w2) := by rw [hw2]; exact (Below.refl _ _).alloc (Nat.le_refl _) _
 have HS2 : Hid (w2.cell? ⟨w1.heap.size,0,none⟩ = some (.slice a2 n2 cap2)) := by show _ = _; rw [hw2]; simp [go_sem]
 have HI2 : Hid (VlI L c w.heap.size (w.heap.size + 1 + 1 + 1) w.heap.size w1.heap.size (.slice a2 n2 cap2) num e w [] w2) := by
  have hb := T.out.2.2.2.2.2.trans ((k'4h B1.out HB2.out).mono T.out.2.2.2.2.2.size);refine ⟨⟨0,e,Nat.lt_of_lt_of_le W0 k'48,(T.out.2.2.2.2.1.below B1.out).below HB2.out,HC.out.below hb,?_⟩,⟨k'4i HB2.out (k'4i B1.out T.out.1),k'4i HB2.out (k'4i B1.out T.out.2.1),k'4i HB2.out (k'4i B1.out T.out.2.2.1),HS2.out⟩,(T.out.2.2.2.1.below B1.out).below HB2.out,Bn.of_below hb⟩;intro k h5 h6;have hk0 : k = 0 := by have h7 := congrArg List.length h6; rw [k'fy] at h7; simpa using h7.symm
  subst hk0;exact ⟨rfl,(k'kz L num).symm⟩
 have HCc := i' HC.out.lt;have HbC : Hid (0 < n2 → bL ≠ c) := fun h0 => by have := (hbL.out.2.1 h0).1; have := HCc.out; omega
 clear hw2
 gi_wp2
 refine wpIn_rangeFunc_ownH rfl (show 1 ≤ 5 by decide) (gf := 145) (lb := #[.pointer (some ⟨w1.heap.size,0,none⟩)]) rfl trivial (enters_of Tryz.func145 (by kernel_rfl) rfl)
  (k'g1 (Kv c w.heap.size w1.heap.size bL n2) (Kv.refl _ _ _ _ _) k'l3 Fence.wide 4 trivial rfl (by decide) w1.heap.size bL 0 n2 cap2 a2 L (by rw [← HN.out]; omega) w2 HN.out (by have h5 := HZ2.out; omega) HS2.out hbL.out.1
   (fun j hj => ⟨k'4i HB2.out (hbL.out.2.2 j hj).1,k'4i HB2.out (hbL.out.2.2 j hj).2⟩)
   (fun W W' hk a' ha' => by
    rcases ha' with ha' | ⟨h0,ha'⟩
    ·exact World.cell?_of_block (by rw [ha']; exact hk.bk.box)
    ·exact World.cell?_of_block (by rw [ha']; exact hk.row h0)))
  k'l3 (k'l4 (by have h5 := HZ2.out; omega) (by have h5 := HZ2.out; omega) (fun h0 => by have h5 := HZ2.out; have := (hbL.out.2.1 h0).2; omega)) (Below.refl _ _) (fun _ => rfl)
  (VlI L c w.heap.size (w.heap.size + 1 + 1 + 1) w.heap.size w1.heap.size (.slice a2 n2 cap2) num e w)
  (fun _ _ _ => False)
  (k'l2 _ _ _ _ _ _ _ _ _ _ _ (Nat.le_refl _) (by have h5 := HZ2.out; omega))
  (fun _ _ _ _ _ hs _ _ => hs)
  HI2.out
  (fun x a' W => ∃ Bx,(w.heap.size + 1 + 1 + 1 < Bx ∧ w1.heap.size < Bx) ∧ (Aw W Bx [L[x.val]] ∧ (0 < n2 → bL < W.heap.size ∧ bL ≠ Bx)) ∧ a' = { tmps := #[.pointer (some ⟨c,0,none⟩),.slice a n2 cap,.agg #[.bool (zb num),.string (zs num),.bool (zb den),.string (zs den)],.pointer (some ⟨w.heap.size,0,none⟩),undef,.pointer (some ⟨w.heap.size + 1,0,none⟩),.pointer (some ⟨w.heap.size + 1 + 1,0,none⟩),.pointer (some ⟨w.heap.size + 1 + 1 + 1,0,none⟩),undef,.pointer (some ⟨Bx,0,none⟩),.pointer (some ⟨c,0,none⟩),.slice a n2 cap,.pointer (some ⟨w.heap.size + 1,2,none⟩),.agg #[.bool (zb den),.string (zs den)],.slice a2 n2 cap2,.func (.func 145) #[] #[.pointer (some ⟨w1.heap.size,0,none⟩)],.int .i64 (x.val : Int),Z L[x.val],undef,undef,undef,undef,undef,undef,undef,undef,undef],defers := [] })
  (fun x a' _ X Y row hs hg hr => by obtain ⟨Bx,h1,⟨h2,h4⟩,h3⟩ := hs; exact ⟨Bx,h1,⟨k'gx h2 hg (fun r e => (hr r e).2),fun h0 => ⟨Nat.lt_of_lt_of_le (h4 h0).1 hg.size,(h4 h0).2⟩⟩,h3⟩)
  ?assign ?body ?done ?stop
 case assign =>
  rintro l pre x W K hI hK;unfold encw;have hI2 := (k'l2 L c w.heap.size (w.heap.size + 1 + 1 + 1) w.heap.size w1.heap.size w.heap.size (.slice a2 n2 cap2) num e w (Nat.le_refl _) (Nat.le_refl _)).alloc (.cells #[.bool (zb L[x.val]),.string (zs L[x.val])] 44) hI;obtain ⟨⟨s,en,_,hF,_,_⟩,⟨_,_,_,hBs⟩,_,hB⟩ := hI;have hl1 := hF.lt;have hl3 := World.block_lt_of_cell? W _ hBs;simp only at hl3;have hlL : 0 < n2 → bL < W.heap.size := fun h0 => by have := (hbL.out.2.1 h0).2; omega
  gi_wp2
  exact hK _ _ ((KeepsOthers.alloc _ _).from _) ((Kv.refl _ _ _ _ _ _).alloc hB.size hl3 hlL _) hI2 ⟨W.heap.size,⟨hl1,hl3⟩,⟨Aw.made W [L[x.val]],fun h0 => ⟨by simp; have := hlL h0; omega,by have := hlL h0; omega⟩⟩,rfl⟩
 case body =>
  rintro l pre x a' W hl ⟨r,hr⟩ hI ⟨Bx,⟨hBx1,hBx2⟩,⟨bX,hbLW⟩,rfl⟩ hlt;obtain ⟨⟨s,en,hs,hS,hCk,hgood⟩,⟨hM0,hN0,hN1,hBsc⟩,hRes,hBn⟩ := hI;have hcw := HC.out.lt;have hn0 : 0 < n2 := by have := x.isLt; have h5 : n2 = L.length := HN.out; omega
  have hbLx := hbLW hn0;have hbL2 := hbL.out.2.1 hn0;have hpx : (L[x.val]).natAbs < Top := HLt.out _ (List.getElem_mem x.isLt);have HM1 := i' (fun w' hc => k'gu c s num en w' hc hs HNu.out);obtain ⟨m,hm⟩ : ∃ m,m = clip (s * num) := ⟨_,rfl⟩;obtain ⟨e1,he1⟩ : ∃ e1,e1 = er en (s * num) := ⟨_,rfl⟩;rw [← hm,← he1] at HM1;have HM2 := i' (fun w' hc => k'em c m L[x.val] e1 w' hc (by rw [hm]; exact k'gv _) hpx)
  obtain ⟨s2,hs2⟩ : ∃ s2,s2 = clip (m + L[x.val]) := ⟨_,rfl⟩;obtain ⟨e2,he2⟩ : ∃ e2,e2 = er e1 (m + L[x.val]) := ⟨_,rfl⟩;rw [← hs2,← he2] at HM2;have HFin := i' (k'l5 L pre x num s en e m e1 s2 e2 hgood hm he1 hs2 he2 (Pl.cf_lt x.isLt).symm HHh.out HHm.out);have HTF : Hid (s2.natAbs < Top) := by rw [hs2]; exact k'gv _
  have hbs := World.block_lt_of_cell? W _ hBsc;simp only at hbs;have HBS := i' hBsc;have HSA := i' hS;have HCK := i' hCk;have HBN := i' hBn;have HRE := i' hRes;have HBX := i' bX;clear hm he1 hs2 he2 hgood hs hS hCk hBn hRes bX hpx hBsc hbLW;obtain ⟨xv,hxv⟩ : ∃ xv,xv = x.val := ⟨_,rfl⟩;obtain ⟨x0,x1⟩ := HBX.out.cell 0 (by simp)
  obtain ⟨f0,f1⟩ := HSA.out.cell 0 (by simp)
  simp only [Nat.zero_mul,Nat.zero_add,List.getElem_cons_zero] at x0 x1 f0 f1;unfold Z at HM1 HM2;generalize L[x.val] = px at *;rw [← hxv];clear hxv;have hmx : Tryz.prog.follows .mixedOrders = true := by kernel_rfl
  have m1 : w.heap.size + 1 + 1 + 1 ≠ c := by omega
  have m3 : w.heap.size + 1 + 1 ≠ c := by omega
  have m4 : w.heap.size ≠ c := by omega
  have m5 : Bx ≠ c := by omega
  have m6 : w.heap.size + 1 ≠ c := by omega
  have m7 : w1.heap.size ≠ c := by omega
  gi_wp2
  refine k'g7 (S := (fun W' => W'.cell? ⟨w.heap.size,0,none⟩ = some (.pointer (some ⟨c,0,none⟩)) ∧ W'.cell? ⟨w.heap.size + 1,0,none⟩ = some (.bool (zb num)) ∧ W'.cell? ⟨w.heap.size + 1,1,none⟩ = some (.string (zs num)) ∧ W'.cell? ⟨Bx,0,none⟩ = some (.bool (zb px)) ∧ W'.cell? ⟨Bx,1,none⟩ = some (.string (zs px)))) hmx (by intro i o ho c; match i,ho with | 0,h | 1,h | 2,h | 3,h | 4,h | 5,h | 6,h | 7,h | 8,h => (injection h with h; subst h; exact fun e => by cases e) | k + 9,h => exact absurd h (by simp)) ?_ (fun hHeld => ?_)
  ·exact ⟨hM0,hN0,hN1,x0,x1⟩
  refine wpAnyH_take (i := 0) (oi := ?oi1) (v := ?v1) ?hi1 (by kernel_rfl) (by kernel_rfl) (by kernel_rfl) k'g8 (Or.inl ⟨?hw1,?hy1⟩) (by assumption) ?rest1
  case hi1 => simp only [List.getElem?_toArray,List.getElem?_cons_succ,List.getElem?_cons_zero]; rfl
  case hw1 => rfl
  case hy1 =>
   intro w hSw
   (try dsimp only at hSw)
   go_simp
   (try with_reducible rfl)
  (try simp only [Act.put,List.setIfInBounds_toArray,List.set_cons_zero,List.set_cons_succ])
  refine wpAnyH_take (i := 1) (oi := ?oi2) (v := ?v2) ?hi2 (by kernel_rfl) (by kernel_rfl) (by kernel_rfl) k'g8 (Or.inl ⟨?hw2,?hy2⟩) (by assumption) ?rest2
  case hi2 => simp only [List.getElem?_toArray,List.getElem?_cons_succ,List.getElem?_cons_zero]; rfl
  case hw2 => rfl
  case hy2 =>
   intro w hSw
   (try dsimp only at hSw)
   go_simp
   (try with_reducible rfl)
  (try simp only [Act.put,List.setIfInBounds_toArray,List.set_cons_zero,List.set_cons_succ])
  refine wpAnyH_take (i := 3) (oi := ?oi4) (v := ?v4) ?hi4 (by kernel_rfl) (by kernel_rfl) (by kernel_rfl) k'g8 (Or.inl ⟨?hw4,?hy4⟩) (by assumption) ?rest4
  case hi4 => simp only [List.getElem?_toArray,List.getElem?_cons_succ,List.getElem?_cons_zero]; rfl
  case hw4 => rfl
  case hy4 =>
   intro w hSw
   (try dsimp only at hSw)
   go_simp
   (try with_reducible rfl)
  (try simp only [Act.put,List.setIfInBounds_toArray,List.set_cons_zero,List.set_cons_succ])
  refine wpAnyH_take (i := 4) (oi := ?oi5) (v := ?v5) ?hi5 (by kernel_rfl) (by kernel_rfl) (by kernel_rfl) k'g8 (Or.inl ⟨?hw5,?hy5⟩) (by assumption) ?rest5
  case hi5 => simp only [List.getElem?_toArray,List.getElem?_cons_succ,List.getElem?_cons_zero]; rfl
  case hw5 => rfl
  case hy5 =>
   intro w hSw
   (try dsimp only at hSw)
   go_simp
   (try with_reducible rfl)
  (try simp only [Act.put,List.setIfInBounds_toArray,List.set_cons_zero,List.set_cons_succ])
  refine wpAnyH_take (i := 6) (oi := ?oi6) (v := ?v6) ?hi6 (by kernel_rfl) (by kernel_rfl) (by kernel_rfl) k'g8 (Or.inl ⟨?hw6,?hy6⟩) (by assumption) ?rest6
  case hi6 => simp only [List.getElem?_toArray,List.getElem?_cons_succ,List.getElem?_cons_zero]; rfl
  case hw6 => rfl
  case hy6 =>
   intro w hSw
   (try dsimp only at hSw)
   go_simp
   (try with_reducible rfl)
  (try simp only [Act.put,List.setIfInBounds_toArray,List.set_cons_zero,List.set_cons_succ])
  refine wpAnyH_ready (rs := [2]) (by kernel_rfl) (by simp) ?_
  refine AllReadyH.cons (o := ?oi3) ?hi3 ?rest3 AllReadyH.nil
  case hi3 => simp only [List.getElem?_toArray,List.getElem?_cons_succ,List.getElem?_cons_zero]; rfl
  intro K hK;go_simp;refine hK.out _ _ ?_ (fun hHeld => ?_)
  ·(try dsimp only)
   exact ⟨hM0,hN0,hN1,x0,x1⟩
  clear hK K
  (try simp only [Act.put,List.setIfInBounds_toArray,List.set_cons_zero,List.set_cons_succ])
  refine wpAnyH_ready (rs := [5]) (by kernel_rfl) (by simp) ?_
  refine AllReadyH.cons (o := ?oi7) ?hi7 ?rest7 AllReadyH.nil
  case hi7 => simp only [List.getElem?_toArray,List.getElem?_cons_succ,List.getElem?_cons_zero]; rfl
  intro K hK;go_simp
  (with_reducible refine (HM1.out _ (by exact HCK.out.drew)).mono ?_)
  rintro e0 w5 ⟨rfl,b5,d5⟩;have c5 := ((But.refl c W).drew).trans b5;have p0 := c5.cell hM0 m4;have p1 := c5.cell f0 m1;have p2 := c5.cell f1 m1;have p3 := c5.cell hN0 m6;have p4 := c5.cell hN1 m6;have p5 := c5.cell x0 m5;have p6 := c5.cell x1 m5;have G5 := i' (And.intro c5 d5);clear b5 d5 c5
  (try go_wp2_with fail)
  refine hK.out _ _ ?_ (fun hHeld => ?_)
  ·(try dsimp only)
   exact ⟨p0,p3,p4,p5,p6⟩
  clear hK K
  (try simp only [Act.put,List.setIfInBounds_toArray,List.set_cons_zero,List.set_cons_succ])
  clear p0 p1 p2 p3 p4 p5 p6;refine wpAnyH_ready (rs := [7]) (by kernel_rfl) (by simp) ?_
  refine AllReadyH.cons (o := ?oi8) ?hi8 ?rest8 AllReadyH.nil
  case hi8 => simp only [List.getElem?_toArray,List.getElem?_cons_succ,List.getElem?_cons_zero]; rfl
  intro K hK;go_simp
  (with_reducible refine (HM2.out _ G5.out.2).mono ?_)
  rintro e0 w6 ⟨rfl,b6,d6⟩;have c6 := G5.out.1.trans b6;have p0 := c6.cell hM0 m4;have p1 := c6.cell f0 m1;have p2 := c6.cell f1 m1;have p3 := c6.cell hN0 m6;have p4 := c6.cell hN1 m6;have p5 := c6.cell x0 m5;have p6 := c6.cell x1 m5;have HS6 := i' (c6.aw HSA.out m1);have p7 := HS6.out.free 0;have p8 := HS6.out.free 1;have G6 := i' (And.intro c6 d6);clear b6 d6 c6
  (try go_wp2_with fail)
  refine hK.out _ _ ?_ (fun hHeld => ?_)
  ·(try dsimp only)
   exact ⟨p0,p3,p4,p5,p6⟩
  clear hK K
  (try simp only [Act.put,List.setIfInBounds_toArray,List.set_cons_zero,List.set_cons_succ])
  refine wpAnyH_ready (rs := [8]) (by kernel_rfl) (by simp) ?_
  refine AllReadyH.cons (o := ?oi9) ?hi9 ?rest9 AllReadyH.nil
  case hi9 => simp only [List.getElem?_toArray,List.getElem?_cons_succ,List.getElem?_cons_zero]; rfl
  intro K hK;go_simp;refine hK.out _ _ ?_ (fun hHeld => ?_)
  ·(try dsimp only)
   exact ⟨k'h1 (by simp only; omega) p0,k'h1 (by simp only; omega) p3,k'h1 (by simp only; omega) p4,k'h1 (by simp only; omega) p5,k'h1 (by simp only; omega) p6⟩
  clear hK K
  (try simp only [Act.put,List.setIfInBounds_toArray,List.set_cons_zero,List.set_cons_succ])
  refine wpAnyH_done (by kernel_rfl) ?_ _
  refine k'g9 ?_
  (try dsimp only [Exit.then])
  have hb7 := HBN.out.size;have HS7 := ((HS6.out).set 0 (by simp) s2)
  simp only [Nat.zero_mul,Nat.zero_add,List.set_cons_zero] at HS7
  gi_wp2
  exact ⟨((k'h0 (B := w2.heap.size) G6.out.1 HCK.out).trans ((KeepsOthers.setCell _ _ _).from _)).trans ((KeepsOthers.setCell _ _ _).from _),
   ((Kv.of_but G6.out.1 hb7 hbs m7 (fun _ => ⟨hbLx.1,by omega⟩)).new (p := ⟨w.heap.size + 1 + 1 + 1,0,none⟩) (by simp only; omega) (by simp only; omega) (fun _ => by simp only; omega) _).new (p := ⟨w.heap.size + 1 + 1 + 1,1,none⟩) (by simp only; omega) (by simp only; omega) (fun _ => by simp only; omega) _,
   ⟨_,_,HTF.out,HS7,(G6.out.2.other ⟨w.heap.size + 1 + 1 + 1,0,none⟩ _ (by simp only; omega)).other ⟨w.heap.size + 1 + 1 + 1,1,none⟩ _ (by simp only; omega),HFin.out⟩,
   ⟨k'h1 (by simp only; omega) (G6.out.1.cell hM0 m4),k'h1 (by simp only; omega) (G6.out.1.cell hN0 m6),k'h1 (by simp only; omega) (G6.out.1.cell hN1 m6),k'h1 (by simp only; omega) (G6.out.1.cell HBS.out m7)⟩,
   ((G6.out.1.aw HRE.out m3).other ⟨w.heap.size + 1 + 1 + 1,0,none⟩ _ (by simp only; omega)).other ⟨w.heap.size + 1 + 1 + 1,1,none⟩ _ (by simp only; omega),
   ((HBN.out.trans (Bn.of_but G6.out.1 hb7)).new (p := ⟨w.heap.size + 1 + 1 + 1,0,none⟩) (by simp only; omega) _).new (p := ⟨w.heap.size + 1 + 1 + 1,1,none⟩) (by simp only; omega) _⟩
 case done =>
  rintro D xs W hD rfl ⟨⟨s,en,hs,hS,hCk,hgood⟩,⟨hM0,hN0,hN1,hBsc⟩,hRes,hBn⟩ hK;obtain ⟨g1,g2⟩ := hgood _ _ rfl;subst g1;rw [k'l1] at g2;obtain ⟨f0,f1⟩ := hS.cell 0 (by simp)
  obtain ⟨r0,r1⟩ := hRes.cell 0 (by simp)
  have r2 := hRes.free 0;have r3 := hRes.free 1;simp only [Nat.zero_mul,Nat.zero_add,List.getElem_cons_zero] at f0 f1 r0 r1;rw [g2] at f0 f1;have HCK := i' hCk;have HBN := i' hBn;have HKD := i' hK;have HR := i' hRes;clear hgood hs hS hCk hBn g2 hM0 hN0 hN1 hBsc hRes;generalize Pl.ev L num = res at *
  gi_wp2
  have HR8 := HR.out.set 0 (by simp) res
  simp only [Nat.zero_mul,Nat.zero_add,List.set_cons_zero] at HR8;have hK8 : ((W.setCell ⟨w.heap.size + 1 + 1,0,none⟩ (.bool (zb res))).setCell ⟨w.heap.size + 1 + 1,1,none⟩ (.string (zs res))).heap[D]? = some (.deferred (some [])) :=
   ((KeepsOthers.setCell _ _ _).trans (KeepsOthers.setCell _ _ _)).same D _ HKD.out rfl
  refine ⟨by simp,.inl ⟨_,_,rfl,run_takeDeferred hK8,?_⟩⟩
  have hgr := grownBy_putObj' ((W.setCell ⟨w.heap.size + 1 + 1,0,none⟩ (.bool (zb res))).setCell ⟨w.heap.size + 1 + 1,1,none⟩ (.string (zs res))) D (.deferred none);have hA9 := k'gx HR8 hgr (fun r e => by cases e; exact ⟨_,hK8,rfl⟩)
  obtain ⟨y0,y1⟩ := hA9.cell 0 (by simp)
  simp only [Nat.zero_mul,Nat.zero_add,List.getElem_cons_zero] at y0 y1;have h6 := HZ2.out;refine ⟨Z res,(by simp [results,Tryz.results100,go_sem,y0,y1]),rfl,?_⟩
  exact ((((HBN.out.below HC.out HCK.out).setCell (p := ⟨w.heap.size + 1 + 1,0,none⟩) (by simp only; omega) _).setCell (p := ⟨w.heap.size + 1 + 1,1,none⟩) (by simp only; omega) _)).trans (belowK_b (w := w) (Nat.le_refl _) _ D _ _ (by omega) hK8 rfl rfl)
 case stop =>
  rintro D c2 pre W _ _ h _;exact h.elim
end Go.Proofs.YtepddegphdlbeaaGreat
namespace Go.Proofs.YtepddegphdlbeaaGreat
open Go.RowKit
abbrev R (num den : Int) : Value := rat (zb num) (zs num) (zb den) (zs den)
def Rb (w : World) (g : Nat) (num den : Int) : Prop := w.cell? ⟨g,0,none⟩ = some (.bool (zb num)) ∧ w.cell? ⟨g,1,none⟩ = some (.string (zs num)) ∧ w.cell? ⟨g,2,none⟩ = some (.bool (zb den)) ∧ w.cell? ⟨g,3,none⟩ = some (.string (zs den))
theorem Rb.below {w w' : World} {g : Nat} {num den : Int} (h : Rb w g num den) (hb : Below w.heap.size w w') : Rb w' g num den := ⟨k'4i hb h.1,k'4i hb h.2.1,k'4i hb h.2.2.1,k'4i hb h.2.2.2⟩
theorem Rb.alloc {w : World} {g : Nat} {num den : Int} (h : Rb w g num den) (o : Obj) : Rb (w.alloc o) g num den := h.below ((Below.refl _ _).alloc (Nat.le_refl _) o)
theorem Rb.made (w : World) (num den : Int) : Rb (w.alloc (.cells #[.bool (zb num),.string (zs num),.bool (zb den),.string (zs den)] 59)) w.heap.size num den := ⟨by simp [go_sem],by simp [go_sem],by simp [go_sem],by simp [go_sem]⟩
theorem k'l9 (p : List Int) (x den : Int) (M X : Nat) (hM : Pl.mx p ≤ M) (hx : x.natAbs ≤ X) (hd : den.natAbs ≤ X) :
 ∀ k,k < p.length → (hor (Pl.lev p den) x k * x).natAbs ≤ k * (M * X ^ k) ∧ (hor (Pl.lev p den) x (k + 1)).natAbs ≤ (k + 1) * (M * X ^ k) := by
 intro k
 induction k with
 | zero =>
  intro hk;refine ⟨by rw [k'kz]; simp,?_⟩
  rw [k'l0 _ _ _ (by rw [Pl.lev_length]; exact hk),k'kz,Pl.cf_lev,Pl.lev_length]
  have h1 := Pl.mx_cf p (p.length - 1);simp only [Nat.sub_zero,Nat.sub_self,Int.pow_zero,Int.mul_one,Int.zero_mul,Int.zero_add,Nat.pow_zero,Nat.mul_one,Nat.zero_add,Nat.one_mul];omega
 | succ k ih =>
  intro hk;have h1 := (ih (by omega)).2
  have h2 : (hor (Pl.lev p den) x (k + 1) * x).natAbs ≤ (k + 1) * (M * X ^ (k + 1)) := by
   rw [Int.natAbs_mul];refine Nat.le_trans (Nat.mul_le_mul h1 hx) ?_;rw [Nat.pow_succ,Nat.mul_assoc,Nat.mul_assoc];exact Nat.le_refl _
  refine ⟨h2,?_⟩;rw [k'l0 _ _ _ (by rw [Pl.lev_length]; exact hk),Pl.cf_lev,Pl.lev_length]
  have h3 : (Pl.cf p (p.length - 1 - (k + 1)) * den ^ (p.length - 1 - (p.length - 1 - (k + 1)))).natAbs ≤ M * X ^ (k + 1) := by
   rw [show p.length - 1 - (p.length - 1 - (k + 1)) = k + 1 by omega,Int.natAbs_mul,Int.natAbs_pow]
   exact Nat.mul_le_mul (Nat.le_trans (Pl.mx_cf p _) hM) (Nat.pow_le_pow_left hd _)
  have h4 := Int.natAbs_add_le (hor (Pl.lev p den) x (k + 1) * x) (Pl.cf p (p.length - 1 - (k + 1)) * den ^ (p.length - 1 - (p.length - 1 - (k + 1))));have h5 : (k + 1 + 1) * (M * X ^ (k + 1)) = (k + 1) * (M * X ^ (k + 1)) + M * X ^ (k + 1) := by rw [Nat.succ_mul]
  omega
theorem k'la (num den : Int) (hn : num.natAbs < Top) (hd : den.natAbs < Top) : num.natAbs < 2 ^ (glb [(zb num,zs num),(zb den,zs den)]).toNat ∧ den.natAbs < 2 ^ (glb [(zb num,zs num),(zb den,zs den)]).toNat := by
 have h1 := k'hu (p := [num,den]) (by intro a ha; simp at ha; rcases ha with rfl | rfl <;> assumption)
 have h2 := Pl.mx_mem (p := [num,den]) (a := num) (by simp)
 have h3 := Pl.mx_mem (p := [num,den]) (a := den) (by simp)
 exact ⟨Nat.lt_of_le_of_lt h2 h1,Nat.lt_of_le_of_lt h3 h1⟩
theorem k'lb {a : Nat} (h : a ≤ 65536) : 2 ^ a ≤ Top := by
 unfold Top;exact Nat.pow_le_pow_right (by decide) (by rw [k'43]; exact h)
theorem k'lc {p : List Int} (hp : VP p) (num den : Int) (hn : num.natAbs < Top) (hd : den.natAbs < Top) (ht : tlg (zl p) (glb [(zb num,zs num),(zb den,zs den)]) = false) :
 (∀ j,j ≤ p.length - 1 → (den ^ j).natAbs < Top) ∧ (∀ i j,j ≤ p.length - 1 → (Pl.cf p i * den ^ j).natAbs < Top) ∧ (∀ k,k ≤ p.length → (hor (Pl.lev p den) num k).natAbs < Top) ∧ (∀ k,k < p.length → (hor (Pl.lev p den) num k * num).natAbs < Top) := by
 obtain ⟨a1,a2⟩ := k'la num den hn hd;have a3 := k'hu hp.top;have g1 := k'h9 (zl p);have g2 := k'h9 [(zb num,zs num),(zb den,zs den)];unfold tlg at ht;rw [decide_eq_false_iff_not,k'e0] at ht;obtain ⟨gp,hgp⟩ : ∃ n : Nat,glb (zl p) = n := ⟨(glb (zl p)).toNat,by omega⟩
 obtain ⟨g,hg⟩ : ∃ n : Nat,glb [(zb num,zs num),(zb den,zs den)] = n := ⟨(glb [(zb num,zs num),(zb den,zs den)]).toNat,by omega⟩
 rw [hgp,hg] at ht;rw [hgp,Int.toNat_natCast] at a3;rw [hg,Int.toNat_natCast] at a1 a2;have hl := hp.len;have h0 : 0 < Top := Nat.lt_of_lt_of_le W0 k'48;have h1T : 1 < Top := Nat.lt_of_lt_of_le (by decide) (k'lb (a := 1) (by omega))
 rcases Nat.eq_zero_or_pos p.length with hz | hz
 ·have e := List.eq_nil_of_length_eq_zero hz
  subst e;refine ⟨fun j hj => ?_,fun i j hj => ?_,fun k hk => ?_,fun k hk => absurd hk (by simp)⟩
  ·obtain rfl : j = 0 := by simpa using hj
   simpa using h1T
  ·rw [Pl.cf_ge (by simp)]; simpa using h0
  ·obtain rfl : k = 0 := by simpa using hk
   rw [k'kz]; simpa using h0
 ·obtain ⟨n,hn1⟩ : ∃ n,p.length = n + 1 := ⟨p.length - 1,by omega⟩
  have hb : gp + n * g + 8 ≤ 65536 := by
   have h3 : ¬ ((gp : Int) + ((p.length : Int) - 1) * (g : Int) + 8 > 65536) := fun h => ht ⟨hz,h⟩;have h4 : ((n * g : Nat) : Int) = ((p.length : Int) - 1) * (g : Int) := by rw [hn1]; push_cast; rw [Int.add_sub_cancel]
   omega
  have hpw : ∀ j,j ≤ n → (2 ^ g) ^ j ≤ 2 ^ (n * g) := fun j hj => by
   rw [← Nat.pow_mul];exact Nat.pow_le_pow_right (by decide) (by rw [Nat.mul_comm g]; exact Nat.mul_le_mul_right _ hj)
  have hMX : ∀ j,j ≤ n → 2 ^ gp * (2 ^ g) ^ j ≤ 2 ^ (gp + n * g) := fun j hj => by
   rw [Nat.pow_add]; exact Nat.mul_le_mul_left _ (hpw j hj)
  have hbig : 25 * 2 ^ (gp + n * g) < Top := by
   refine Nat.lt_of_lt_of_le ?_ (k'lb hb);rw [Nat.pow_add _ _ 8];have := Nat.pow_pos (a := 2) (n := gp + n * g) (by decide)
   omega
  have hone : 1 ≤ 2 ^ gp := Nat.pow_pos (by decide)
  have hh := k'l9 p num den (2 ^ gp) (2 ^ g) (by omega) (by omega) (by omega)
  refine ⟨fun j hj => ?_,fun i j hj => ?_,fun k hk => ?_,fun k hk => ?_⟩
  ·rw [Int.natAbs_pow]
   have h1 := Nat.pow_le_pow_left (Nat.le_of_lt a2) j;have h2 := hMX j (by omega)
   have h3 : (2 ^ g) ^ j ≤ 2 ^ gp * (2 ^ g) ^ j := Nat.le_mul_of_pos_left _ hone;omega
  ·rw [Int.natAbs_mul,Int.natAbs_pow]
   have h1 := Nat.mul_le_mul (Nat.le_trans (Pl.mx_cf p i) (Nat.le_of_lt a3)) (Nat.pow_le_pow_left (Nat.le_of_lt a2) j);have h2 := hMX j (by omega)
   omega
  ·rcases Nat.eq_zero_or_pos k with h5 | h5
   ·subst h5; rw [k'kz]; simpa using h0
   ·obtain ⟨m,rfl⟩ : ∃ m,k = m + 1 := ⟨k - 1,by omega⟩
    have h1 := (hh m (by omega)).2
    have h2 := Nat.mul_le_mul (show m + 1 ≤ 25 by omega) (hMX m (by omega))
    omega
  ·have h1 := (hh k hk).1
   have h2 := Nat.mul_le_mul (show k ≤ 25 by omega) (hMX k (by omega))
   omega
theorem k'ld {p : List Int} {num den : Int} (hp : VP p) (hn : num.natAbs < Top) (hd : den.natAbs < Top) (h : ckv (zl p) (zb num) (zs num) (zb den) (zs den) = 0) : tlg (zl p) (glb [(zb num,zs num),(zb den,zs den)]) = false := by
 unfold ckv at h;rw [hp.ok] at h
 split at h
 ·split at h
  ·omega
  ·next h1 => simpa using h1
 ·omega
def evl (p : List Int) (num den : Int) : Int := Pl.ev (Pl.lev p den) num
theorem k'le {p : List Int} {v : Value} {num den : Int} (c : Nat) (w : World) (h : Rp w v p) (hp : VP p) (hn : num.natAbs < Top) (hd : den.natAbs < Top) (ht : ckv (zl p) (zb num) (zs num) (zb den) (zs den) = 0) (hc : Ck w c 0) :
 Calls Tryz.prog 100 #[.pointer (some ⟨c,0,none⟩),v,.agg #[.bool (zb num),.string (zs num),.bool (zb den),.string (zs den)]] w (Ret (Z (evl p num den)) w) := by
 obtain ⟨f1,f2,f3,f4⟩ := k'lc hp num den hn hd (k'ld hp hn hd ht);exact k'l6 c p v num den 0 w h hc (by have := hp.len; omega) hp.top hd hn f1 f2 f3 f4
theorem k'lf (p : List Int) (v : Value) (num den : Int) (w : World) (h : Rp w v p) (hp : VP p) (hn : num.natAbs < Top) (hd : den.natAbs < Top) (ht : ckv (zl p) (zb num) (zs num) (zb den) (zs den) = 0) :
 Calls Tryz.prog 42 #[v,R num den] w (Ret (.tuple #[Z (evl p num den),.int .i64 0]) w) := by
 obtain ⟨w0,hw0⟩ : ∃ w0 : World,w0 = (w.alloc (.cells #[.bool (zb num),.string (zs num),.bool (zb den),.string (zs den)] 59)).alloc (.cells #[.bool false,.string ⟨#[]⟩] 44) := ⟨_,rfl⟩;have HA0 : Hid (Aw w0 (w.heap.size + 1) [0]) := by
  show Aw _ _ _;rw [hw0];have h5 := Aw.made (w.alloc (.cells #[.bool (zb num),.string (zs num),.bool (zb den),.string (zs den)] 59)) [0];rw [World.size_alloc] at h5;exact h5
 have HR0 : Hid (Rb w0 w.heap.size num den) := by show Rb _ _ _ _; rw [hw0]; exact (Rb.made w num den).alloc _
 have B0 : Hid (Below w.heap.size w w0) := by show Below _ _ _; rw [hw0]; exact ((Below.refl _ _).alloc (Nat.le_refl _) _).alloc (by simp) _
 have HD := i' (k'kw (zl p) v (zb num) (zb den) (zs num) (zs den) w0 (h.below B0.out) (k'ey hp.top) (Nat.le_trans (k'6m hn) (by decide)) (Nat.le_trans (k'6m hd) (by decide)))
 rw [ht] at HD;have HV := i' (fun c w' (hb : Below w.heap.size w w') hck => k'le (num := num) (den := den) c w' (h.below hb) hp hn hd ht hck);generalize evl p num den = r at *;unfold R;unfold rat at HD ⊢;clear h hp hn hd ht;obtain ⟨c0,c1,c2,c3⟩ := HR0.out;go_enter Tryz.func42,Tryz.ntmps42;go_wp2_with fail;rw [← hw0];clear hw0;refine HD.out.mono ?_;rintro en w1 ⟨rfl,b1⟩;have HA1 := i' (HA0.out.below b1);have HR1 := i' (HR0.out.below b1);have b1 := k'4h B0.out b1;obtain ⟨w2,hw2⟩ : ∃ w2 : World,w2 = w1.alloc (.cells #[.int .i64 0] 96) := ⟨_,rfl⟩;have HK : Hid (Ck w2 w1.heap.size 0) := by show Ck _ _ _; rw [hw2]; exact heap_alloc_new w1 _
 have B2 : Hid (Below w.heap.size w w2) := by show Below _ _ _; rw [hw2]; exact b1.alloc b1.size _
 have HA2 : Hid (Aw w2 (w.heap.size + 1) [0]) := by rw [hw2]; exact HA1.out.alloc _
 have HR2 : Hid (Rb w2 w.heap.size num den) := by rw [hw2]; exact HR1.out.alloc _
 clear b1 c0 c1 c2 c3;go_upto_region 5 with (fail);rw [← hw2];clear hw2;obtain ⟨c0,c1,c2,c3⟩ := HR2.out;go_wp2_with fail;clear c0 c1 c2 c3;refine (HV.out _ _ B2.out HK.out).mono ?_;rintro en w3 ⟨rfl,b3⟩;have HK3 := i' (HK.out.below b3);have B3 := i' (k'4h B2.out b3);have HA3 := i' (HA2.out.below b3);clear b3;unfold Z;go_wp2_with fail;refine (k'fr _ _ _ _ HK3.out).mono ?_;rintro en w4 ⟨rfl,b4⟩;have B4 := i' (k'4h B3.out b4);have HA4 := i' (HA3.out.below b4);clear b4;obtain ⟨e0,e1⟩ := HA4.out.cell 0 (by simp)
 simp only [Nat.zero_mul,Nat.zero_add,List.getElem_cons_zero] at e0 e1;have f0 := HA4.out.free 0;have f1 := HA4.out.free 1;have HB8 := i' ((B4.out.setCell (p := ⟨w.heap.size + 1,0,none⟩) (by simp) (.bool (zb r))).setCell (p := ⟨w.heap.size + 1,1,none⟩) (by simp) (.string (zs r)))
 go_wp2;exact bodyPost_ret (v := .tuple #[.agg #[.bool (zb r),.string (zs r)],.int .i64 0]) (by simp [results,Tryz.results42,go_sem,e0,e1]) rfl ⟨rfl,HB8.out⟩
theorem k'lg (p : List Int) (v : Value) (num den : Int) (w : World) (h : Rp w v p) (hp : VP p) (hn : num.natAbs < Top) (hd : den.natAbs < Top) (ht : ckv (zl p) (zb num) (zs num) (zb den) (zs den) = 0) (hr : (evl p num den).natAbs < Top) :
 Calls Tryz.prog 44 #[v,R num den] w (Ret (.tuple #[.int .i64 (Int.sign (evl p num den)),.int .i64 0]) w) := by
 obtain ⟨w0,hw0⟩ : ∃ w0 : World,w0 = w.alloc (.cells #[.bool (zb num),.string (zs num),.bool (zb den),.string (zs den)] 59) := ⟨_,rfl⟩;have HR0 : Hid (Rb w0 w.heap.size num den) := by show Rb _ _ _ _; rw [hw0]; exact Rb.made w num den
 have B0 : Hid (Below w.heap.size w w0) := by show Below _ _ _; rw [hw0]; exact (Below.refl _ _).alloc (Nat.le_refl _) _
 have HD := i' (k'kw (zl p) v (zb num) (zb den) (zs num) (zs den) w0 (h.below B0.out) (k'ey hp.top) (Nat.le_trans (k'6m hn) (by decide)) (Nat.le_trans (k'6m hd) (by decide)))
 rw [ht] at HD;have HV := i' (fun c w' (hb : Below w.heap.size w w') hck => k'le (num := num) (den := den) c w' (h.below hb) hp hn hd ht hck);have HSg := i' (fun w => k'56 (zb (evl p num den)) (zs (evl p num den)) w (Nat.le_trans (k'6m hr) (by decide)))
 rw [k'6l hr] at HSg;generalize evl p num den = r at *;generalize Int.sign r = sg at *;unfold R;unfold rat at HD ⊢;clear h hp hn hd ht hr;obtain ⟨c0,c1,c2,c3⟩ := HR0.out;go_enter Tryz.func44,Tryz.ntmps44;go_wp2_with fail;rw [← hw0];clear hw0;refine HD.out.mono ?_;rintro en w1 ⟨rfl,b1⟩;have HR1 := i' (HR0.out.below b1);have b1 := k'4h B0.out b1;obtain ⟨w2,hw2⟩ : ∃ w2 : World,w2 = w1.alloc (.cells #[.int .i64 0] 96) := ⟨_,rfl⟩;have HK : Hid (Ck w2 w1.heap.size 0) := by show Ck _ _ _; rw [hw2]; exact heap_alloc_new w1 _
 have B2 : Hid (Below w.heap.size w w2) := by show Below _ _ _; rw [hw2]; exact b1.alloc b1.size _
 have HR2 : Hid (Rb w2 w.heap.size num den) := by rw [hw2]; exact HR1.out.alloc _
 clear b1 c0 c1 c2 c3;go_upto_region 5 with (fail);rw [← hw2];clear hw2;obtain ⟨c0,c1,c2,c3⟩ := HR2.out;go_wp2_with fail;clear c0 c1 c2 c3;refine (HV.out _ _ B2.out HK.out).mono ?_;rintro en w3 ⟨rfl,b3⟩;have HK3 := i' (HK.out.below b3);have B3 := i' (k'4h B2.out b3);clear b3;unfold Z;go_wp2_with fail;refine (HSg.out _).mono ?_;rintro en w4 ⟨rfl,b4⟩;have HK4 := i' (HK3.out.below b4);have B4 := i' (k'4h B3.out b4);clear b4;go_wp2_with fail;refine (k'fs _ _ _ HK4.out).mono ?_;rintro en w5 ⟨rfl,b5⟩;have B5 := i' (k'4h B4.out b5);clear b5;go_wp2;go_ret2;exact ⟨rfl,B5.out⟩
end Go.Proofs.YtepddegphdlbeaaGreat
