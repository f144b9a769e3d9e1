/- What the theorem leans on, part Y12. -/
import Derived.Test.YtepddegphdlbeaaGreatY11
import Derived.Test.YtepddegphdlbeaaGreatY10
import Derived.Test.YtepddegphdlbeaaGreatY7
import Derived.Test.YtepddegphdlbeaaGreatY4
import Derived.Test.YtepddegphdlbeaaGreatY3
import Derived.Test.YtepddegphdlbeaaGreatY2
import Derived.Test.YtepddegphdlbeaaGreatY1
import Derived.Test.YtepddegphdlbeaaGreatY0
import Derived.Test.YtepddegphdlbeaaGreatProg
import Derived.WalkKit
import Derived.WalkSpells
import Derived.WalkLawsBesides
import Derived.Lib.Hide
import Derived.Deep.QuietTactic
import Derived.BigQuiet
import Derived.Shelf.Small.Bits
import Derived.Shelf.Small.Wraps
import Derived.Shelf.Strconv.Itoa0
import Derived.Shelf.Bits.Mul64
import Derived.Ground.Names2Prog
import Derived.Shelf.Slices.SearchI
import Derived.Shelf.Spec.BitsCarry
import Derived.Deep.LoopGhost
import Derived.Deep.RegionHeld3
import Derived.Deep.DeepCutAuto
import Derived.Test.YtepddegphdlbeaaGreatY6
import Derived.Test.YtepddegphdlbeaaGreatY5
import Derived.Laws.AppendOwnNone
import Derived.Test.YtepddegphdlbeaaGreatY8
import Derived.Test.YtepddegphdlbeaaGreatY9
import Derived.Below
import Derived.RangeFuncNested
import Derived.RangeFuncBound
import Derived.RangeFuncCalls
import Derived.RangeFuncLeaves
import Derived.Shelf.Abstract
import Derived.Shelf.RegionOpen
import Derived.OwnWalkIn
import Derived.TacticsInMore
import Derived.LoopNIn
import Derived.LoopIn
import Derived.OrdersIn
import Derived.Deep.RegionHeld
import Derived.Maps.AppendAt
import Derived.Lib.SliceRun
set_option maxRecDepth 100000
set_option maxHeartbeats 16000000
set_option linter.all false
namespace Go.Proofs.YtepddegphdlbeaaGreat
open Go.RowKit
def lastOK (L : List (Bool × ByteArray)) : Bool := match L.getLast? with
 | none => true
 | some x => sgV x.1 x.2 != 0
def vldP (L : List (Bool × ByteArray)) : Bool := decide (L.length ≤ 25) && (L.all (fun x => vld x.1 x.2) && lastOK L)
theorem k'et {L : List (Bool × ByteArray)} {p : Bool × ByteArray → Bool} {k : Nat} (hk : k < L.length) (h : p L[k] = false) : L.all p = false := by
 rw [List.all_eq_false];exact ⟨_,List.getElem_mem hk,by simp [h]⟩
theorem k'eu {L : List (Bool × ByteArray)} {p : Bool × ByteArray → Bool} (h : ∀ k (hk : k < L.length),p L[k] = true) : L.all p = true := by
 rw [List.all_eq_true];intro x hx;obtain ⟨k,hk,rfl⟩ := List.mem_iff_getElem.1 hx;exact h k hk
theorem k'ev (L : List (Bool × ByteArray)) (v : Value) (w : World) (h : Rw w v L) (hz : ∀ x ∈ L,x.2.size ≤ 140737488351232) (h25 : L.length ≤ 25) :
 Calls Tryz.prog 15 #[v] w (BPost (vldP L) w) := by
 obtain ⟨p,b,off,cap,rfl,h2,h3,h4,h5⟩ := h;have HV := i' (fun k (hk : k < L.length) w => k'4k L[k].1 L[k].2 w (hz _ (List.getElem_mem hk)));have HS := i' (fun k (hk : k < L.length) w => k'56 L[k].1 L[k].2 w (hz _ (List.getElem_mem hk)));have H4 := i' h4;have H5 := i' h5;have HE : Hid (vldP L = (L.all (fun x => vld x.1 x.2) && lastOK L)) := by show _ = _; unfold vldP; rw [decide_eq_true h25]; rfl
 have HLast : Hid (∀ h0 : 0 < L.length,lastOK L = (sgV (L[L.length - 1]).1 (L[L.length - 1]).2 != 0)) := fun h0 => by
  unfold lastOK; rw [List.getLast?_eq_getElem?,List.getElem?_eq_getElem (by omega)]
 have HNil : Hid (L.length = 0 → lastOK L = true) := fun h0 => by rw [List.eq_nil_of_length_eq_zero h0]; rfl
 generalize vldP L = res at *;clear h4 h5 hz h2 h3;obtain ⟨n,hn⟩ : ∃ n,n = L.length := ⟨_,rfl⟩;rw [← hn];have hb25 : n ≤ 25 := by omega
 have HN := i' hn;clear hn;go_enter Tryz.func15,Tryz.ntmps15;go_wp2;go_loopw [4,10] (fun _ iv wr => ∃ (wz : World) (k : Nat),wz = wr ∧ k ≤ n ∧ iv = .int .i64 (k : Int) ∧ Hid (∀ j (hj : j < L.length),j < k → vld L[j].1 L[j].2 = true) ∧ Hid (Below w.heap.size w wz))
  (fun _ iv _ => n - (intOf iv).toNat)
 case atStart => exact ⟨w,0,rfl,Nat.zero_le _,rfl,fun j _ hj => absurd hj (Nat.not_lt_zero _),Below.refl _ _⟩
 case round =>
  obtain ⟨wz,k,rfl,hk,rfl,hall,hbl⟩ := hrel;by_cases hlt : k < n
  ·have hkl : k < L.length := by have h5 : n = L.length := HN.out; omega
   obtain ⟨a,s,hL⟩ : ∃ a s,L[k] = (a,s) := ⟨_,_,rfl⟩;obtain rfl := H4.out (by intro e; rw [e] at hkl; exact absurd hkl (Nat.not_lt_zero _))
   have c0 : wz.cell? ⟨b,off + k * 2,none⟩ = some (.bool a) := by
    have := k'4i hbl.out (H5.out k hkl).1;simpa [hL] using this
   have c1 : wz.cell? ⟨b,off + k * 2 + 1,none⟩ = some (.string s) := by
    have := k'4i hbl.out (H5.out k hkl).2;simpa [hL] using this
   have HVk : Hid (∀ w,Calls Tryz.prog 69 #[.agg #[.bool a,.string s]] w (BPost (vld a s) w)) := by
    have := HV.out k hkl;rw [hL] at this;exact this
   have hR : Hid (vld a s = true → ∀ j (hj : j < L.length),j < k + 1 → vld L[j].1 L[j].2 = true) := by
    intro hs j hj hjk;rcases Nat.lt_or_ge j k with g | g
    ·exact hall.out j hj g
    ·obtain rfl : j = k := by omega
     rw [hL]; exact hs
   have hF : Hid (vld a s = false → res = false) := fun hs => by
    rw [HE.out,k'et (p := fun x => vld x.1 x.2) hkl (by rw [hL]; exact hs)]; rfl
   have HB2 := i' (hbl.out.alloc hbl.out.size (.cells #[.bool a,.string s] 44));clear hkl hL hall;by_cases hsz : vld a s = true
   ·have HR := i' (hR.out hsz)
    rw [hsz] at HVk;clear hR hF hsz;go_wp2_with fail;refine (HVk.out _).mono ?_;rintro e w5 ⟨rfl,b5⟩;have HB2 := i' (k'4h HB2.out b5);clear b5;go_wp2;go_roundw
    case rel => exact ⟨_,k + 1,rfl,by omega,by go_num,HR.out,HB2⟩
    case measure => simp [intOf]; omega
   ·rw [Bool.not_eq_true] at hsz
    have HF := i' (hF.out hsz);rw [hsz] at HVk;clear hR hF hsz;go_wp2_with fail;refine (HVk.out _).mono ?_;rintro e w5 ⟨rfl,b5⟩;have HB2 := i' (k'4h HB2.out b5);clear b5;go_wp2;go_ret;exact ⟨by rw [HF.out]; rfl,HB2.out⟩
  ·have HA : Hid (res = lastOK L) := by
    show _ = _;rw [HE.out,k'eu (fun j hj => hall.out j hj (by have h5 : n = L.length := HN.out; omega))]; rfl
   clear hall;rcases Nat.eq_zero_or_pos n with h0 | h0
   ·subst h0
    have HT : Hid (res = true) := by show _ = _; rw [HA.out]; exact HNil.out HN.out.symm
    go_wp2;go_ret;exact ⟨by rw [HT.out]; rfl,hbl.out⟩
   ·obtain ⟨m,rfl⟩ : ∃ m,n = m + 1 := ⟨n - 1,by omega⟩
    have hml : m < L.length := by have h5 : m + 1 = L.length := HN.out; omega
    obtain ⟨a,s,hL⟩ : ∃ a s,L[m] = (a,s) := ⟨_,_,rfl⟩;obtain rfl := H4.out (by intro e; rw [e] at hml; exact absurd hml (Nat.not_lt_zero _))
    have c0 : wz.cell? ⟨b,off + m * 2,none⟩ = some (.bool a) := by
     have := k'4i hbl.out (H5.out m hml).1;simpa [hL] using this
    have c1 : wz.cell? ⟨b,off + m * 2 + 1,none⟩ = some (.string s) := by
     have := k'4i hbl.out (H5.out m hml).2;simpa [hL] using this
    have HSk : Hid (∀ w,Calls Tryz.prog 70 #[.agg #[.bool a,.string s]] w (IPost (sgV a s) w)) := by
     have := HS.out m hml;rw [hL] at this;exact this
    have HT : Hid (res = (sgV a s != 0)) := by
     show _ = _;rw [HA.out,HLast.out (by omega)]
     have e : L.length - 1 = m := by have h5 : m + 1 = L.length := HN.out; omega
     simp only [e,hL]
    have hne : ¬ (m + 1 = 0) := by omega
    clear hml hL h0 HA;generalize sgV a s = sv at *;by_cases hs0 : sv = 0
    ·subst hs0
     go_wp2_with fail;refine (HSk.out _).mono ?_;rintro e w5 ⟨rfl,b5⟩;have HB2 := i' (k'4h hbl.out b5);clear b5;go_wp2;go_ret;exact ⟨by rw [HT.out]; rfl,HB2.out⟩
    ·have hs1 : (sv == 0) = false := by simpa using hs0
     have hs2 : (sv != 0) = true := by simpa using hs0
     rw [hs2] at HT;clear hs0;go_wp2_with fail;refine (HSk.out _).mono ?_;rintro e w5 ⟨rfl,b5⟩;have HB2 := i' (k'4h hbl.out b5);clear b5;go_wp2;go_ret;exact ⟨by rw [HT.out]; rfl,HB2.out⟩
theorem k'ew (L : List (Bool × ByteArray)) (v : Value) (w : World) (h : Rw w v L) (h25 : 25 < L.length) :
 Calls Tryz.prog 15 #[v] w (BPost (vldP L) w) := by
 obtain ⟨p,b,off,cap,rfl,h2,h3,h4,h5⟩ := h;have HE : Hid (vldP L = false) := by show _ = _; unfold vldP; rw [decide_eq_false (by omega)]; rfl
 generalize vldP L = res at *;unfold maxLen at h3;have hl : L.length ≤ 9223372036854775807 := by omega
 clear h4 h5 h2 h3;generalize L.length = n at *;go_enter Tryz.func15,Tryz.ntmps15;go_wp2;go_ret;exact ⟨by rw [HE.out]; rfl,Below.refl _ _⟩
def Small (L : List (Bool × ByteArray)) : Prop := ∀ x ∈ L,x.2.size ≤ 140737488351232
theorem k'ex (L : List (Bool × ByteArray)) (v : Value) (w : World) (h : Rw w v L) (hz : Small L) : Calls Tryz.prog 15 #[v] w (BPost (vldP L) w) := by
 rcases Nat.lt_or_ge 25 L.length with g | g
 ·exact k'ew L v w h g
 ·exact k'ev L v w h hz g
structure VP (p : List Int) : Prop where
 nrm : Pl.Nrm p
 len : p.length ≤ 25
 top : ∀ a ∈ p,a.natAbs < Top
theorem k'ey {p : List Int} (h : ∀ a ∈ p,a.natAbs < Top) : Small (zl p) := by
 intro x hx;obtain ⟨z,hz,rfl⟩ := List.mem_map.1 hx;exact Nat.le_trans (k'6m (h z hz)) (by decide)
theorem k'ez {p : List Int} (h : ∀ a ∈ p,a.natAbs < Top) : lastOK (zl p) = true ↔ Pl.Nrm p := by
 unfold lastOK;rw [List.getLast?_eq_getElem?];by_cases h0 : p = []
 ·subst h0; simp [zl,Pl.nrm_nil]
 ·have h1 := List.length_pos_iff.2 h0
  have h2 : p.length - 1 < p.length := by omega
  have e : (zl p).length - 1 = p.length - 1 := by rw [k'e0]
  rw [e,List.getElem?_eq_getElem (by rw [k'e0]; exact h2),k'e1 _ _ h2]
  simp only [k'6l (h _ (List.getElem_mem h2))];constructor
  ·intro hs _ h3
   rw [h3] at hs;simp at hs
  ·intro hn
   have := hn h1;simpa [Int.sign_eq_zero_iff_zero] using this
theorem VP.ok {p : List Int} (h : VP p) : vldP (zl p) = true := by
 unfold vldP;have h1 : (zl p).length ≤ 25 := by rw [k'e0]; exact h.len
 have h2 : ((zl p).all fun x => vld x.1 x.2) = true := by
  rw [List.all_eq_true];intro x hx;obtain ⟨z,hz,rfl⟩ := List.mem_map.1 hx;exact k'6j (h.top z hz)
 rw [decide_eq_true h1,h2,(k'ez h.top).2 h.nrm]; rfl
theorem VP.of {L : List (Bool × ByteArray)} (h : vldP L = true) : ∃ p,VP p ∧ L = zl p := by
 unfold vldP at h;simp only [Bool.and_eq_true,decide_eq_true_eq] at h;obtain ⟨h1,h2,h3⟩ := h;have h4 : ∀ x ∈ L,vld x.1 x.2 = true := List.all_eq_true.1 h2;have e : L = zl (L.map fun x => sg x.1 (bv x.2)) := by
  unfold zl;rw [List.map_map]
  conv => lhs; rw [← List.map_id L]
  apply List.map_congr_left;intro x hx;have := k'ac (h4 x hx);simp only [Function.comp,id];rw [this.1,this.2]
 have ht : ∀ a ∈ L.map (fun x => sg x.1 (bv x.2)),a.natAbs < Top := by
  intro a ha;obtain ⟨x,hx,rfl⟩ := List.mem_map.1 ha;rw [k'bb];exact k'4r (h4 x hx)
 refine ⟨_,⟨?_,by simpa using h1,ht⟩,e⟩
 rw [e] at h3;exact (k'ez ht).1 h3
theorem k'f0 (p : List Int) (v : Value) (w : World) (h : Rp w v p) (hp : VP p) : Calls Tryz.prog 15 #[v] w (BPost true w) := by
 have := k'ex (zl p) v w h (k'ey hp.top);rwa [hp.ok] at this
theorem k'f1 (L : List (Bool × ByteArray)) (v : Value) (w : World) (h : Rw w v L) : Calls Tryz.prog 67 #[v] w (IPost ((L.length : Int) - 1) w) := by
 obtain ⟨p,b,off,cap,rfl,h2,h3,h4,h5⟩ := h;unfold maxLen at h3;have hl : L.length ≤ 9223372036854775807 := by omega
 clear h4 h5 h2 h3;generalize L.length = n at *;go_enter Tryz.func67,Tryz.ntmps67;go_wp2;go_ret;exact ⟨rfl,Below.refl _ _⟩
def glb (L : List (Bool × ByteArray)) : Int := L.foldl (fun m x => max m (lenV x.1 x.2)) 0
theorem k'f2 (L : List (Bool × ByteArray)) (x : Bool × ByteArray) : glb (L ++ [x]) = max (glb L) (lenV x.1 x.2) := by simp [glb]
theorem k'f3 (L : List (Bool × ByteArray)) (v : Value) (w : World) (h : Rw w v L) (hz : Small L) : Calls Tryz.prog 68 #[v] w (IPost (glb L) w) := by
 have hl := h.len;obtain ⟨p,b,off,cap,rfl,h2,h3,h4,h5⟩ := h;have HV := i' (fun k (hk : k < L.length) w => k'4p L[k].1 L[k].2 w (hz _ (List.getElem_mem hk)));have H4 := i' h4;have H5 := i' h5;have HE : Hid (glb (L.take L.length) = glb L) := by show _ = _; rw [List.take_length]
 have H0 : Hid (glb (L.take 0) = 0) := by show _ = _; simp [glb]
 clear h4 h5 hz h2 h3;obtain ⟨n,hn⟩ : ∃ n,n = L.length := ⟨_,rfl⟩;rw [← hn] at hl ⊢ HE;have HN := i' hn;clear hn;go_enter Tryz.func68,Tryz.ntmps68;go_wp2;go_loopw [3,5,8] (fun mv _ iv wr => ∃ (wz : World) (k : Nat),wz = wr ∧ k ≤ n ∧ iv = .int .i64 (k : Int) ∧ mv = .int .i64 (glb (L.take k)) ∧ Hid (Below w.heap.size w wz))
  (fun _ _ iv _ => n - (intOf iv).toNat)
 case atStart => exact ⟨w,0,rfl,Nat.zero_le _,rfl,by rw [H0.out],Below.refl _ _⟩
 case round =>
  obtain ⟨wz,k,rfl,hk,rfl,rfl,hbl⟩ := hrel;by_cases hlt : k < n
  ·have hkl : k < L.length := by have h5 : n = L.length := HN.out; omega
   obtain ⟨a,s,hL⟩ : ∃ a s,L[k] = (a,s) := ⟨_,_,rfl⟩;obtain rfl := H4.out (by intro e; rw [e] at hkl; exact absurd hkl (Nat.not_lt_zero _))
   have c0 : wz.cell? ⟨b,off + k * 2,none⟩ = some (.bool a) := by
    have := k'4i hbl.out (H5.out k hkl).1;simpa [hL] using this
   have c1 : wz.cell? ⟨b,off + k * 2 + 1,none⟩ = some (.string s) := by
    have := k'4i hbl.out (H5.out k hkl).2;simpa [hL] using this
   have HVk : Hid (∀ w,Calls Tryz.prog 115 #[.agg #[.bool a,.string s]] w (IPost (lenV a s) w)) := by
    have := HV.out k hkl;rw [hL] at this;exact this
   have HS : Hid (glb (L.take (k + 1)) = max (glb (L.take k)) (lenV a s)) := by
    show _ = _;rw [List.take_succ_eq_append_getElem hkl,k'f2,hL]
   have HB2 := i' (hbl.out.alloc hbl.out.size (.cells #[.bool a,.string s] 44));clear hkl hL;generalize lenV a s = lv at *;generalize glb (L.take k) = gk at *;go_wp2_with fail;refine (HVk.out _).mono ?_;rintro e w5 ⟨rfl,b5⟩;have HB3 := i' (k'4h HB2.out b5);clear b5;go_wp2
   all_goals
    go_roundw
    case rel => exact ⟨_,k + 1,rfl,by omega,by go_num,by rw [HS.out],HB3⟩
    case measure => simp [intOf]; omega
  ·obtain rfl : k = n := by omega
   go_wp2;go_ret;exact ⟨by rw [HE.out]; rfl,hbl.out⟩
def RP (w : World) (v : Value) (p : List Int) : Prop :=
 ∃ (a : Option Addr) (b off cap : Nat),v = .slice a p.length cap ∧ p.length ≤ cap ∧ cap ≤ maxLen ∧ (p ≠ [] → a = some ⟨b,off,none⟩) ∧
  ∀ k (h : k < p.length),∃ u,w.cell? ⟨b,off + k * 2,none⟩ = some (.bool (decide (p[k] < 0))) ∧ w.cell? ⟨b,off + k * 2 + 1,none⟩ = some u ∧ Rz w u p[k]
theorem Rz.below {w w' : World} {v : Value} {z : Int} (h : Rz w v z) (hb : Below w.heap.size w w') : Rz w' v z := Ri.below h hb (Nat.le_refl _)
theorem RP.below {w w' : World} {v : Value} {p : List Int} (h : RP w v p) (hb : Below w.heap.size w w') : RP w' v p := by
 obtain ⟨a,b,off,cap,h1,h2,h3,h4,h5⟩ := h;refine ⟨a,b,off,cap,h1,h2,h3,h4,fun k hk => ?_⟩;obtain ⟨u,g1,g2,g3⟩ := h5 k hk;exact ⟨u,k'e hb g1,k'e hb g2,g3.below hb⟩
theorem RP.nil (w : World) : RP w (.slice none 0 0) [] := ⟨none,0,0,0,rfl,by simp,by simp,fun h => absurd rfl h,fun k h => absurd h (by simp)⟩
theorem RP.len {w : World} {v : Value} {p : List Int} (h : RP w v p) : p.length ≤ 9223372036854775807 := by
 obtain ⟨a,b,off,cap,h1,h2,h3,h4,h5⟩ := h;unfold maxLen at h3;omega
theorem RP.take {w : World} {a : Option Addr} {n cap : Nat} {p : List Int} (h : RP w (.slice a n cap) p) (m : Nat) (hm : m ≤ n) : RP w (.slice a m cap) (p.take m) := by
 obtain ⟨a',b,off,cap',h1,h2,h3,h4,h5⟩ := h;injection h1 with e1 e2 e3;subst e1 e2 e3;have e : (p.take m).length = m := by simp; omega
 refine ⟨a,b,off,cap,by rw [e],by omega,h3,fun hne => h4 (fun e0 => hne (by rw [e0]; simp)),fun k hk => ?_⟩
 rw [e] at hk;obtain ⟨u,g1,g2,g3⟩ := h5 k (by omega)
 exact ⟨u,by simpa using g1,g2,by simpa using g3⟩
def rv : List Int → List Value → List Value
 | z :: p,u :: us => .bool (decide (z < 0)) :: u :: rv p us
 | _,_ => []
theorem k'f4 {p : List Int} {us : List Value} (h : us.length = p.length) : (rv p us).length = p.length * 2 := by
 induction p generalizing us with
 | nil => cases us with
  | nil => rfl
  | cons u us => simp at h
 | cons z p ih =>
  cases us with
  | nil => simp at h
  | cons u us => simp only [rv,List.length_cons] at h ⊢; rw [ih (by omega)]; omega
theorem k'f5 {p : List Int} {us : List Value} (h : us.length = p.length) (z : Int) (u : Value) : rv (p ++ [z]) (us ++ [u]) = rv p us ++ [.bool (decide (z < 0)),u] := by
 induction p generalizing us with
 | nil => cases us with
  | nil => rfl
  | cons u us => simp at h
 | cons y p ih =>
  cases us with
  | nil => simp at h
  | cons x us => simp only [List.cons_append,rv]; rw [ih (by simpa using h)]
theorem k'f6 {p : List Int} {us : List Value} (h : us.length = p.length) (k : Nat) (hk : k < p.length) : (rv p us)[k * 2]? = some (.bool (decide (p[k] < 0))) ∧ (rv p us)[k * 2 + 1]? = some us[k] := by
 induction p generalizing us k with
 | nil => simp at hk
 | cons y p ih =>
  cases us with
  | nil => simp at h
  | cons x us =>
   cases k with
   | zero => simp [rv]
   | succ k =>
    have h2 : us.length = p.length := by simpa using h
    obtain ⟨g1,g2⟩ := ih h2 k (by simpa using hk)
    rw [show (k + 1) * 2 = k * 2 + 1 + 1 by omega]
    simp only [rv,List.getElem?_cons_succ,List.getElem_cons_succ];exact ⟨g1,g2⟩
def RowP (w : World) (B : Nat) (v : Value) (p : List Int) : Prop :=
 ∃ us : List Value,us.length = p.length ∧ w.ownsRow B 52 2 v p.length (rv p us) ∧ ∀ k (h : k < us.length) (h2 : k < p.length),Rz w us[k] p[k]
theorem RowP.nil (w : World) (B : Nat) : RowP w B (.slice none 0 0) [] := ⟨[],rfl,⟨by simp [rv],.inl ⟨rfl,rfl⟩⟩,fun k h => absurd h (by simp)⟩
theorem RowP.rp {w : World} {B : Nat} {v : Value} {p : List Int} (h : RowP w B v p) : RP w v p := by
 obtain ⟨us,hl,ho,hz⟩ := h;rcases ho.2 with ⟨rfl,h0⟩ | ⟨g,cap,cur,rfl,hB,hg,hn,hm,hs,ht⟩
 ·obtain rfl := List.eq_nil_of_length_eq_zero h0; exact RP.nil w
 ·refine ⟨some ⟨g,0,none⟩,g,0,cap,rfl,hn,hm,fun _ => rfl,fun k hk => ⟨us[k],?_,?_,hz k (by omega) hk⟩⟩
  ·have := ho.cells (g := g) rfl (k * 2) _ (k'f6 hl k hk).1
   have hadd : ((⟨g,0,none⟩ : Addr).add (k * 2)) = ⟨g,0 + k * 2,none⟩ := by unfold Addr.add; split <;> simp_all
   rwa [hadd] at this
  ·have := ho.cells (g := g) rfl (k * 2 + 1) _ (k'f6 hl k hk).2
   have hadd : ((⟨g,0,none⟩ : Addr).add (k * 2 + 1)) = ⟨g,0 + (k * 2 + 1),none⟩ := by unfold Addr.add; split <;> simp_all
   rw [hadd] at this;simpa [Nat.add_assoc] using this
theorem Rz.grown {w w1 : World} {u : Value} {z : Int} {row : Option Nat} (h : Rz w u z) (hg : w.grownBy w1 row) (hr : ∀ r,row = some r → ¬ IntB w r) : Rz w1 u z := by
 obtain ⟨p,b,off,cap,h1,h2,h3,h4,h5,h6⟩ := h;rcases h5 with ⟨rfl,h5⟩ | ⟨rfl,h5⟩
 ·refine ⟨none,b,off,cap,h1,h2,h3,h4,Or.inl ⟨rfl,h5⟩,fun k hk => ?_⟩
  omega
 ·have hb : w1.heap[b]? = w.heap[b]? := hg.block b h5.1 (fun e => hr b e.symm h5)
  refine ⟨_,b,off,cap,h1,h2,h3,h4,Or.inr ⟨rfl,h5.keep hg.size hb⟩,fun k hk => ?_⟩;rw [World.cell?_of_block (a := ⟨b,off + k,none⟩) hb];exact h6 k hk
theorem k'f7 {w : World} {B n : Nat} {v : Value} {xs : List Value} (h : w.ownsRow B 52 2 v n xs) : ∀ r,v.ownBlock = some r → ¬ IntB w r := by
 rintro r hr ⟨_,cur',fz,hi⟩;rcases h.2 with ⟨rfl,_⟩ | ⟨g,cap,cur,rfl,hB,hg,_⟩
 ·exact absurd hr (by simp [Value.ownBlock])
 ·have e : g = r := by simpa [Value.ownBlock] using hr
  subst e;rw [hg] at hi;injection hi with hi;injection hi with _ h2 _;exact absurd h2 (by decide)
theorem RowP.snoc {w w1 : World} {B : Nat} {v v' u : Value} {p : List Int} {us : List Value} {z : Int} (hl : us.length = p.length) (ho : w.ownsRow B 52 2 v p.length (rv p us)) (hz : ∀ k (h : k < us.length) (h2 : k < p.length),Rz w us[k] p[k])
 (hg : w.grownBy w1 v.ownBlock) (ho' : w1.ownsRow B 52 2 v' (p.length + 1) (rv p us ++ [.bool (decide (z < 0)),u])) (hu : Rz w u z) : RowP w1 B v' (p ++ [z]) := by
 have hn := k'f7 ho;refine ⟨us ++ [u],by simp [hl],by rw [k'f5 hl]; simpa using ho',fun k hk hk2 => ?_⟩
 by_cases e : k < us.length
 ·rw [List.getElem_append_left e,List.getElem_append_left (by omega)]
  exact (hz k e (by omega)).grown hg hn
 ·have e2 : k = us.length := by simp at hk; omega
  subst e2;have e3 : (us ++ [u])[us.length]'hk = u := by simp
  have e4 : (p ++ [z])[us.length]'hk2 = z := by simp [hl]
  rw [e3,e4];exact hu.grown hg hn
theorem RowP.below {w w' : World} {B : Nat} {v : Value} {p : List Int} (h : RowP w B v p) (hb : Below w.heap.size w w') : RowP w' B v p := by
 obtain ⟨us,hl,ho,hz⟩ := h;refine ⟨us,hl,⟨ho.1,?_⟩,fun k h1 h2 => (hz k h1 h2).below hb⟩;rcases ho.2 with h0 | ⟨g,cap,cur,e,hB,hg,hn,hm,hs,ht⟩
 ·exact Or.inl h0
 ·exact Or.inr ⟨g,cap,cur,e,hB,(hb.block g (lt_of_block hg)).trans hg,hn,hm,hs,ht⟩
def RPPost (p : List Int) (w : World) (e : Ending) (w' : World) : Prop := ∃ v,e = .returned v ∧ RP w' v p ∧ Below w.heap.size w w'
theorem k'f8 (v : Value) (xs : List Int) (w : World) (h : RP w v xs) : Calls Tryz.prog 75 #[v] w (RPPost (Pl.trim xs) w) := by
 have HRP := i' h;obtain ⟨p,b,off,cap,rfl,h2,h3,h4,h6⟩ := h;have hc := h3;unfold maxLen at hc;have hl : xs.length ≤ 9223372036854775807 := by omega
 have H4 := i' h4;have H6 := i' h6;have H23 := i' (And.intro h2 h3);clear h2 h3 h4 h6 hc;go_enter Tryz.func75,Tryz.ntmps75;go_wp2;go_loopw [0] (fun v wr => ∃ (wz : World) (k : Nat),wz = wr ∧ k ≤ xs.length ∧ v = .slice p k cap ∧ Hid (∀ i (h : i < xs.length),k ≤ i → xs[i] = 0) ∧ Hid (Below w.heap.size w wz)) (fun v _ => lenOf v)
 case atStart => exact ⟨w,xs.length,rfl,Nat.le_refl _,rfl,fun i h hi => absurd h (by omega),Below.refl _ _⟩
 case round =>
  obtain ⟨wz,k,rfl,hk,rfl,hz,hbl⟩ := hrel;have hgive : ∀ n,n ≤ xs.length → Pl.trim xs = xs.take n → RP wz (.slice p n cap) (Pl.trim xs) := by
   intro n hn e;rw [e];exact RP.take (HRP.out.below hbl.out) n hn
  have HG := i' hgive;clear hgive;rcases Nat.eq_zero_or_pos k with h0 | h0
  ·subst h0
   have e0 : Hid (Pl.trim xs = xs.take 0) := Pl.trim_take (Nat.zero_le _) (fun i h _ => hz.out i h (Nat.zero_le _)) (by rw [List.take_zero]; exact Pl.nrm_nil)
   go_wp2;go_ret;exact ⟨_,rfl,HG.out 0 (Nat.zero_le _) e0.out,hbl.out⟩
  ·obtain ⟨j,rfl⟩ : ∃ j,k = j + 1 := ⟨k - 1,by omega⟩
   have hj : j < xs.length := by omega
   obtain rfl := H4.out (by intro e; rw [e] at hj; exact absurd hj (Nat.not_lt_zero _))
   obtain ⟨u,g0,g1,g2⟩ := H6.out j hj;have c0 := k'4i hbl.out g0;have c1 := k'4i hbl.out g1;have HS := i' (k'85 xs[j] u wz (g2.below hbl.out));unfold iV at HS;have hjc : j ≤ cap := by have := H23.out.1; omega
   clear g0 g1 g2;by_cases hv : xs[j] = 0
   ·have HV := i' hv
    rw [hv] at HS c0;have e0 : Hid ((0 : Int).sign = 0) := rfl;rw [e0.out] at HS;clear hv e0;go_wp2_with fail;refine HS.out.mono ?_;rintro e w5 ⟨rfl,b5⟩;have HB2 := i' (k'4h hbl.out b5);clear b5 c0 c1;go_wp2;go_roundw
    case rel =>
     refine ⟨_,j,rfl,by omega,rfl,fun i h hi => ?_,HB2⟩
     rcases Nat.lt_or_ge j i with g | g
     ·exact hz.out i h g
     ·obtain rfl : i = j := by omega
      exact HV.out
    case measure => simp [lenOf]
   ·have e0 : Hid (Pl.trim xs = xs.take (j + 1)) := Pl.trim_take hk hz.out (Pl.nrm_take_last hj hv)
    have hsg : (xs[j].sign == 0) = false := by simpa [Int.sign_eq_zero_iff_zero] using hv
    have HGV := i' (HG.out (j + 1) hk e0.out);clear hv;generalize xs[j].sign = sv at *;generalize decide (xs[j] < 0) = db at *;go_wp2_with fail;refine HS.out.mono ?_;rintro e w5 ⟨rfl,b5⟩;have HB2 := i' (k'4h hbl.out b5);have HB3 := i' b5;clear b5 c0 c1;go_wp2;go_ret;exact ⟨_,rfl,HGV.out.below HB3.out,HB2.out⟩
theorem k'f9 (w : World) (x y : Value) (t : TypeId) : ∀ j u,[x,y][j]? = some u → (w.alloc (.cells #[x,y] t)).cell? ((⟨w.heap.size,0,none⟩ : Addr).add j) = some u := by
 intro j u hj
 match j,hj with
 | 0,hj => simp at hj; subst hj; simp [Addr.add,go_sem]
 | 1,hj => simp at hj; subst hj; simp [Addr.add,go_sem]
 | k + 2,hj => exact absurd hj (by simp)
theorem k'fc {L : List (Bool × ByteArray)} {m : Nat} (h : m + 1 = L.length) {a : Bool} {s : ByteArray} (hm : L[m]'(by omega) = (a,s)) (hv : vld a s = true) : lastOK L = decide (0 < s.size) := by
 have e : m = L.length - 1 := by omega
 unfold lastOK;rw [List.getLast?_eq_getElem?,List.getElem?_eq_getElem (by omega)]
 subst e;rw [hm];show (sgV a s != 0) = _;unfold sgV;by_cases h0 : 0 < s.size
 ·rw [if_pos ⟨hv,h0⟩,decide_eq_true h0]; cases a <;> rfl
 ·rw [if_neg (fun h => h0 h.2),decide_eq_false h0]; rfl
theorem k'fd (L : List (Bool × ByteArray)) (v : Value) (w : World) (h : Rw w v L) (hz : Small L) :
 Calls Tryz.prog 16 #[v] w (BPost (vldP L) w) := by
 have hlen := h.len;obtain ⟨p,b,off,cap,rfl,h2,h3,h4,h5⟩ := h;have HV := i' (fun k (hk : k < L.length) w => k'6o L[k].1 L[k].2 w (hz _ (List.getElem_mem hk)));have H4 := i' h4;have H5 := i' h5;have HE : Hid (vldP L = (decide (L.length ≤ 25) && (L.all (fun x => vld x.1 x.2) && lastOK L))) := rfl;have HNil : Hid (L.length = 0 → lastOK L = true) := fun h0 => by rw [List.eq_nil_of_length_eq_zero h0]; rfl
 have HZ := i' (fun k (hk : k < L.length) => hz _ (List.getElem_mem hk));generalize vldP L = res at *;clear h4 h5 hz h2 h3;obtain ⟨n,hn⟩ : ∃ n,n = L.length := ⟨_,rfl⟩;rw [← hn] at hlen HE ⊢;have HN := i' hn;clear hn;go_enter Tryz.func16,Tryz.ntmps16;go_wp2;go_loopw [3] (fun iv wr => ∃ (wz : World) (k : Nat),wz = wr ∧ k ≤ n ∧ iv = .int .i64 (k : Int) ∧ Hid (∀ j (hj : j < L.length),j < k → vld L[j].1 L[j].2 = true) ∧ Hid (Below w.heap.size w wz))
  (fun iv _ => n - (intOf iv).toNat)
 case atStart => exact ⟨w,0,rfl,Nat.zero_le _,rfl,fun j _ hj => absurd hj (Nat.not_lt_zero _),Below.refl _ _⟩
 case round =>
  obtain ⟨wz,k,rfl,hk,rfl,hall,hbl⟩ := hrel;have hk0 : (0 : Int) ≤ (k : Int) := by omega
  by_cases hlt : k < n
  ·have hkl : k < L.length := by have h5 : n = L.length := HN.out; omega
   have hkk : (k : Int) < (n : Int) := by omega
   obtain ⟨a,s,hL⟩ : ∃ a s,L[k] = (a,s) := ⟨_,_,rfl⟩;obtain rfl := H4.out (by intro e; rw [e] at hkl; exact absurd hkl (Nat.not_lt_zero _))
   have c0 : wz.cell? ⟨b,off + k * 2,none⟩ = some (.bool a) := by
    have := k'4i hbl.out (H5.out k hkl).1;simpa [hL] using this
   have c1 : wz.cell? ⟨b,off + k * 2 + 1,none⟩ = some (.string s) := by
    have := k'4i hbl.out (H5.out k hkl).2;simpa [hL] using this
   have HVk : Hid (∀ w,Calls Tryz.prog 35 #[.agg #[.bool a,.string s]] w (BPost (vld a s) w)) := by
    have := HV.out k hkl;rw [hL] at this;exact this
   have hR : Hid (vld a s = true → ∀ j (hj : j < L.length),j < k + 1 → vld L[j].1 L[j].2 = true) := by
    intro hs j hj hjk;rcases Nat.lt_or_ge j k with g | g
    ·exact hall.out j hj g
    ·obtain rfl : j = k := by omega
     rw [hL]; exact hs
   have hF : Hid (vld a s = false → res = false) := fun hs => by
    rw [HE.out,k'et (p := fun x => vld x.1 x.2) hkl (by rw [hL]; exact hs),Bool.false_and,Bool.and_false]
   clear hkl hL hall;by_cases hsz : vld a s = true
   ·have HR := i' (hR.out hsz)
    rw [hsz] at HVk;clear hR hF hsz;go_wp2_with fail;refine (HVk.out _).mono ?_;rintro e w5 ⟨rfl,b5⟩;have HB2 := i' (k'4h hbl.out b5);clear b5 c0 c1;go_wp2;go_roundw
    case rel => exact ⟨_,k + 1,rfl,by omega,by go_num,HR.out,HB2.out⟩
    case measure => simp [intOf]; omega
   ·rw [Bool.not_eq_true] at hsz
    have HF := i' (hF.out hsz);rw [hsz] at HVk;clear hR hF hsz;go_wp2_with fail;refine (HVk.out _).mono ?_;rintro e w5 ⟨rfl,b5⟩;have HB2 := i' (k'4h hbl.out b5);clear b5 c0 c1;go_wp2;go_ret;exact ⟨by rw [HF.out]; rfl,HB2.out⟩
  ·have HA : Hid (res = (decide (n ≤ 25) && lastOK L)) := by
    show _ = _;rw [HE.out,k'eu (fun j hj => hall.out j hj (by have h5 : n = L.length := HN.out; omega)),Bool.true_and]
   by_cases h25 : n ≤ 25
   ·have h25i : (n : Int) ≤ 25 := by omega
    have HA2 : Hid (res = lastOK L) := by show _ = _; rw [HA.out,decide_eq_true h25,Bool.true_and]
    rcases Nat.eq_zero_or_pos n with h0 | h0
    ·subst h0
     have HT : Hid (res = true) := by show _ = _; rw [HA2.out]; exact HNil.out HN.out.symm
     obtain rfl : k = 0 := by omega
     clear hall h25;go_wp2;go_ret;exact ⟨by rw [HT.out]; rfl,hbl.out⟩
    ·obtain ⟨m,rfl⟩ : ∃ m,n = m + 1 := ⟨n - 1,by omega⟩
     have hml : m < L.length := by have h5 : m + 1 = L.length := HN.out; omega
     obtain ⟨a,s,hL⟩ : ∃ a s,L[m] = (a,s) := ⟨_,_,rfl⟩;obtain rfl := H4.out (by intro e; rw [e] at hml; exact absurd hml (Nat.not_lt_zero _))
     have c1 : wz.cell? ⟨b,off + m * 2 + 1,none⟩ = some (.string s) := by
      have := k'4i hbl.out (H5.out m hml).2;simpa [hL] using this
     have hss : s.size ≤ 140737488351232 := by have := HZ.out m hml; rw [hL] at this; exact this
     have HT : Hid (res = decide (0 < s.size)) := by
      show _ = _;rw [HA2.out];refine k'fc HN.out hL ?_;have := hall.out m hml (by omega)
      rw [hL] at this;exact this
     have hm0 : ¬ ((m + 1 : Nat) : Int) = 0 := by omega
     have hm1 : (((m : Int) + 1 == 0) : Bool) = false := by simp; omega
     clear hall h25 hL hml hm0;go_wp2;go_ret;exact ⟨by rw [HT.out]; rfl,hbl.out⟩
   ·have h25i : ¬ (n : Int) ≤ 25 := by omega
    have HT : Hid (res = false) := by show _ = _; rw [HA.out,decide_eq_false h25,Bool.false_and]
    clear hall h25;go_wp2;go_ret;exact ⟨by rw [HT.out]; rfl,hbl.out⟩
def Rl (w : World) (v : Value) (Ls : List (List (Bool × ByteArray))) : Prop :=
 ∃ (b off cap : Nat),v = .slice (some ⟨b,off,none⟩) Ls.length cap ∧ ∀ k (h : k < Ls.length),∃ u,w.cell? ⟨b,off + k,none⟩ = some u ∧ Rw w u Ls[k]
theorem k'ff (w : World) {v1 v2 : Value} {L1 L2 : List (Bool × ByteArray)} (h1 : Rw w v1 L1) (h2 : Rw w v2 L2) : Rl (w.alloc (.cells #[v1,v2] 23)) (.slice (some ⟨w.heap.size,0,none⟩) 2 2) [L1,L2] :=
 ⟨w.heap.size,0,2,rfl,fun k hk => by
  match k,hk with
  | 0,_ => exact ⟨v1,by simp [go_sem],h1.below ((Below.refl _ _).alloc (Nat.le_refl _) _)⟩
  | 1,_ => exact ⟨v2,by simp [go_sem],h2.below ((Below.refl _ _).alloc (Nat.le_refl _) _)⟩
  | j + 2,h => simp at h; omega⟩
theorem k'fg {Ls : List (List (Bool × ByteArray))} {p : List (Bool × ByteArray) → Bool} {k : Nat} (hk : k < Ls.length) (h : p Ls[k] = false) : Ls.all p = false := by
 rw [List.all_eq_false];exact ⟨_,List.getElem_mem hk,by simp [h]⟩
theorem k'fh {Ls : List (List (Bool × ByteArray))} {p : List (Bool × ByteArray) → Bool} (h : ∀ k (hk : k < Ls.length),p Ls[k] = true) : Ls.all p = true := by
 rw [List.all_eq_true];intro x hx;obtain ⟨k,hk,rfl⟩ := List.mem_iff_getElem.1 hx;exact h k hk
theorem k'fi (Ls : List (List (Bool × ByteArray))) (v : Value) (w : World) (h : Rl w v Ls) (hz : ∀ L ∈ Ls,Small L) (hn : Ls.length ≤ 10) :
 Calls Tryz.prog 19 #[v] w (BPost (Ls.all vldP) w) := by
 obtain ⟨b,off,cap,rfl,h5⟩ := h;have HV := i' (fun k (hk : k < Ls.length) u w' (hu : Rw w' u Ls[k]) => k'fd Ls[k] u w' hu (hz _ (List.getElem_mem hk)));have HT : Hid ((∀ k (hk : k < Ls.length),vldP Ls[k] = true) → Ls.all vldP = true) := fun h => k'fh h;have HF : Hid (∀ k (hk : k < Ls.length),vldP Ls[k] = false → Ls.all vldP = false) := fun k hk h => k'fg hk h;generalize Ls.all vldP = res at *;obtain ⟨n,hnn⟩ : ∃ n,n = Ls.length := ⟨_,rfl⟩;rw [← hnn] at hn ⊢;have HN := i' hnn;have H5 := i' h5;clear hnn h5 hz;go_enter Tryz.func19,Tryz.ntmps19;go_wp2;go_loopw [4,7] (fun _ iv wr => ∃ (wz : World) (k : Nat),wz = wr ∧ k ≤ n ∧ iv = .int .i64 (k : Int) ∧ Hid (∀ j (hj : j < Ls.length),j < k → vldP Ls[j] = true) ∧ Hid (Below w.heap.size w wz))
  (fun _ iv _ => n - (intOf iv).toNat)
 case atStart => exact ⟨w,0,rfl,Nat.zero_le _,rfl,fun j _ hj => absurd hj (Nat.not_lt_zero _),Below.refl _ _⟩
 case round =>
  obtain ⟨wz,k,rfl,hk,rfl,hall,hbl⟩ := hrel;have hk0 : (0 : Int) ≤ (k : Int) := by omega
  by_cases hlt : k < n
  ·have hkl : k < Ls.length := by have h5 : n = Ls.length := HN.out; omega
   have hkk : (k : Int) < (n : Int) := by omega
   obtain ⟨u,g0,g1⟩ := H5.out k hkl;have c0 := k'4i hbl.out g0;have HVk := i' (HV.out k hkl u wz (g1.below hbl.out));have hR : Hid (vldP Ls[k] = true → ∀ j (hj : j < Ls.length),j < k + 1 → vldP Ls[j] = true) := by
    intro hs j hj hjk;rcases Nat.lt_or_ge j k with g | g
    ·exact hall.out j hj g
    ·obtain rfl : j = k := by omega
     exact hs
   have hF := i' (HF.out k hkl);obtain ⟨pu,bu,ou,cu,rfl,-⟩ := g1;generalize Ls[k].length = lu at *;clear hall g0;by_cases hv : vldP Ls[k] = true
   ·have HR := i' (hR.out hv)
    rw [hv] at HVk;clear hR hF hv hkl;go_wp2_with fail;refine HVk.out.mono ?_;rintro e w5 ⟨rfl,b5⟩;have HB2 := i' (k'4h hbl.out b5);clear b5 c0;go_wp2;go_roundw
    case rel => exact ⟨_,k + 1,rfl,by omega,by go_num,HR.out,HB2.out⟩
    case measure => simp [intOf]; omega
   ·rw [Bool.not_eq_true] at hv
    have HFk := i' (hF.out hv);rw [hv] at HVk;clear hR hF hv hkl;go_wp2_with fail;refine HVk.out.mono ?_;rintro e w5 ⟨rfl,b5⟩;have HB2 := i' (k'4h hbl.out b5);clear b5 c0;go_wp2;go_ret;exact ⟨by rw [HFk.out]; rfl,HB2.out⟩
  ·have HA : Hid (res = true) := HT.out (fun j hj => hall.out j hj (by have h5 : n = Ls.length := HN.out; omega))
   obtain rfl : k = n := by omega
   clear hall;go_wp2;go_ret;exact ⟨by rw [HA.out]; rfl,hbl.out⟩
def lenOK (L : List (Bool × ByteArray)) : Bool := decide (L.length ≤ 14 ∨ L.length = 26)
def shP (L : List (Bool × ByteArray)) : Bool := lenOK L && L.all (fun x => decide (x.2.size ≤ 16))
def Lim (L : List (Bool × ByteArray)) : Prop := ∀ x ∈ L,x.2.size ≤ 9223372036854775807
theorem k'fj (Ls : List (List (Bool × ByteArray))) (v : Value) (w : World) (h : Rl w v Ls) (hz : ∀ L ∈ Ls,Lim L) (hn : Ls.length ≤ 10) :
 Calls Tryz.prog 11 #[v] w (BPost (Ls.all shP) w) := by
 obtain ⟨b,off,cap,rfl,h5⟩ := h;have HT : Hid ((∀ k (hk : k < Ls.length),shP Ls[k] = true) → Ls.all shP = true) := fun h => k'fh h;have HF : Hid (∀ k (hk : k < Ls.length),shP Ls[k] = false → Ls.all shP = false) := fun k hk h => k'fg hk h;have HZ := i' (fun k (hk : k < Ls.length) j (hj : j < Ls[k].length) => hz _ (List.getElem_mem hk) _ (List.getElem_mem hj));generalize Ls.all shP = res at *;obtain ⟨n,hnn⟩ : ∃ n,n = Ls.length := ⟨_,rfl⟩;rw [← hnn] at hn ⊢;have HN := i' hnn;have H5 := i' h5;clear hnn h5 hz;go_enter Tryz.func11,Tryz.ntmps11;go_wp2;go_loopw [4,9] (fun _ iv wr => ∃ (wz : World) (k : Nat),wz = wr ∧ k ≤ n ∧ iv = .int .i64 (k : Int) ∧ Hid (∀ j (hj : j < Ls.length),j < k → shP Ls[j] = true) ∧ Hid (Below w.heap.size w wz))
  (fun _ iv _ => n - (intOf iv).toNat)
 case atStart => exact ⟨w,0,rfl,Nat.zero_le _,rfl,fun j _ hj => absurd hj (Nat.not_lt_zero _),Below.refl _ _⟩
 case round =>
  obtain ⟨wz,k,rfl,hk,rfl,hall,hbl⟩ := hrel;have hk0 : (0 : Int) ≤ (k : Int) := by omega
  by_cases hlt : k < n
  ·have hkl : k < Ls.length := by have h5 : n = Ls.length := HN.out; omega
   have hkk : (k : Int) < (n : Int) := by omega
   obtain ⟨u,g0,g1⟩ := H5.out k hkl;have c0 := k'4i hbl.out g0;have HZk := i' (HZ.out k hkl);obtain ⟨L,hL⟩ : ∃ L,L = Ls[k] := ⟨_,rfl⟩;have hR : Hid (shP L = true → ∀ j (hj : j < Ls.length),j < k + 1 → shP Ls[j] = true) := by
    intro hs j hj hjk;rcases Nat.lt_or_ge j k with g | g
    ·exact hall.out j hj g
    ·obtain rfl : j = k := by omega
     rw [← hL]; exact hs
   have hF := i' (HF.out k hkl);rw [← hL] at g1 hF HZk;have hlen := g1.len;obtain ⟨pu,bu,ou,cu,rfl,-,-,g4,g5⟩ := g1;have G4 := i' g4;have G5 := i' g5;have HLO : Hid (shP L = true → lenOK L = true) := fun h => by unfold shP at h; rw [Bool.and_eq_true] at h; exact h.1
   have HSZ : Hid (∀ j (hj : j < L.length),¬ L[j].2.size ≤ 16 → shP L = false) := fun j hj h => by
    unfold shP;rw [k'et (p := fun x => decide (x.2.size ≤ 16)) hj (decide_eq_false h),Bool.and_false]
   have HOK : Hid (lenOK L = true → (∀ j (hj : j < L.length),L[j].2.size ≤ 16) → shP L = true) := fun h h2 => by
    unfold shP;rw [h,k'eu (p := fun x => decide (x.2.size ≤ 16)) fun j hj => decide_eq_true (h2 j hj)]; rfl
   obtain ⟨ll,hll⟩ : ∃ ll,ll = L.length := ⟨_,rfl⟩;have HLL := i' hll;rw [← hll] at hlen c0;clear hall g0 hL g4 g5 hkl;by_cases hlo : ll ≤ 14 ∨ ll = 26
   ·have HLo : Hid (lenOK L = true) := by show _ = _; unfold lenOK; rw [← hll]; exact decide_eq_true hlo
    have hl26 : ll ≤ 26 := by omega
    have q1 : (ll : Int) ≤ 14 ∨ (14 < (ll : Int) ∧ ((ll : Int) != 26) = false) := by
     rcases Nat.lt_or_ge 14 ll with g | g
     ·right; exact ⟨by omega,by simp; omega⟩
     ·left; omega
    clear hll hlo;rcases q1 with q1 | ⟨q1,q2⟩
    all_goals
     go_wp2;go_loopw [6,23] (fun _ iv wq => ∃ (wy : World) (i : Nat),wy = wq ∧ i ≤ ll ∧ iv = .int .i64 (i : Int) ∧ Hid (∀ j (hj : j < L.length),j < i → L[j].2.size ≤ 16) ∧ Hid (Below w.heap.size w wy))
      (fun _ iv _ => ll - (intOf iv).toNat)
     case atStart => exact ⟨wz,0,rfl,Nat.zero_le _,rfl,fun j _ hj => absurd hj (Nat.not_lt_zero _),hbl.out⟩
     case round =>
      clear hbl c0;obtain ⟨wy,i,rfl,hi,rfl,hsm,hbw⟩ := hrel;have hi0 : (0 : Int) ≤ (i : Int) := by omega
      by_cases hil : i < ll
      ·have hiL : i < L.length := by have h5 : ll = L.length := HLL.out; omega
       have hii : (i : Int) < (ll : Int) := by omega
       obtain rfl := G4.out (by intro e; rw [e] at hiL; exact absurd hiL (Nat.not_lt_zero _))
       have d0 := k'4i hbw.out (G5.out i hiL).1;have d1 := k'4i hbw.out (G5.out i hiL).2;have hsz := HZk.out i hiL;have HSi := i' (HSZ.out i hiL);have HSn : Hid (L[i].2.size ≤ 16 → ∀ j (hj : j < L.length),j < i + 1 → L[j].2.size ≤ 16) := by
        intro hs j hj hjk;rcases Nat.lt_or_ge j i with g | g
        ·exact hsm.out j hj g
        ·obtain rfl : j = i := by omega
         exact hs
       generalize L[i].1 = bb at *;generalize L[i].2 = ss at *;have HB2 := i' (hbw.out.alloc hbw.out.size (.cells #[.bool bb,.string ss] 44));clear hsm hiL;by_cases h16 : ss.size ≤ 16
       ·have HSn := i' (HSn.out h16)
        have h16i : (ss.size : Int) ≤ 16 := by omega
        clear h16 HSi;go_wp2;go_roundw
        case rel => exact ⟨_,i + 1,rfl,by omega,by go_num,HSn.out,HB2.out⟩
        case measure => simp [intOf]; omega
       ·have HFi := i' (hF.out (HSi.out h16))
        have h16i : (16 : Int) < (ss.size : Int) := by omega
        clear h16 HSi HSn;go_wp2;go_ret;exact ⟨by rw [HFi.out]; rfl,HB2.out⟩
      ·obtain rfl : i = ll := by omega
       have HR := i' (hR.out (HOK.out HLo.out (fun j hj => hsm.out j hj (by have h5 : i = L.length := HLL.out; omega))))
       clear hsm;go_wp2;go_roundw
       case rel => exact ⟨_,k + 1,rfl,by omega,by go_num,HR.out,hbw.out⟩
       case measure => simp [intOf]; omega
   ·have HFk : Hid (res = false) := hF.out (by
     cases hs : shP L with
     | false => rfl
     | true =>
      have h5 := HLO.out hs;unfold lenOK at h5;rw [← hll] at h5;exact absurd (of_decide_eq_true h5) hlo)
    have q1 : (14 : Int) < (ll : Int) := by omega
    have q2 : ((ll : Int) != 26) = true := by simp; omega
    clear hll hlo;go_wp2;go_ret;exact ⟨by rw [HFk.out]; rfl,hbl.out⟩
  ·have HA : Hid (res = true) := HT.out (fun j hj => hall.out j hj (by have h5 : n = Ls.length := HN.out; omega))
   obtain rfl : k = n := by omega
   clear hall;go_wp2;go_ret;exact ⟨by rw [HA.out]; rfl,hbl.out⟩
theorem k'fk {L : List (Bool × ByteArray)} (h : shP L = true) : Small L := by
 intro x hx;unfold shP at h;rw [Bool.and_eq_true,List.all_eq_true] at h;have := h.2 x hx;simp only [decide_eq_true_eq] at this;omega
theorem k'fl {L : List (Bool × ByteArray)} (h : shP L = true) : ∀ x ∈ L,x.2.size ≤ 16 := by
 intro x hx;unfold shP at h;rw [Bool.and_eq_true,List.all_eq_true] at h;have := h.2 x hx;simpa only [decide_eq_true_eq] using this
def RpPost (p : List Int) (w : World) (e : Ending) (w' : World) : Prop := ∃ v,e = .returned v ∧ Rp w' v p ∧ Below w.heap.size w w'
theorem k'fo (v : Value) (xs : List Int) (w : World) (h : Rp w v xs) (ht : ∀ a ∈ xs,a.natAbs < Top) : Calls Tryz.prog 86 #[v] w (RpPost (Pl.trim xs) w) := by
 have HRP := i' h;obtain ⟨p,b,off,cap,rfl,h2,h3,h4,h6⟩ := h.open_;have hc := h3;unfold maxLen at hc;have hl : xs.length ≤ 9223372036854775807 := by omega
 have HT := i' ht;have H4 := i' h4;have H6 := i' h6;have H23 := i' (And.intro h2 h3);clear h h2 h3 h4 h6 hc ht;go_enter Tryz.func86,Tryz.ntmps86;go_wp2;go_loopw [0] (fun v wr => ∃ (wz : World) (k : Nat),wz = wr ∧ k ≤ xs.length ∧ v = .slice p k cap ∧ Hid (∀ i (h : i < xs.length),k ≤ i → xs[i] = 0) ∧ Hid (Below w.heap.size w wz)) (fun v _ => lenOf v)
 case atStart => exact ⟨w,xs.length,rfl,Nat.le_refl _,rfl,fun i h hi => absurd h (by omega),Below.refl _ _⟩
 case round =>
  obtain ⟨wz,k,rfl,hk,rfl,hz,hbl⟩ := hrel;have hgive : ∀ n,n ≤ xs.length → Pl.trim xs = xs.take n → Rp wz (.slice p n cap) (Pl.trim xs) := by
   intro n hn e;rw [e];have h1 := (Rw.take (HRP.out.below hbl.out) n hn);rwa [k'e8] at h1
  have HG := i' hgive;clear hgive;rcases Nat.eq_zero_or_pos k with h0 | h0
  ·subst h0
   have e0 : Hid (Pl.trim xs = xs.take 0) := Pl.trim_take (Nat.zero_le _) (fun i h _ => hz.out i h (Nat.zero_le _)) (by rw [List.take_zero]; exact Pl.nrm_nil)
   go_wp2;go_ret;exact ⟨_,rfl,HG.out 0 (Nat.zero_le _) e0.out,hbl.out⟩
  ·obtain ⟨j,rfl⟩ : ∃ j,k = j + 1 := ⟨k - 1,by omega⟩
   have hj : j < xs.length := by omega
   obtain rfl := H4.out (by intro e; rw [e] at hj; exact absurd hj (Nat.not_lt_zero _))
   have c0 := k'4i hbl.out (H6.out j hj).1;have c1 := k'4i hbl.out (H6.out j hj).2;have HS := i' (fun w => k'dp xs[j] w (HT.out _ (List.getElem_mem hj)));have hjc : j ≤ cap := by have := H23.out.1; omega
   by_cases hv : xs[j] = 0
   ·have HV := i' hv
    rw [hv] at HS c0 c1;have e0 : Hid ((0 : Int).sign = 0) := rfl;rw [e0.out] at HS;clear hv e0;go_wp2_with fail;refine (HS.out _).mono ?_;rintro e w5 ⟨rfl,b5⟩;have HB2 := i' (k'4h hbl.out b5);clear b5 c0 c1;go_wp2;go_roundw
    case rel =>
     refine ⟨_,j,rfl,by omega,rfl,fun i h hi => ?_,HB2⟩
     rcases Nat.lt_or_ge j i with g | g
     ·exact hz.out i h g
     ·obtain rfl : i = j := by omega
      exact HV.out
    case measure => simp [lenOf]
   ·have e0 : Hid (Pl.trim xs = xs.take (j + 1)) := Pl.trim_take hk hz.out (Pl.nrm_take_last hj hv)
    have hsg : (xs[j].sign == 0) = false := by simpa [Int.sign_eq_zero_iff_zero] using hv
    have HGV := i' (HG.out (j + 1) hk e0.out);clear hv;generalize xs[j].sign = sv at *;go_wp2_with fail;refine (HS.out _).mono ?_;rintro e w5 ⟨rfl,b5⟩;have HB2 := i' (k'4h hbl.out b5);have HB3 := i' b5;clear b5 c0 c1;go_wp2;go_ret;exact ⟨_,rfl,HGV.out.below HB3.out,HB2.out⟩
theorem k'fp (c : Nat) (p : Option Addr) (n cap : Nat) (w : World) (hc : Ck w c 0) :
 Calls Tryz.prog 80 #[.pointer (some ⟨c,0,none⟩),.slice p n cap] w (Ret (.tuple #[.slice p n cap,.int .i64 0]) w) := by
 have c0 := hc.cell;clear hc;go_enter Tryz.func80,Tryz.ntmps80;go_wp2;go_ret2;exact ⟨rfl,Below.refl _ _⟩
theorem k'fq (c : Nat) (v : Value) (e : Int) (he : e ≠ 0) (w : World) (hc : Ck w c e) :
 Calls Tryz.prog 80 #[.pointer (some ⟨c,0,none⟩),v] w (Ret (.tuple #[.slice none 0 0,.int .i64 e]) w) := by
 have c0 := hc.cell;have h0 : (e == 0) = false := by simpa using he
 have h1 : (e != 0) = true := by simpa using he
 clear hc he;go_enter Tryz.func80,Tryz.ntmps80;go_wp2;go_quiet (fail);go_wp2;go_ret2;exact ⟨rfl,k'e9 (Below.refl _ _) _⟩
theorem k'fr (c : Nat) (a : Bool) (s : ByteArray) (w : World) (hc : Ck w c 0) :
 Calls Tryz.prog 90 #[.pointer (some ⟨c,0,none⟩),.agg #[.bool a,.string s]] w (Ret (.tuple #[.agg #[.bool a,.string s],.int .i64 0]) w) := by
 have hl := hc.lt;have c0 := hc.cell;have n1 : ¬ w.heap.size = c := by omega
 have n2 : ¬ c = w.heap.size := by omega
 have n3 : ¬ w.heap.size + 1 = c := by omega
 have n4 : ¬ c = w.heap.size + 1 := by omega
 clear hc;go_enter Tryz.func90,Tryz.ntmps90;go_wp2;exact bodyPost_ret (v := .tuple #[.agg #[.bool a,.string s],.int .i64 0]) (by simp [results,Tryz.results90,go_sem]) rfl ⟨rfl,((Below.refl _ _).alloc (Nat.le_refl _) _).alloc (by simp) _⟩
theorem k'fs (c : Nat) (x : Int) (w : World) (hc : Ck w c 0) :
 Calls Tryz.prog 103 #[.pointer (some ⟨c,0,none⟩),.int .i64 x] w (Ret (.tuple #[.int .i64 x,.int .i64 0]) w) := by
 have c0 := hc.cell;clear hc;go_enter Tryz.func103,Tryz.ntmps103;go_wp2;go_ret2;exact ⟨rfl,Below.refl _ _⟩
end Go.Proofs.YtepddegphdlbeaaGreat
namespace Go.Proofs.YtepddegphdlbeaaGreat
open Go.RowKit Go.Shelf
attribute [local go_sem] Oper.semAt_some
structure Bn (c n₀ : Nat) (w w' : World) : Prop where
 os : w'.os = w.os
 tape : w'.tape = w.tape
 output : w'.output = w.output
 size : w.heap.size ≤ w'.heap.size
 block : ∀ k,k < n₀ → k ≠ c → w'.heap[k]? = w.heap[k]?
theorem Bn.refl (c n₀ : Nat) (w : World) : Bn c n₀ w w := ⟨rfl,rfl,rfl,Nat.le_refl _,fun _ _ _ => rfl⟩
theorem Bn.trans {c n₀ : Nat} {u v w : World} (h : Bn c n₀ u v) (k : Bn c n₀ v w) : Bn c n₀ u w :=
 ⟨k.os.trans h.os,k.tape.trans h.tape,k.output.trans h.output,Nat.le_trans h.size k.size,fun i hi hn => (k.block i hi hn).trans (h.block i hi hn)⟩
theorem Bn.of_but {c n₀ : Nat} {w w' : World} (h : But c w w') (hn : n₀ ≤ w.heap.size) : Bn c n₀ w w' := ⟨h.os,h.tape,h.output,h.size,fun k hk hc => h.block k (by omega) hc⟩
theorem Bn.of_below {c n₀ : Nat} {w w' : World} (h : Below n₀ w w') : Bn c n₀ w w' := ⟨h.os,h.tape,h.output,h.size,fun k hk _ => h.block k hk⟩
theorem Bn.cell {c n₀ : Nat} {w w' : World} (h : Bn c n₀ w w') {a : Addr} (hb : a.block < n₀) (hn : a.block ≠ c) : w'.cell? a = w.cell? a := World.cell?_of_block (h.block a.block hb hn)
theorem Bn.new {c n₀ : Nat} {a b : World} (h : Bn c n₀ a b) {p : Addr} (hp : n₀ ≤ p.block) (v : Value) : Bn c n₀ a (b.setCell p v) :=
 ⟨h.os,h.tape,h.output,by simpa [World.setCell] using h.size,fun k hk hn => (Below.heap_setCell _ _ _ _ (by omega)).trans (h.block k hk hn)⟩
theorem Bn.alloc {c n₀ : Nat} {a b : World} (h : Bn c n₀ a b) (hn : n₀ ≤ b.heap.size) (o : Obj) : Bn c n₀ a (b.alloc o) := h.trans (Bn.of_below ((Below.refl _ _).alloc hn o))
theorem Bn.below {c n₀ : Nat} {w w' : World} {e : Int} (h : Bn c n₀ w w') (h1 : Ck w c e) (h2 : Ck w' c e) : Below n₀ w w' :=
 ⟨h.os,h.tape,h.output,h.size,fun k hk => by
  by_cases e : k = c
  ·subst e; exact h2.trans h1.symm
  ·exact h.block k hk e⟩
theorem k'fu {c n₀ : Nat} {w : World} (hn : n₀ ≤ w.heap.size) : ∀ (W : World) (l : Nat) (o o' : Obj),w.heap.size ≤ l → W.heap[l]? = some o → o.isCells = false → o.isWalk = false → Bn c n₀ W (W.putObj l o') :=
 fun W l o o' hl h1 h2 h3 => Bn.of_below (belowK_b hn W l o o' hl h1 h2 h3)
theorem k'fv {β : Type} {c n₀ B : Nat} {w₀ : World} (hn : n₀ ≤ w₀.heap.size) (hB : n₀ ≤ B) : OwnFrom B (fun (_ : β) W => Bn c n₀ w₀ W) :=
 fun _ W W' row hs hg hr => hs.trans ⟨hg.os,hg.tape,hg.output,hg.size,fun k hk hc => hg.block k (by have := hs.size; omega) (fun e => by have := (hr k e.symm).1; omega)⟩
structure Bk (c n₀ Bs : Nat) (w w' : World) : Prop where
 bn : Bn c n₀ w w'
 box : w'.heap[Bs]? = w.heap[Bs]?
theorem Bk.refl (c n₀ Bs : Nat) (w : World) : Bk c n₀ Bs w w := ⟨Bn.refl _ _ _,rfl⟩
theorem Bk.trans {c n₀ Bs : Nat} {u v w : World} (h : Bk c n₀ Bs u v) (k : Bk c n₀ Bs v w) : Bk c n₀ Bs u w := ⟨h.bn.trans k.bn,k.box.trans h.box⟩
theorem Bk.of_but {c n₀ Bs : Nat} {w w' : World} (h : But c w w') (hn : n₀ ≤ w.heap.size) (hB : Bs < w.heap.size) (hc : Bs ≠ c) : Bk c n₀ Bs w w' := ⟨Bn.of_but h hn,h.block Bs hB hc⟩
theorem Bk.new {c n₀ Bs : Nat} {a b : World} (h : Bk c n₀ Bs a b) {p : Addr} (hp : n₀ ≤ p.block) (hB : Bs ≠ p.block) (v : Value) : Bk c n₀ Bs a (b.setCell p v) := ⟨h.bn.new hp v,(Below.heap_setCell _ _ _ _ hB).trans h.box⟩
theorem Bk.alloc {c n₀ Bs : Nat} {a b : World} (h : Bk c n₀ Bs a b) (hn : n₀ ≤ b.heap.size) (hB : Bs < b.heap.size) (o : Obj) : Bk c n₀ Bs a (b.alloc o) := ⟨h.bn.alloc hn o,(Below.heap_alloc _ _ _ hB).trans h.box⟩
theorem k'fw {c n₀ Bs : Nat} : ∀ {A B C : World},Bk c n₀ Bs A B → Bk c n₀ Bs B C → Bk c n₀ Bs A C := fun h k => h.trans k
theorem k'fx {c n₀ Bs : Nat} {w : World} (hn : n₀ ≤ w.heap.size) (hB : Bs < w.heap.size) : ∀ (W : World) (l : Nat) (o o' : Obj),w.heap.size ≤ l → W.heap[l]? = some o → o.isCells = false → o.isWalk = false → Bk c n₀ Bs W (W.putObj l o') :=
 fun W l o o' hl h1 h2 h3 => ⟨k'fu hn W l o o' hl h1 h2 h3,World.putObj_heap_other (by omega)⟩
def dn (n : Nat) : (k : Nat) → k ≤ n → List (Fin n)
 | 0,_ => []
 | k + 1,h => dn n k (by omega) ++ [⟨n - 1 - k,by omega⟩]
theorem k'fy (n k : Nat) (h : k ≤ n) : (dn n k h).length = k := by
 induction k with
 | zero => rfl
 | succ k ih => simp [dn,ih]
def encw (p : List Int) (i : Fin p.length) : Array Value := #[.int .i64 (i.val : Int),Z p[i.val]]
theorem k'fz (Kp : World → World → Prop) (hrefl : ∀ W,Kp W W) (htrans : ∀ {A B C : World},Kp A B → Kp B C → Kp A C) (F : Fence) (n : Nat) (hf : F.fn 145) (hro : F.round = none) (hn : 1 ≤ n) (l Bs b off cap len : Nat) (a : Option Addr) (p : List Int) (hlp : len = p.length) (hlen : len ≤ 100) (ha : 0 < len → a = some ⟨b,off,none⟩) (hkeep : ∀ W W',Kp W W' → ∀ a : Addr,(a.block = Bs ∨ (0 < len ∧ a.block = b)) → W'.cell? a = W.cell? a) (J Jx : List (Fin p.length) → World → Prop)
 (hY : ∀ pre x W,J pre W → pre.length < len → YieldAt F (n - 1) Tryz.prog l (encw p x) W fun e W' =>
  (e = .returned (.bool true) ∧ J (pre ++ [x]) W' ∧ Kp W W') ∨ (e = .returned (.bool false) ∧ Jx (pre ++ [x]) W'))
 (W : World) (hBs : W.cell? ⟨Bs,0,none⟩ = some (.slice a len cap)) (hc : ∀ j (hj : j < p.length),W.cell? ⟨b,off + j * 2,none⟩ = some (.bool (zb p[j])) ∧ W.cell? ⟨b,off + j * 2 + 1,none⟩ = some (.string (zs p[j]))) (h0 : J [] W) :
 CallsIn F n Tryz.prog 145 #[.func (.yield l) #[] #[],.pointer (some ⟨Bs,0,none⟩)] W fun e W' => (∃ v,e = .returned v) ∧
  ((∃ ys,ys = dn p.length p.length (Nat.le_refl _) ∧ J ys W') ∨ (∃ pre,(∃ k h,pre = dn p.length k h) ∧ Jx pre W')) := by
 refine callsIn_of_wp Tryz.func145 rfl hf ?_ hro;simp only [Tryz.ntmps145,List.size_toArray,List.length_cons,List.length_nil,Nat.reduceAdd,Nat.reduceSub,Array.replicate_succ,Array.replicate_zero,List.push_toArray,List.append_toArray,List.nil_append,List.cons_append];have HC := i' hc;have HBs := i' hBs;have HLP := i' hlp;have HAA := i' ha;clear hc hlp ha
 gi_wp2
 clear hBs
 gi_loopw [3] (fun i wr => ∃ (j k : Nat) (hk : k ≤ p.length),Hid (j + k = p.length) ∧ j ≤ len ∧ i = .int .i64 ((j : Int) - 1) ∧ Hid (J (dn p.length k hk) wr) ∧ Hid (Kp W wr))
  (fun i _ => (intOf i + 1).toNat)
 case atStart => exact ⟨len,0,Nat.zero_le _,HLP.out,Nat.le_refl _,rfl,h0,hrefl _⟩
 case round =>
  obtain ⟨j,k,hk,hjk,hjl,rfl,hJs,hnx⟩ := hrel;have hBs := (hkeep _ _ hnx.out ⟨Bs,0,none⟩ (Or.inl rfl)).trans HBs.out;rcases Nat.eq_zero_or_pos j with h0 | h0
  ·subst h0
   have e : k = p.length := by have := hjk.out; omega
   subst e
   gi_wp2
   go_end0;exact ⟨⟨_,rfl⟩,.inl ⟨_,rfl,hJs.out⟩⟩
  ·obtain ⟨i,rfl⟩ : ∃ i,j = i + 1 := ⟨j - 1,by omega⟩
   have hip : i < p.length := by have := hjk.out; omega
   have hlen0 : 0 < len := by omega
   obtain rfl := HAA.out hlen0;have c0 := (hkeep _ _ hnx.out ⟨b,off + i * 2,none⟩ (Or.inr ⟨hlen0,rfl⟩)).trans (HC.out i hip).1;have c1 := (hkeep _ _ hnx.out ⟨b,off + i * 2 + 1,none⟩ (Or.inr ⟨hlen0,rfl⟩)).trans (HC.out i hip).2;obtain ⟨fn,tmps,assign,body,hy,hR⟩ := hY _ ⟨i,hip⟩ wr hJs.out (by rw [k'fy]; have := HLP.out; have := hjk.out; omega)
   unfold encw at hy
   dsimp only at hy
   rw [show ((i + 1 : Nat) : Int) - 1 = (i : Int) by omega]
   have hil : i < len := by omega
   have hdn : Hid (∃ h,dn p.length k hk ++ [⟨i,hip⟩] = dn p.length (k + 1) h) := ⟨by have := hjk.out; omega,by
    have e : (⟨i,hip⟩ : Fin p.length) = ⟨p.length - 1 - k,by have := hjk.out; omega⟩ := Fin.ext (by have := hjk.out; simp only; omega)
    rw [dn,e]⟩
   obtain ⟨hk1,hdn2⟩ := hdn.out;have HDN := i' hdn2;clear hdn2
   gi_wp2
   refine hR.mono ?_;rintro e W3 (⟨rfl,hJ3,hk3⟩ | ⟨rfl,hJx3⟩)
   ·rw [HDN.out] at hJ3
    have HJ3 := i' hJ3;have HK3 := i' (htrans hnx.out hk3);clear hJ3 hk3 hBs
    gi_wp2
    go_roundw
    case rel => exact ⟨i,k + 1,hk1,by show _ = _; have := hjk.out; omega,by omega,rfl,HJ3.out,HK3.out⟩
    case measure => simp [intOf]
   ·rw [HDN.out] at hJx3
    have HJ3 := i' hJx3;clear hJx3 hBs
    gi_wp2
    refine bodyPost_ret (results_none rfl _ _ _) rfl ?_;exact ⟨⟨_,rfl⟩,.inr ⟨_,⟨k + 1,hk1,rfl⟩,HJ3.out⟩⟩
theorem k'g0 (F : Fence) (n : Nat) (h5 : F.fn 132) (hro : F.round = none) (a : Option Addr) (len cap : Nat) (w : World) :
 CallsIn F n Tryz.prog 132 #[.slice a len cap] w fun e w' => e = .returned (.func (.func 145) #[] #[.pointer (some ⟨w.heap.size,0,none⟩)]) ∧ w' = w.alloc (.cells #[.slice a len cap] 23) := by
 refine callsIn_of_wp Tryz.func132 rfl h5 ?_ hro;simp only [Tryz.ntmps132,List.size_toArray,List.length_cons,List.length_nil,Nat.reduceAdd,Nat.reduceSub,Array.replicate_succ,Array.replicate_zero,List.push_toArray,List.append_toArray,List.nil_append,List.cons_append]
 gi_wp2
 go_ret;exact ⟨rfl,rfl⟩
theorem k'g1 (Kp : World → World → Prop) (hrefl : ∀ W,Kp W W) (htrans : ∀ {A B C : World},Kp A B → Kp B C → Kp A C) (F : Fence) (n : Nat) (hf : F.fn 145) (hro : F.round = none) (hn : 1 ≤ n) (Bs b off len cap : Nat) (a : Option Addr) (p : List Int) (hlen : p.length ≤ 100) (w : World) (hlp : len = p.length) (hBs : Bs < w.heap.size)
 (hc : w.cell? ⟨Bs,0,none⟩ = some (.slice a len cap)) (ha : 0 < len → a = some ⟨b,off,none⟩) (hp : ∀ j (hj : j < p.length),w.cell? ⟨b,off + j * 2,none⟩ = some (.bool (zb p[j])) ∧ w.cell? ⟨b,off + j * 2 + 1,none⟩ = some (.string (zs p[j])))
 (hkeep : ∀ W W',Kp W W' → ∀ a : Addr,(a.block = Bs ∨ (0 < len ∧ a.block = b)) → W'.cell? a = W.cell? a) :
 SeqStopsK F n Tryz.prog 145 #[.pointer (some ⟨Bs,0,none⟩)] (encw p) Kp (fun ys => ys = dn p.length p.length (Nat.le_refl _)) (fun pre => ∃ k h,pre = dn p.length k h) p.length w := fun l J Jx W hW _ _ hY h0 => by
 subst hlp;refine k'fz Kp hrefl htrans F n hf hro hn l Bs b off cap p.length a p rfl hlen ha hkeep J Jx hY W ((hW.cell (p := ⟨Bs,0,none⟩) hBs).trans hc) (fun j hj => ?_) h0;exact ⟨k'e hW (hp j hj).1,k'e hW (hp j hj).2⟩
end Go.Proofs.YtepddegphdlbeaaGreat
namespace Go.Proofs.YtepddegphdlbeaaGreat
open Go.RowKit
def Roomy (Q : Exit → Act → World → Prop) (e : Exit) (a : Act) (w : World) : Prop := e ≠ .outgrown ∧ (∀ c,e ≠ .panic c) ∧ Q e a w
theorem k'g2 {Q : Exit → Act → World → Prop} : ¬ LetsOut (Roomy Q) := fun ⟨_,_,h,_⟩ => h rfl
theorem k'g3 {n : Nat} {P : Program} {row : String} {args : Array Value} {w : World} {R : Value → World → Prop} (h : Rows P row args w R) : RowsIn Fence.wide n P row args w R :=
 fun c cs _ => let ⟨v,w',r,s⟩ := h c cs; ⟨v,w',r,stepsIn_wide.2 s⟩
theorem k'g4 {n l : Nat} {P : Program} {o : Oper} {a : Act} {K : Act → World → Prop} {Q : Exit → Act → World → Prop} {r : Result Next} (h : o.upon P a K (Roomy Q) r) : o.uponIn (Fence.wide.inRound l) n P a K Q r := by
 cases r with
 | ok nx w' =>
  cases nx with
  | value v => exact h
  | skip => exact h
  | defer d => exact h
  | enter f args =>
   refine ⟨(by intro hd; cases hd),CallsIn.inRound l (callsIn_wide.2 (Calls.mono h ?_))⟩
   intro e w'' he
   cases e with
   | returned v => exact he
   | panicked k'4h => exact absurd rfl (he.2.1 k'4h)
   | outgrown => exact absurd he k'g2
  | row row args => exact ⟨(by intro hd; cases hd),k'g3 h⟩
  | _ => exact h.elim
 | halt hh w' =>
  cases hh with
  | panic v => exact absurd rfl (h.2.1 _)
  | _ => exact h.elim
theorem k'g5 {n l : Nat} {P : Program} {ops : Array Oper} {Q : Exit → Act → World → Prop} (hdef : ∀ (i : Nat) (o : Oper),ops[i]? = some o → ∀ c : Call,o.op ≠ Op.defer c) {i : Nat} {K : Act → World → Prop} {a : Act} {w : World}
 (h : wpOp P ops (Roomy Q) i K a w) : wpOpIn (Fence.wide.inRound l) n P ops Q i K a w := by
 unfold wpOp at h;unfold wpOpIn
 cases ho : ops[i]? with
 | none => rw [ho] at h; exact h
 | some o =>
  rw [ho] at h;simp only at h ⊢
  split
  ·next hw =>
   rw [if_pos hw] at h;rcases h with h | ⟨_,h⟩
   ·refine ⟨fun _ _ => trivial,?_⟩
    rw [show o.semAt (Fence.wide.inRound l).round a.eval = execOp a.eval o from Oper.semAt_some l _ _ (hdef i o ho)];exact k'g4 h
   ·exact absurd h k'g2
  ·next hw =>
   rw [if_neg hw] at h;exact ⟨fun _ _ => trivial,h⟩
theorem k'g6 {n l : Nat} {P : Program} {ops : Array Oper} {Q : Exit → Act → World → Prop} {S : World → Prop} {md : Region.Mode} (hdef : ∀ (i : Nat) (o : Oper),ops[i]? = some o → ∀ c : Call,o.op ≠ Op.defer c) :
 ∀ (fuel : Nat) (listed : Array Bool) (a : Act) (w : World),wpAnyH P md ops (Roomy Q) S fuel listed a w → wpAnyIn (Fence.wide.inRound l) n P md ops Q fuel listed a w
 | 0,_,_,_,h => ⟨h.1,h.2.2.2⟩
 | fuel + 1,_,_,_,h => ⟨fun e => (h.1 e).2.2,fun i hi => k'g5 hdef (wpOp_mono (fun a' w' h' => k'g6 hdef fuel _ a' w' h'.2) (h.2 i hi))⟩
theorem k'g7 {n l id : Nat} {P : Program} {ops : Array Oper} {Q : Exit → Act → World → Prop} {S : World → Prop} {a : Act} {w : World} (hm : P.follows .mixedOrders = true) (hdef : ∀ (i : Nat) (o : Oper),ops[i]? = some o → ∀ c : Call,o.op ≠ Op.defer c) (hS : S w.drew)
 (h : S w.drew → wpAnyH P .any ops (Roomy Q) S ops.size (Array.replicate ops.size false) a w.drew) : (Code.region id ops true).wpIn (Fence.wide.inRound l) n P Q a w :=
 wpIn_region_any hm (k'g6 hdef ops.size _ a _ (h hS))
theorem k'g8 {Q : Exit → Act → World → Prop} {f : Act → Act} : ∀ c a w,Roomy Q (.panic c) (f a) w → Roomy Q (.panic c) a w := fun c _ _ h => absurd rfl (h.2.1 c)
theorem k'g9 {Q : Exit → Act → World → Prop} {a : Act} {w : World} (h : Q .normal a w) : Roomy Q .normal a w := ⟨(by intro h; cases h),(by intro c h; cases h),h⟩
def OwnPoly (p : List Int) (w : World) (e : Ending) (w' : World) : Prop :=
 ∃ (a : Option Addr) (n cap : Nat),e = .returned (.slice a n cap) ∧ Rp w' (.slice a n cap) p ∧ (p ≠ [] → ∃ g,a = some ⟨g,0,none⟩ ∧ w.heap.size ≤ g ∧ Aw w' g p) ∧ Below w.heap.size w w'
theorem k'ga (p : List Int) : ∀ u ∈ wv p,u.oneCell' = true := by
 intro u hu;obtain ⟨z,_,hz⟩ := List.mem_flatMap.1 hu;simp only [List.mem_cons,List.not_mem_nil,or_false] at hz;rcases hz with rfl | rfl <;> rfl
theorem k'gb {w w' : World} {v : Value} {p : List Int} (h : w'.ownsRow w.heap.size 44 2 v p.length (wv p)) (hb : Below w.heap.size w w') : OwnPoly p w (.returned v) w' := by
 rcases h.2 with ⟨rfl,h0⟩ | ⟨g,cap,cur,rfl,hB,hg,hn,hm,hs,ht⟩
 ·obtain rfl := List.eq_nil_of_length_eq_zero h0
  exact ⟨none,0,0,rfl,Rw.nil w',fun h => absurd rfl h,hb⟩
 ·have ha : Aw w' g p := ⟨cur.toList.drop (p.length * 2),by rw [← ht,List.take_append_drop]; simpa using hg⟩
  exact ⟨_,_,_,rfl,Rp.of_whole ha _ _ rfl hn hm,fun _ => ⟨g,rfl,hB,ha⟩,hb⟩
theorem k'gc {w : World} {b off : Nat} {p : List Int} (h : ∀ k (hk : k < p.length),w.cell? ⟨b,off + k * 2,none⟩ = some (.bool (zb p[k])) ∧ w.cell? ⟨b,off + k * 2 + 1,none⟩ = some (.string (zs p[k]))) :
 ∀ j u,(wv p)[j]? = some u → w.cell? ((⟨b,off,none⟩ : Addr).add j) = some u := by
 intro j u hu;have hadd : ((⟨b,off,none⟩ : Addr).add j) = ⟨b,off + j,none⟩ := by unfold Addr.add; split <;> simp_all
 rw [hadd];have hj : j < p.length * 2 := by
  rcases Nat.lt_or_ge j (p.length * 2) with g | g
  ·exact g
  ·rw [List.getElem?_eq_none (by rw [k'e3]; exact g)] at hu; cases hu
 have hk : j / 2 < p.length := by omega
 obtain ⟨g1,g2⟩ := k'e5 p (j / 2) hk;obtain ⟨h1,h2⟩ := h (j / 2) hk;rcases Nat.mod_two_eq_zero_or_one j with e | e
 ·have e2 : j / 2 * 2 = j := by omega
  rw [e2] at g1 h1;rw [hu] at g1;rw [h1]; exact g1.symm
 ·have e2 : j / 2 * 2 + 1 = j := by omega
  rw [e2] at g2;rw [Nat.add_assoc,e2] at h2;rw [hu] at g2;rw [h2]; exact g2.symm
theorem k'gd (p : List Int) (v : Value) (w : World) (h : Rp w v p) (hl : p.length ≤ 100) : Calls Tryz.prog 125 #[v] w (OwnPoly p w) := by
 obtain ⟨a,b,off,cap,rfl,h2,h3,h4,h5⟩ := h.open_;have hi : (Tryz.prog.info? 44).map (fun i => (i.zero,i.size,i.bytes)) = some (some (.agg #[.bool false,.string ⟨#[]⟩]),2,24) := by kernel_rfl
 obtain ⟨i0,hi0,hz0,hs0,hb0⟩ := info_parts hi;have HI := i' (And.intro hi0 (And.intro hz0 (And.intro hs0 hb0)));have qT : ∀ (w : World) (a : Option Addr) (n c n' c' : Nat),(binOp .eql 23 (.slice a n c) (.slice none n' c')).run Tryz.prog w = .ok (.bool a.isNone) w := fun w a n c n' c' => Lib.run_eql_slice_nil w _ _ a n c n' c' Tryz.underlying23;have HP := i' h;clear hi hi0 hz0 hs0 hb0 h
 cases a with
 | none =>
  obtain rfl : p = [] := by
   rcases p with _ | ⟨x,p⟩
   ·rfl
   ·exact absurd (h4 (by simp)) (by simp)
  have q2 : (none : Option Addr).isNone = true := rfl;clear h2 h3 h4 h5;go_enter Tryz.func125,Tryz.ntmps125;go_wp2;go_ret;exact ⟨none,0,0,rfl,Rw.nil w,fun h => absurd rfl h,Below.refl _ _⟩
 | some ad =>
  have hat : Hid (∀ j u,(wv p)[j]? = some u → w.cell? (ad.add j) = some u) := by
   intro j u hu;by_cases e : p = []
   ·subst e; cases hu
   ·obtain rfl := Option.some.inj (h4 e)
    exact k'gc h5 j u hu
  have q2 : (some ad).isNone = false := rfl;clear h2 h3 h4 h5 HP;have hown : Hid ((w.alloc (.cells #[] 44)).ownsRow w.heap.size 44 2 (.slice (some ⟨w.heap.size,0,none⟩) 0 0) 0 []) := World.ownsRow_made w #[] 0 (Nat.le_refl _) (by simp) (by simp)
  have hat2 : Hid (∀ j u,(wv p)[j]? = some u → (w.alloc (.cells #[] 44)).cell? (ad.add j) = some u) := fun j u hu => by
   have h6 := hat.out j u hu;exact k'e ((Below.refl _ _).alloc (Nat.le_refl _) _) h6
  go_enter Tryz.func125,Tryz.ntmps125;go_wp2_with (at_builtin; refine wpList_append_own _ rfl _ _ 23 rfl w.heap.size 44 i0 (.agg #[.bool false,.string ⟨#[]⟩]) 2 24 Tryz.underlying23 HI.out.1 HI.out.2.1 HI.out.2.2.1 HI.out.2.2.2 rfl (by decide) _ 0 [] rfl hown.out ad p.length cap (wv p) rfl (k'e3 p) hat2.out (k'ga p) ?dc3 ?dc4 ?dc5 ?_)
  case dc3 => unfold maxLen; omega
  case dc4 => omega
  case dc5 => simp
  intro v' w1 hown1 hgrow1 _;have hbl1 : Hid (Below w.heap.size w w1) := ((Below.refl _ _).alloc (Nat.le_refl _) _).grown hgrow1 (by simp) (fun q hq => (hown.out.lt q hq).1)
  have hown2 : w1.ownsRow w.heap.size 44 2 v' p.length (wv p) := by simpa only [Nat.zero_add,List.nil_append] using hown1
  have HO := i' (k'gb hown2 hbl1.out);clear hown2;clear hown1 hgrow1;go_wp2;go_ret;exact HO.out
end Go.Proofs.YtepddegphdlbeaaGreat
