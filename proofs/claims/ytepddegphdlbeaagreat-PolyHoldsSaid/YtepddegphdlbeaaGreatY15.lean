/- What the theorem leans on, part Y15. -/
import Derived.Test.YtepddegphdlbeaaGreatY13
import Derived.Test.YtepddegphdlbeaaGreatY12
import Derived.Test.YtepddegphdlbeaaGreatY11
import Derived.Test.YtepddegphdlbeaaGreatY10
import Derived.Test.YtepddegphdlbeaaGreatY7
import Derived.Test.YtepddegphdlbeaaGreatY4
import Derived.Test.YtepddegphdlbeaaGreatY3
import Derived.Test.YtepddegphdlbeaaGreatY2
import Derived.Test.YtepddegphdlbeaaGreatY1
import Derived.Test.YtepddegphdlbeaaGreatY0
import Derived.Test.YtepddegphdlbeaaGreatProg
import Derived.WalkKit
import Derived.WalkSpells
import Derived.WalkLawsBesides
import Derived.Lib.Hide
import Derived.Deep.QuietTactic
import Derived.BigQuiet
import Derived.Shelf.Small.Bits
import Derived.Shelf.Small.Wraps
import Derived.Shelf.Strconv.Itoa0
import Derived.Shelf.Bits.Mul64
import Derived.Ground.Names2Prog
import Derived.Shelf.Slices.SearchI
import Derived.Shelf.Spec.BitsCarry
import Derived.Deep.LoopGhost
import Derived.Deep.RegionHeld3
import Derived.Deep.DeepCutAuto
import Derived.Test.YtepddegphdlbeaaGreatY6
import Derived.Test.YtepddegphdlbeaaGreatY5
import Derived.Laws.AppendOwnNone
import Derived.Test.YtepddegphdlbeaaGreatY8
import Derived.Test.YtepddegphdlbeaaGreatY9
import Derived.Below
import Derived.RangeFuncNested
import Derived.RangeFuncBound
import Derived.RangeFuncCalls
import Derived.RangeFuncLeaves
import Derived.Shelf.Abstract
import Derived.Shelf.RegionOpen
import Derived.OwnWalkIn
import Derived.TacticsInMore
import Derived.LoopNIn
import Derived.LoopIn
import Derived.OrdersIn
import Derived.Deep.RegionHeld
import Derived.Maps.AppendAt
import Derived.Lib.SliceRun
import Derived.IntWalk
import Derived.Test.YtepddegphdlbeaaGreatY14
set_option maxRecDepth 100000
set_option maxHeartbeats 16000000
set_option linter.all false
namespace Go.Proofs.YtepddegphdlbeaaGreat
open Go.RowKit
def ResP (p : List Int) (w : World) (en : Ending) (w' : World) : Prop := ∃ v,en = .returned (.tuple #[v,.int .i64 0]) ∧ Rp w' v p ∧ Below w.heap.size w w'
abbrev ResE (e : Int) (w : World) : Ending → World → Prop := Ret (.tuple #[.slice none 0 0,.int .i64 e]) w
theorem k'ht {L : List (Bool × ByteArray)} {x : Bool × ByteArray} (h : x ∈ L) : lenV x.1 x.2 ≤ glb L := by
 have : ∀ (L : List (Bool × ByteArray)) (m : Int),m ≤ L.foldl (fun m x => max m (lenV x.1 x.2)) m ∧ ∀ x ∈ L,lenV x.1 x.2 ≤ L.foldl (fun m x => max m (lenV x.1 x.2)) m := by
  intro L
  induction L with
  | nil => intro m; exact ⟨Int.le_refl _,fun x h => absurd h (by simp)⟩
  | cons y L ih =>
   intro m;rw [List.foldl_cons];obtain ⟨h1,h2⟩ := ih (max m (lenV y.1 y.2));refine ⟨by omega,fun x hx => ?_⟩
   rcases List.mem_cons.1 hx with rfl | hx
   ·omega
   ·exact h2 x hx
 exact (this L 0).2 x h
theorem k'hu {p : List Int} (h : ∀ a ∈ p,a.natAbs < Top) : Pl.mx p < 2 ^ (glb (zl p)).toNat := by
 have hpos : 0 < 2 ^ (glb (zl p)).toNat := Nat.pow_pos (by decide)
 have h1 : Pl.mx p ≤ 2 ^ (glb (zl p)).toNat - 1 := by
  refine Pl.mx_le fun k hk => ?_;rw [Pl.cf_lt hk];have hm := List.getElem_mem hk;generalize p[k] = a at hm ⊢;have h2 := k'ht (L := zl p) (x := (zb a,zs a)) (List.mem_map.2 ⟨a,hm,rfl⟩);simp only at h2;have hv := k'6j (h a hm);unfold lenV at h2;rw [if_pos hv] at h2;rcases Nat.eq_zero_or_pos (zs a).size with h0 | h0
  ·have := k'6k a
   rw [(k'58 (k'4l hv)).2 h0] at this;omega
  ·obtain ⟨l,e1,_,_,e4⟩ := k'4z (k'4l hv) h0
   rw [k'6k] at e4;have : 2 ^ l ≤ 2 ^ (glb (zl p)).toNat := Nat.pow_le_pow_right (by decide) (by omega)
   omega
 omega
theorem k'hv {p q : List Int} (hp : VP p) (hq : VP q) (h : ckd (zl p) (zl q) = 0) : q ≠ [] ∧ (q.length ≤ p.length → (2 * Pl.mx q) ^ (p.length + 1 - q.length) * Pl.mx p < Top) := by
 unfold ckd at h;rw [hp.ok,hq.ok,show (true && true) = true from rfl,if_pos rfl,k'e0,k'e0] at h
 split at h
 ·omega
 ·next h0 =>
  refine ⟨fun e => h0 (by rw [e]; rfl),fun hl => ?_⟩
  split at h
  ·omega
  ·next h1 =>
   obtain ⟨s,hs⟩ : ∃ s,s = p.length + 1 - q.length := ⟨_,rfl⟩;have hs2 : (p.length : Int) - q.length + 1 = (s : Int) := by omega
   rw [hs2] at h1;rw [← hs];have a1 := k'hu hp.top;have a2 := k'hu hq.top;have g1 := k'h9 (zl p);have g2 := k'h9 (zl q);obtain ⟨gp,hgp⟩ : ∃ n : Nat,glb (zl p) = n := ⟨(glb (zl p)).toNat,by omega⟩
   obtain ⟨gq,hgq⟩ : ∃ n : Nat,glb (zl q) = n := ⟨(glb (zl q)).toNat,by omega⟩
   rw [hgp] at a1 h1;rw [hgq] at a2 h1;rw [Int.toNat_natCast] at a1 a2;have h2 : gp + s * (gq + 1) ≤ 65536 := by
    have h3 : ¬ ((gp : Int) + (s : Int) * ((gq : Int) + 1) > 65536) := fun h => h1 ⟨by omega,h⟩
    have h4 : ((s * (gq + 1) : Nat) : Int) = (s : Int) * ((gq : Int) + 1) := by push_cast; rfl
    omega
   have b1 : (2 * Pl.mx q) ^ s ≤ 2 ^ (s * (gq + 1)) := by
    rw [Nat.mul_comm s,Nat.pow_mul];exact Nat.pow_le_pow_left (by rw [Nat.pow_succ]; omega) _
   have b2 : (2 * Pl.mx q) ^ s * Pl.mx p < 2 ^ (s * (gq + 1)) * 2 ^ gp := Nat.lt_of_le_of_lt (Nat.mul_le_mul_right _ b1) (Nat.mul_lt_mul_of_pos_left a1 (Nat.pow_pos (by decide)))
   rw [← Nat.pow_add] at b2;refine Nat.lt_of_lt_of_le b2 ?_;unfold Top;exact Nat.pow_le_pow_right (by decide) (by rw [k'43]; omega)
theorem k'hw {q : List Int} (hq : VP q) (h : q ≠ []) : 1 ≤ Pl.mx q := by
 have h2 := Pl.nrm_cf hq.nrm (List.length_pos_iff.2 h);have h3 := Pl.mx_cf q (q.length - 1);omega
theorem k'hy (p q : List Int) (v1 v2 : Value) (w : World) (h1 : Rp w v1 p) (h2 : Rp w v2 q) (hp : VP p) (hq : VP q) (hc : ckd (zl p) (zl q) = 0) :
 Calls Tryz.prog 53 #[v1,v2] w (ResP (Pl.rest p q) w) := by
 obtain ⟨f1,f2⟩ := k'hv hp hq hc;have l1 := hp.len;have l2 := hq.len;have HD := i' (k'hb (zl p) (zl q) v1 v2 w h1 h2 (k'ey hp.top) (k'ey hq.top));rw [hc] at HD;have HR : Hid (∀ c w',Below w.heap.size w w' → Ck w' c 0 → Calls Tryz.prog 110 #[.pointer (some ⟨c,0,none⟩),v1,v2] w' (RpPost (Pl.rest p q) w')) := fun c w' hb hck => by
  rcases Nat.lt_or_ge p.length q.length with g | g
  ·exact k'gr c p q v1 v2 0 w' (h1.below hb) (h2.below hb) hck (by omega) (by omega) hp.top g
  ·exact k'gt c p q v1 v2 0 w' (h1.below hb) (h2.below hb) hck (by omega) (by omega) f1 (k'hw hq f1) g hq.top (f2 g)
 generalize Pl.rest p q = r at *;clear h1 h2 hp hq hc f1 f2 l1 l2;go_enter Tryz.func53,Tryz.ntmps53;go_wp2_with fail;refine HD.out.mono ?_;rintro en w1 ⟨rfl,b1⟩;obtain ⟨w2,hw2⟩ : ∃ w2 : World,w2 = w1.alloc (.cells #[.int .i64 0] 96) := ⟨_,rfl⟩;have HK : Hid (Ck w2 w1.heap.size 0) := by show Ck _ _ _; rw [hw2]; exact heap_alloc_new w1 _
 have B2 : Hid (Below w.heap.size w w2) := by show Below _ _ _; rw [hw2]; exact b1.alloc b1.size _
 clear b1;go_wp2_with fail;rw [← hw2];clear hw2;refine (HR.out _ _ B2.out HK.out).mono ?_;rintro en w3 ⟨v3,rfl,r3,b3⟩;obtain ⟨a3,bb3,o3,c3,rfl,-⟩ := r3.open_;have HK3 := i' (HK.out.below b3);have B3 := i' (k'4h B2.out b3);have R3 := i' r3;clear b3 r3;go_wp2_with fail;refine (k'fp _ _ _ _ _ HK3.out).mono ?_;rintro en w4 ⟨rfl,b4⟩;have B4 := i' (k'4h B3.out b4);have R4 := i' (R3.out.below b4);clear b4;go_wp2;go_ret2;exact ⟨_,rfl,R4.out,B4.out⟩
def zipL (f : Int → Int → Int) (p q : List Int) : List Int := (List.range (max p.length q.length)).map fun k => f (Pl.cf p k) (Pl.cf q k)
def clipL (f : Int → Int → Int) (p q : List Int) : List Int := (List.range (max p.length q.length)).map fun k => clip (f (Pl.cf p k) (Pl.cf q k))
theorem k'hz (f : Int → Int → Int) (p q : List Int) : (clipL f p q).length = max p.length q.length := by simp [clipL]
theorem k'i0 (f : Int → Int → Int) (p q : List Int) (k : Nat) (h : k < (clipL f p q).length) : Pl.cf (clipL f p q) k = clip (f (Pl.cf p k) (Pl.cf q k)) := by
 rw [Pl.cf_lt h]; simp [clipL]
theorem k'i1 (f : Int → Int → Int) (p q : List Int) : ∀ a ∈ clipL f p q,a.natAbs < Top := by
 intro a ha;obtain ⟨k,_,rfl⟩ := List.mem_map.1 ha;exact k'gv _
theorem k'i2 {f : Int → Int → Int} {p q : List Int} (h : ∀ k,(f (Pl.cf p k) (Pl.cf q k)).natAbs < Top) : clipL f p q = zipL f p q := by
 unfold clipL zipL;exact List.map_congr_left fun k _ => k'ej (h k)
def chainE (g : Nat → Int) : Nat → Int
 | 0 => 0
 | k + 1 => er (chainE g k) (g k)
theorem k'i3 {g : Nat → Int} (h : ∀ k,(g k).natAbs < Top) (n : Nat) : chainE g n = 0 := by
 induction n with
 | zero => rfl
 | succ n ih => rw [chainE,k'ei _ (h n),ih]
theorem k'i4 {g : Nat → Int} {j : Nat} (h : ¬ (g j).natAbs < Top) (n : Nat) (hj : j < n) : chainE g n = 7 := by
 induction n with
 | zero => omega
 | succ n ih =>
  rw [chainE];have h7 : ∀ m,chainE g m = 0 ∨ chainE g m = 7 := by
   intro m
   induction m with
   | zero => exact Or.inl rfl
   | succ m ihm =>
    rw [chainE];unfold er;rcases ihm with e | e
    ·rw [e,if_pos rfl]
     split
     ·exact Or.inl rfl
     ·exact Or.inr rfl
    ·rw [e,if_neg (by decide)]; exact Or.inr rfl
  unfold er;by_cases e : j = n
  ·subst e
   rcases h7 j with e2 | e2
   ·rw [e2,if_pos rfl,if_neg h]
   ·rw [e2,if_neg (by decide)]
  ·rw [ih (by omega),if_neg (by decide)]
theorem VP.cf_top {p : List Int} (hp : VP p) (k : Nat) : (Pl.cf p k).natAbs < Top := by
 by_cases g : k < p.length
 ·rw [Pl.cf_lt g]; exact hp.top _ (List.getElem_mem g)
 ·rw [Pl.cf_ge (by omega)]; exact Nat.lt_of_le_of_lt (by simp) (Nat.lt_of_lt_of_le W0 k'48)
def CmbPost_add (p q : List Int) (w : World) (en : Ending) (w' : World) : Prop := ((∀ k,(Pl.cf p k + Pl.cf q k).natAbs < Top) ∧ ResP (Pl.trim (zipL (· + ·) p q)) w en w') ∨ ((∃ k,¬ (Pl.cf p k + Pl.cf q k).natAbs < Top) ∧ ResE 7 w en w')
theorem k'i6 (c B : Nat) (p q : List Int) (v1 v2 : Value) (w w0 : World) (h1 : Rp w v1 p) (h2 : Rp w v2 q) (hp : VP p) (hq : VP q) (hc : Ck w c 0) (hb0 : Below w0.heap.size w0 w) (hcw : w0.heap.size ≤ c) :
 Calls Tryz.prog 77 #[.pointer (some ⟨c,0,none⟩),v1,v2,.func (.func 78) #[.pointer (some ⟨c,0,none⟩)] #[]] w (CmbPost_add p q w0) := by
 have HV1 := i' (k'f0 p v1 w h1 hp);have HV2 := i' (fun w' (hb : Below w.heap.size w w') => k'f0 q v2 w' (h2.below hb) hq);have l1 := hp.len;have l2 := hq.len;have HC : Hid (∀ w',Below w.heap.size w w' → Calls Tryz.prog 118 #[v1,v2,.func (.func 78) #[.pointer (some ⟨c,0,none⟩)] #[]] w' (BPoly (clipL (· + ·) p q) c (chainE (fun k => Pl.cf p k + Pl.cf q k) (max p.length q.length)) w')) := fun w' hb => by
  have h5 := k'hp c p q (clipL (· + ·) p q) v1 v2 w' (chainE fun k => Pl.cf p k + Pl.cf q k) (h1.below hb) (h2.below hb) (hc.below hb) (k'hz _ _ _) (by rw [k'hz]; omega)
   (fun k wr hk hck => by rw [k'i0 _ _ _ _ hk]; exact k'em c (Pl.cf p k) (Pl.cf q k) _ wr hck (hp.cf_top k) (hq.cf_top k))
  rw [k'hz] at h5;exact h5
 have HT := i' (fun v w' h => k'fo v (clipL (· + ·) p q) w' h (k'i1 (· + ·) p q));have HRes : Hid ((chainE (fun k => Pl.cf p k + Pl.cf q k) (max p.length q.length) = 0 ∧ (∀ k,(Pl.cf p k + Pl.cf q k).natAbs < Top) ∧ clipL (· + ·) p q = zipL (· + ·) p q) ∨ (chainE (fun k => Pl.cf p k + Pl.cf q k) (max p.length q.length) = 7 ∧ ∃ k,¬ (Pl.cf p k + Pl.cf q k).natAbs < Top)) := by
  by_cases h : ∀ k,(Pl.cf p k + Pl.cf q k).natAbs < Top
  ·exact Or.inl ⟨k'i3 h _,h,k'i2 h⟩
  ·obtain ⟨k,hk⟩ := Classical.not_forall.1 h
   refine Or.inr ⟨k'i4 hk _ ?_,k,hk⟩;rcases Nat.lt_or_ge k (max p.length q.length) with g | g
   ·exact g
   ·exfalso
    rw [Pl.cf_ge (by omega),Pl.cf_ge (by omega)] at hk
    exact hk (Nat.lt_of_le_of_lt (by simp) (Nat.lt_of_lt_of_le W0 k'48))
 obtain ⟨ev,hev⟩ : ∃ ev,ev = chainE (fun k => Pl.cf p k + Pl.cf q k) (max p.length q.length) := ⟨_,rfl⟩;rw [← hev] at HC HRes;obtain ⟨rl,hrl⟩ : ∃ rl,rl = clipL (· + ·) p q := ⟨_,rfl⟩;rw [← hrl] at HC HRes HT;have HB0 := i' hb0;have HCk := i' hc;clear h1 h2 hp hq hc l1 l2 hev hrl hb0;go_enter Tryz.func77,Tryz.ntmps77;go_wp2_with fail;refine HV1.out.mono ?_;rintro e w1 ⟨rfl,b1⟩;have B1 := i' b1;clear b1;go_wp2_with fail;refine (HV2.out _ B1.out).mono ?_;rintro e w2 ⟨rfl,b2⟩;have B2 := i' (k'4h B1.out b2);clear b2;go_wp2_with fail;refine (HC.out _ B2.out).mono ?_;rintro e w3 ⟨v3,rfl,r3,b3,k3⟩;have B3 := i' ((HB0.out.trans (B2.out.mono HB0.out.size)).trans (b3.lowC hcw (HCk.out.below B2.out).lt));have K3 := i' k3;have R3 := i' r3;clear b3 k3 r3;go_wp2_with fail;refine (HT.out _ _ R3.out).mono ?_;rintro e w4 ⟨v4,rfl,r4,b4⟩;obtain ⟨a4,bb4,o4,c4,rfl,-⟩ := r4.open_;have B4 := i' (k'4h B3.out b4);have K4 := i' (K3.out.below b4);have R4 := i' r4;clear b4 r4;rcases HRes.out with ⟨e1,e2,e3⟩ | ⟨e1,e2⟩
 ·rw [e1] at K4
  have HE := i' (And.intro e2 e3);clear e1 e2 e3;go_wp2_with fail;refine (k'fp _ _ _ _ _ K4.out).mono ?_;rintro en w5 ⟨rfl,b5⟩;have B5 := i' (k'4h B4.out b5);have R5 := i' (R4.out.below b5);clear b5;go_wp2;go_ret2;exact Or.inl ⟨HE.out.1,_,rfl,by rw [← HE.out.2]; exact R5.out,B5.out⟩
 ·rw [e1] at K4
  have HE := i' e2;clear e1 e2;go_wp2_with fail;refine (k'fq _ _ 7 (by decide) _ K4.out).mono ?_
  rintro en w5 ⟨rfl,b5⟩;have B5 := i' (k'4h B4.out b5);clear b5;go_wp2;go_ret2;exact Or.inr ⟨HE.out,rfl,B5.out⟩
theorem k'i8 (p q : List Int) (v1 v2 : Value) (w : World) (h1 : Rp w v1 p) (h2 : Rp w v2 q) (hp : VP p) (hq : VP q) :
 Calls Tryz.prog 25 #[v1,v2] w (CmbPost_add p q w) := by
 obtain ⟨w0,hw0⟩ : ∃ w0 : World,w0 = w.alloc (.cells #[.int .i64 0] 96) := ⟨_,rfl⟩;have B0 : Hid (Below w.heap.size w w0) := by show Below _ _ _; rw [hw0]; exact (Below.refl _ _).alloc (Nat.le_refl _) _
 have HK : Ck w0 w.heap.size 0 := by rw [hw0]; exact heap_alloc_new w _
 have HR := i' (k'i6 w.heap.size 0 p q v1 v2 w0 w (h1.below B0.out) (h2.below B0.out) hp hq HK B0.out (Nat.le_refl _));clear h1 h2 hp hq HK;go_enter Tryz.func25,Tryz.ntmps25;go_wp2_with fail;rw [← hw0];clear hw0;refine HR.out.mono ?_;rintro en w1 (⟨h5,v5,rfl,r5,b5⟩ | ⟨h5,rfl,b5⟩)
 ·obtain ⟨a5,bb5,o5,c5,rfl,-⟩ := r5.open_
  have H5 := i' (And.intro h5 (And.intro r5 b5));clear h5 r5 b5;go_wp2;go_ret2;exact Or.inl ⟨H5.out.1,_,rfl,H5.out.2.1,H5.out.2.2⟩
 ·have H5 := i' (And.intro h5 b5)
  clear h5 b5;go_wp2;go_ret2;exact Or.inr ⟨H5.out.1,rfl,H5.out.2⟩
def CmbPost_sub (p q : List Int) (w : World) (en : Ending) (w' : World) : Prop := ((∀ k,(Pl.cf p k - Pl.cf q k).natAbs < Top) ∧ ResP (Pl.trim (zipL (· - ·) p q)) w en w') ∨ ((∃ k,¬ (Pl.cf p k - Pl.cf q k).natAbs < Top) ∧ ResE 7 w en w')
theorem k'ia (c B : Nat) (p q : List Int) (v1 v2 : Value) (w w0 : World) (h1 : Rp w v1 p) (h2 : Rp w v2 q) (hp : VP p) (hq : VP q) (hc : Ck w c 0) (hb0 : Below w0.heap.size w0 w) (hcw : w0.heap.size ≤ c) :
 Calls Tryz.prog 77 #[.pointer (some ⟨c,0,none⟩),v1,v2,.func (.func 79) #[.pointer (some ⟨c,0,none⟩)] #[]] w (CmbPost_sub p q w0) := by
 have HV1 := i' (k'f0 p v1 w h1 hp);have HV2 := i' (fun w' (hb : Below w.heap.size w w') => k'f0 q v2 w' (h2.below hb) hq);have l1 := hp.len;have l2 := hq.len;have HC : Hid (∀ w',Below w.heap.size w w' → Calls Tryz.prog 118 #[v1,v2,.func (.func 79) #[.pointer (some ⟨c,0,none⟩)] #[]] w' (BPoly (clipL (· - ·) p q) c (chainE (fun k => Pl.cf p k - Pl.cf q k) (max p.length q.length)) w')) := fun w' hb => by
  have h5 := k'hq c p q (clipL (· - ·) p q) v1 v2 w' (chainE fun k => Pl.cf p k - Pl.cf q k) (h1.below hb) (h2.below hb) (hc.below hb) (k'hz _ _ _) (by rw [k'hz]; omega)
   (fun k wr hk hck => by rw [k'i0 _ _ _ _ hk]; exact k'en c (Pl.cf p k) (Pl.cf q k) _ wr hck (hp.cf_top k) (hq.cf_top k))
  rw [k'hz] at h5;exact h5
 have HT := i' (fun v w' h => k'fo v (clipL (· - ·) p q) w' h (k'i1 (· - ·) p q));have HRes : Hid ((chainE (fun k => Pl.cf p k - Pl.cf q k) (max p.length q.length) = 0 ∧ (∀ k,(Pl.cf p k - Pl.cf q k).natAbs < Top) ∧ clipL (· - ·) p q = zipL (· - ·) p q) ∨ (chainE (fun k => Pl.cf p k - Pl.cf q k) (max p.length q.length) = 7 ∧ ∃ k,¬ (Pl.cf p k - Pl.cf q k).natAbs < Top)) := by
  by_cases h : ∀ k,(Pl.cf p k - Pl.cf q k).natAbs < Top
  ·exact Or.inl ⟨k'i3 h _,h,k'i2 h⟩
  ·obtain ⟨k,hk⟩ := Classical.not_forall.1 h
   refine Or.inr ⟨k'i4 hk _ ?_,k,hk⟩;rcases Nat.lt_or_ge k (max p.length q.length) with g | g
   ·exact g
   ·exfalso
    rw [Pl.cf_ge (by omega),Pl.cf_ge (by omega)] at hk
    exact hk (Nat.lt_of_le_of_lt (by simp) (Nat.lt_of_lt_of_le W0 k'48))
 obtain ⟨ev,hev⟩ : ∃ ev,ev = chainE (fun k => Pl.cf p k - Pl.cf q k) (max p.length q.length) := ⟨_,rfl⟩;rw [← hev] at HC HRes;obtain ⟨rl,hrl⟩ : ∃ rl,rl = clipL (· - ·) p q := ⟨_,rfl⟩;rw [← hrl] at HC HRes HT;have HB0 := i' hb0;have HCk := i' hc;clear h1 h2 hp hq hc l1 l2 hev hrl hb0;go_enter Tryz.func77,Tryz.ntmps77;go_wp2_with fail;refine HV1.out.mono ?_;rintro e w1 ⟨rfl,b1⟩;have B1 := i' b1;clear b1;go_wp2_with fail;refine (HV2.out _ B1.out).mono ?_;rintro e w2 ⟨rfl,b2⟩;have B2 := i' (k'4h B1.out b2);clear b2;go_wp2_with fail;refine (HC.out _ B2.out).mono ?_;rintro e w3 ⟨v3,rfl,r3,b3,k3⟩;have B3 := i' ((HB0.out.trans (B2.out.mono HB0.out.size)).trans (b3.lowC hcw (HCk.out.below B2.out).lt));have K3 := i' k3;have R3 := i' r3;clear b3 k3 r3;go_wp2_with fail;refine (HT.out _ _ R3.out).mono ?_;rintro e w4 ⟨v4,rfl,r4,b4⟩;obtain ⟨a4,bb4,o4,c4,rfl,-⟩ := r4.open_;have B4 := i' (k'4h B3.out b4);have K4 := i' (K3.out.below b4);have R4 := i' r4;clear b4 r4;rcases HRes.out with ⟨e1,e2,e3⟩ | ⟨e1,e2⟩
 ·rw [e1] at K4
  have HE := i' (And.intro e2 e3);clear e1 e2 e3;go_wp2_with fail;refine (k'fp _ _ _ _ _ K4.out).mono ?_;rintro en w5 ⟨rfl,b5⟩;have B5 := i' (k'4h B4.out b5);have R5 := i' (R4.out.below b5);clear b5;go_wp2;go_ret2;exact Or.inl ⟨HE.out.1,_,rfl,by rw [← HE.out.2]; exact R5.out,B5.out⟩
 ·rw [e1] at K4
  have HE := i' e2;clear e1 e2;go_wp2_with fail;refine (k'fq _ _ 7 (by decide) _ K4.out).mono ?_
  rintro en w5 ⟨rfl,b5⟩;have B5 := i' (k'4h B4.out b5);clear b5;go_wp2;go_ret2;exact Or.inr ⟨HE.out,rfl,B5.out⟩
theorem k'ic (p q : List Int) (v1 v2 : Value) (w : World) (h1 : Rp w v1 p) (h2 : Rp w v2 q) (hp : VP p) (hq : VP q) :
 Calls Tryz.prog 26 #[v1,v2] w (CmbPost_sub p q w) := by
 obtain ⟨w0,hw0⟩ : ∃ w0 : World,w0 = w.alloc (.cells #[.int .i64 0] 96) := ⟨_,rfl⟩;have B0 : Hid (Below w.heap.size w w0) := by show Below _ _ _; rw [hw0]; exact (Below.refl _ _).alloc (Nat.le_refl _) _
 have HK : Ck w0 w.heap.size 0 := by rw [hw0]; exact heap_alloc_new w _
 have HR := i' (k'ia w.heap.size 0 p q v1 v2 w0 w (h1.below B0.out) (h2.below B0.out) hp hq HK B0.out (Nat.le_refl _));clear h1 h2 hp hq HK;go_enter Tryz.func26,Tryz.ntmps26;go_wp2_with fail;rw [← hw0];clear hw0;refine HR.out.mono ?_;rintro en w1 (⟨h5,v5,rfl,r5,b5⟩ | ⟨h5,rfl,b5⟩)
 ·obtain ⟨a5,bb5,o5,c5,rfl,-⟩ := r5.open_
  have H5 := i' (And.intro h5 (And.intro r5 b5));clear h5 r5 b5;go_wp2;go_ret2;exact Or.inl ⟨H5.out.1,_,rfl,H5.out.2.1,H5.out.2.2⟩
 ·have H5 := i' (And.intro h5 b5)
  clear h5 b5;go_wp2;go_ret2;exact Or.inr ⟨H5.out.1,rfl,H5.out.2⟩
theorem k'ie (L : List (Bool × ByteArray)) (v : Value) (w : World) (h : Rw w v L) (z : Small L) (he : vldP L = true) :
 Calls Tryz.prog 13 #[v] w (Ret (.tuple #[.int .i64 ((L.length : Int) - 1),.int .i64 0]) w) := by
 have HV := i' (k'ex L v w h z);rw [he] at HV;have HD := i' (fun w' (hb : Below w.heap.size w w') => k'f1 L v w' (h.below hb));generalize (L.length : Int) - 1 = r at *;clear h z he;go_enter Tryz.func13,Tryz.ntmps13;go_wp2_with fail;refine HV.out.mono ?_;rintro e w1 ⟨rfl,b1⟩;have B1 := i' b1;clear b1;go_wp2_with fail;refine (HD.out _ B1.out).mono ?_;rintro e w2 ⟨rfl,b2⟩;have B2 := i' (k'4h B1.out b2);clear b2;go_wp2;go_ret2;exact ⟨rfl,B2.out⟩
theorem k'ig (L : List (Bool × ByteArray)) (v : Value) (w : World) (h : Rw w v L) (z : Small L) (he : vldP L = true) :
 Calls Tryz.prog 14 #[v] w (Ret (.tuple #[.int .i64 (glb L),.int .i64 0]) w) := by
 have HV := i' (k'ex L v w h z);rw [he] at HV;have HD := i' (fun w' (hb : Below w.heap.size w w') => k'f3 L v w' (h.below hb) z);generalize glb L = r at *;clear h z he;go_enter Tryz.func14,Tryz.ntmps14;go_wp2_with fail;refine HV.out.mono ?_;rintro e w1 ⟨rfl,b1⟩;have B1 := i' b1;clear b1;go_wp2_with fail;refine (HD.out _ B1.out).mono ?_;rintro e w2 ⟨rfl,b2⟩;have B2 := i' (k'4h B1.out b2);clear b2;go_wp2;go_ret2;exact ⟨rfl,B2.out⟩
theorem But.lowB {c B : Nat} {w w' : World} (h : But c w w') (hB : B ≤ c) (hc : c < w.heap.size) : Below B w w' := ⟨h.os,h.tape,h.output,h.size,fun k hk => h.block k (by omega) (by omega)⟩
def inL (p q : List Int) (n i j : Nat) : List Int := (List.range n).map fun k => Pl.conv p q i k + (if i ≤ k ∧ k < i + j then Pl.cf p i * Pl.cf q (k - i) else 0)
theorem k'ih (p q : List Int) (n i j : Nat) : (inL p q n i j).length = n := by simp [inL]
theorem k'ii (p q : List Int) (n i j k : Nat) (h : k < (inL p q n i j).length) : (inL p q n i j)[k] = Pl.conv p q i k + (if i ≤ k ∧ k < i + j then Pl.cf p i * Pl.cf q (k - i) else 0) := by simp [inL]
theorem k'ij (p q : List Int) (n : Nat) : inL p q n 0 0 = List.replicate n 0 := by
 apply List.ext_getElem (by simp [inL])
 intro k h1 h2;rw [k'ii,if_neg (by omega)]
 simp [Pl.conv]
theorem k'ik (p q : List Int) (n i j : Nat) (h : i + j < n) : (inL p q n i j).set (i + j) (Pl.conv p q i (i + j) + Pl.cf p i * Pl.cf q j) = inL p q n i (j + 1) := by
 apply List.ext_getElem (by simp [inL])
 intro k h1 h2;rw [List.getElem_set,k'ii,k'ii];by_cases e : i + j = k
 ·subst e
  rw [if_pos rfl,if_pos (by omega),show i + j - i = j by omega]
 ·rw [if_neg e]
  by_cases g : i ≤ k ∧ k < i + j
  ·rw [if_pos g,if_pos (by omega)]
  ·rw [if_neg g,if_neg (by omega)]
theorem k'il (p q : List Int) (n i : Nat) : inL p q n i q.length = inL p q n (i + 1) 0 := by
 apply List.ext_getElem (by simp [inL])
 intro k h1 h2;rw [k'ii,k'ii,if_neg (by omega : ¬ (i + 1 ≤ k ∧ k < i + 1 + 0)),Pl.conv,Int.add_zero]
 by_cases g : i ≤ k
 ·rw [if_pos g]
  by_cases g2 : k < i + q.length
  ·rw [if_pos ⟨g,g2⟩]
  ·rw [if_neg (by omega),Pl.cf_ge (p := q) (by omega)]; simp
 ·rw [if_neg g,if_neg (by omega)]
theorem k'im (p q : List Int) (hp : p ≠ []) (hq : q ≠ []) : inL p q (p.length + q.length - 1) p.length 0 = Pl.mul p q := by
 apply List.ext_getElem (by rw [k'ih,Pl.mul_length p q hp hq])
 intro k h1 h2;rw [k'ii,if_neg (by omega),Int.add_zero,← Pl.cf_lt h2,Pl.cf_mul]
theorem k'in (p q : List Int) (i j : Nat) (hi : i < p.length) : (Pl.conv p q i (i + j)).natAbs ≤ Pl.sm p * Pl.mx q ∧ (Pl.cf p i * Pl.cf q j).natAbs ≤ Pl.sm p * Pl.mx q ∧ (Pl.conv p q i (i + j) + Pl.cf p i * Pl.cf q j).natAbs ≤ Pl.sm p * Pl.mx q := by
 have h1 := Pl.conv_le p q i (i + j) (by omega)
 have h2 : (Pl.cf p i * Pl.cf q j).natAbs ≤ (Pl.cf p i).natAbs * Pl.mx q := by rw [Int.natAbs_mul]; exact Nat.mul_le_mul_left _ (Pl.mx_cf q j)
 have h3 := Pl.sm_take p i hi;have h4 := Pl.sm_take_le p (i + 1);have h5 : Pl.sm (p.take i) * Pl.mx q + (Pl.cf p i).natAbs * Pl.mx q ≤ Pl.sm p * Pl.mx q := by
  rw [← Nat.add_mul]; exact Nat.mul_le_mul_right _ (by omega)
 omega
theorem k'io (c : Nat) (p q : List Int) (v1 v2 : Value) (e : Int) (w : World) (h1 : Rp w v1 p) (h2 : Rp w v2 q) (hc : Ck w c e) (hp0 : p ≠ []) (hq0 : q ≠ []) (hl1 : p.length ≤ 50) (hl2 : q.length ≤ 50)
 (ht1 : ∀ a ∈ p,a.natAbs < Top) (ht2 : ∀ a ∈ q,a.natAbs < Top) (hb : Pl.sm p * Pl.mx q < Top) :
 Calls Tryz.prog 81 #[.pointer (some ⟨c,0,none⟩),v1,v2] w (RpPost (Pl.mul p q) w) := by
 obtain ⟨a1,b1,o1,c1,rfl,_,_,h14,h15⟩ := h1.open_;obtain ⟨a2,b2,o2,c2,rfl,_,_,h24,h25⟩ := h2.open_;obtain rfl := h14 hp0;obtain rfl := h24 hq0;have H15 := i' h15;have H25 := i' h25;have HC := i' hc;have HM := i' (fun i j (hi : i < p.length) (hj : j < q.length) w hc => k'es c (Pl.cf p i) (Pl.cf q j) e w hc (by rw [Pl.cf_lt hi]; exact ht1 _ (List.getElem_mem hi)) (by rw [Pl.cf_lt hj]; exact ht2 _ (List.getElem_mem hj)) (Nat.lt_of_le_of_lt (k'in p q i j hi).2.1 hb))
 have HA := i' (fun i j (hi : i < p.length) (hj : j < q.length) w hc => k'eq c (Pl.conv p q i (i + j)) (Pl.cf p i * Pl.cf q j) e w hc (Nat.lt_of_le_of_lt (k'in p q i j hi).1 hb) (Nat.lt_of_le_of_lt (k'in p q i j hi).2.1 hb) (Nat.lt_of_le_of_lt (k'in p q i j hi).2.2 hb));have hpl := List.length_pos_iff.2 hp0;have hql := List.length_pos_iff.2 hq0;have HEnd := i' (k'im p q hp0 hq0);have hcl := hc.lt;clear h1 h2 h14 h24 h15 h25 hc ht1 ht2 hb hp0 hq0;obtain ⟨n1,hn1⟩ : ∃ n,n = p.length := ⟨_,rfl⟩;obtain ⟨n2,hn2⟩ : ∃ n,n = q.length := ⟨_,rfl⟩;obtain ⟨n,hn⟩ : ∃ n,n = p.length + q.length - 1 := ⟨_,rfl⟩;rw [← hn] at HEnd;rw [← hn1] at hl1 hpl ⊢;rw [← hn2] at hl2 hql ⊢;have hnn : n + 1 = n1 + n2 := by omega
 have hk : ∀ w,(Instr.makeSlice 23 (.int .i64 ((n1 : Int) + n2 - 1)) (.int .i64 ((n1 : Int) + n2 - 1))).run Tryz.prog w = .ok (.slice (some ⟨w.heap.size,0,none⟩) n n) (w.alloc (.cells (wv (List.replicate n 0)).toArray 44)) := fun w => by
  rw [show ((n1 : Int) + n2 - 1) = (n : Int) by omega]
  exact k'eb n w (by omega)
 have HNN := i' hnn;have HN1 := i' hn1;have HN2 := i' hn2;have z1 : ((n1 : Int) == 0) = false := by simp; omega
 have z2 : ((n2 : Int) == 0) = false := by simp; omega
 clear hn1 hn2 hn hnn;go_enter Tryz.func81,Tryz.ntmps81;go_wp2;clear hk;go_loopw [29] (fun iv wr => ∃ (wz : World) (i : Nat),wz = wr ∧ i ≤ n1 ∧ iv = .int .i64 (i : Int) ∧ Hid (Aw wz w.heap.size (inL p q n i 0)) ∧ Hid (Below w.heap.size w wz))
  (fun iv _ => n1 - (intOf iv).toNat)
 case atStart =>
  refine ⟨_,0,rfl,Nat.zero_le _,rfl,?_,(Below.refl _ _).alloc (Nat.le_refl _) _⟩;rw [k'ij];exact Aw.made w _
 case round =>
  obtain ⟨wz,i,rfl,hi,rfl,haw,hbl⟩ := hrel;by_cases hlt : i < n1
  ·have hip : i < p.length := by have h5 : n1 = p.length := HN1.out; omega
   have hc0 := (H15.out i hip).1;have hc1 := (H15.out i hip).2;rw [← Pl.cf_lt hip] at hc0 hc1;have x0 := k'4i hbl.out hc0;have x1 := k'4i hbl.out hc1;have hb1 := World.block_lt_of_cell? w _ hc0;simp only at hb1;have hgl := haw.out.lt;have u1 : ¬ b1 = wz.heap.size := by omega
   have u2 : ¬ wz.heap.size = b1 := by omega
   obtain ⟨w1,hw1⟩ : ∃ w1 : World,w1 = wz.alloc (.cells #[.bool (zb (Pl.cf p i)),.string (zs (Pl.cf p i))] 44) := ⟨_,rfl⟩;have HA1 : Hid (Aw w1 w.heap.size (inL p q n i 0)) := by rw [hw1]; exact haw.out.alloc _
   have HB1 : Hid (Below w.heap.size w w1) := by rw [hw1]; exact hbl.out.alloc hbl.out.size _
   have HX1 : Hid (w1.cell? ⟨wz.heap.size,0,none⟩ = some (.bool (zb (Pl.cf p i))) ∧ w1.cell? ⟨wz.heap.size,1,none⟩ = some (.string (zs (Pl.cf p i)))) := by rw [hw1]; exact ⟨by simp [go_sem],by simp [go_sem]⟩
   have HS1 : Hid (w1.heap.size = wz.heap.size + 1) := by show _ = _; rw [hw1]; simp
   have HMi := i' (fun j hj => HM.out i j hip hj);have HAi := i' (fun j hj => HA.out i j hip hj);clear hc0 hc1 haw hbl;generalize hxi : Pl.cf p i = xi at *;have HXI := i' hxi;clear hxi;go_wp2;rw [← hw1];clear hw1 x0 x1;go_loopw [36] (fun jv wq => ∃ (wy : World) (j : Nat),wy = wq ∧ j ≤ n2 ∧ jv = .int .i64 (j : Int) ∧ Hid (Aw wy w.heap.size (inL p q n i j)) ∧ Hid (But w.heap.size w1 wy))
    (fun jv _ => n2 - (intOf jv).toNat)
   case atStart => exact ⟨w1,0,rfl,Nat.zero_le _,rfl,HA1.out,But.refl _ _⟩
   case round =>
    obtain ⟨wy,j,rfl,hj,rfl,haw,hbut⟩ := hrel;have hgl1 := HA1.out.lt;by_cases hlt2 : j < n2
    ·have hjq : j < q.length := by have h5 : n2 = q.length := HN2.out; omega
     have hnn := HNN.out;have hij : i + j < (inL p q n i j).length := by rw [k'ih]; omega
     have hx : (inL p q n i j)[i + j] = Pl.conv p q i (i + j) := by rw [k'ii,if_neg (by omega)]; omega
     have hbl2 := HB1.out.trans (hbut.out.lowB (Nat.le_refl _) hgl1);have hd0 := (H25.out j hjq).1;have hd1 := (H25.out j hjq).2;rw [← Pl.cf_lt hjq] at hd0 hd1;have y0 := k'4i hbl2 hd0;have y1 := k'4i hbl2 hd1;have hb2 := World.block_lt_of_cell? wy _ y0;simp only at hb2;have u3 : ¬ b2 = wy.heap.size := by omega
     have u4 : ¬ wy.heap.size = b2 := by omega
     obtain ⟨l0,l1⟩ := haw.out.cell (i + j) hij;rw [hx] at l0 l1;have hne : wz.heap.size ≠ w.heap.size := by omega
     have t0 := hbut.out.cell HX1.out.1 hne;have t1 := hbut.out.cell HX1.out.2 hne;have hzy : wz.heap.size < wy.heap.size := by have h5 := hbut.out.size; have h6 : w1.heap.size = wz.heap.size + 1 := HS1.out; omega
     have hset : Hid ((inL p q n i j).set (i + j) (Pl.conv p q i (i + j) + Pl.cf p i * Pl.cf q j) = inL p q n i (j + 1)) := k'ik p q n i j (by rw [k'ih] at hij; exact hij)
     have HMk := i' (HMi.out j hjq);have HAk := i' (HAi.out j hjq);obtain ⟨wi,hwi⟩ : ∃ wi : World,wi = wy.alloc (.cells #[.bool (zb (Pl.cf q j)),.string (zs (Pl.cf q j))] 44) := ⟨_,rfl⟩;have hAi : Hid (Aw wi w.heap.size (inL p q n i j)) := by rw [hwi]; exact haw.out.alloc _
     have hBi : Hid (But w.heap.size w1 wi) := by rw [hwi]; exact hbut.out.alloc _
     have hCi : Hid (Ck wi c e) := by
      rw [hwi];exact (HC.out.below hbl2).alloc _
     have a0 : wi.cell? ⟨wy.heap.size,0,none⟩ = some (.bool (zb (Pl.cf q j))) := by rw [hwi]; simp [go_sem]
     have a1 : wi.cell? ⟨wy.heap.size,1,none⟩ = some (.string (zs (Pl.cf q j))) := by rw [hwi]; simp [go_sem]
     have i0 : wi.cell? ⟨w.heap.size,(i + j) * 2,none⟩ = some (.bool (zb (Pl.conv p q i (i + j)))) := by rw [hwi]; exact k'e ((Below.refl _ _).alloc (Nat.le_refl _) _) l0
     have i1 : wi.cell? ⟨w.heap.size,(i + j) * 2 + 1,none⟩ = some (.string (zs (Pl.conv p q i (i + j)))) := by rw [hwi]; exact k'e ((Below.refl _ _).alloc (Nat.le_refl _) _) l1
     have j0 : wi.cell? ⟨wz.heap.size,0,none⟩ = some (.bool (zb xi)) := by rw [hwi]; exact k'e ((Below.refl _ _).alloc (Nat.le_refl _) _) t0
     have j1 : wi.cell? ⟨wz.heap.size,1,none⟩ = some (.string (zs xi)) := by rw [hwi]; exact k'e ((Below.refl _ _).alloc (Nat.le_refl _) _) t1
     have g0 := hAi.out.free ((i + j) * 2);have g1 := hAi.out.free ((i + j) * 2 + 1);have v0 : (0 : Int) ≤ (i : Int) + (j : Int) := by omega
     have v1 : (i : Int) + (j : Int) < (n : Int) := by rw [k'ih] at hij; omega
     have HL2 := i' hij;have HII := i' (And.intro i0 (And.intro i1 (And.intro a0 (And.intro a1 (And.intro j0 (And.intro j1 (And.intro g0 g1)))))));rw [HXI.out] at hset;clear hx hd0 hd1 hij l0 l1 t0 t1 i0 i1 a0 a1 j0 j1 g0 g1 haw hbut hbl2 hnn;generalize Pl.conv p q i (i + j) + xi * Pl.cf q j = d at *;generalize xi * Pl.cf q j = m at *;generalize Pl.conv p q i (i + j) = x at *;generalize Pl.cf q j = y at *;unfold Z at HMk HAk;generalize zb y = yb at *;generalize zs y = ys at *;generalize zb x = xb at *;generalize zs x = xs at *;generalize zb m = mb at *;generalize zs m = ms at *;generalize zb xi = tb at *;generalize zs xi = ts at *;go_upto_region 10 with (fail);rw [← hwi];clear hwi;have k0 := HII.out.1;have k1 := HII.out.2.1;have k2 := HII.out.2.2.1;have k3 := HII.out.2.2.2.1;have k4 := HII.out.2.2.2.2.1;have k5 := HII.out.2.2.2.2.2.1;have k6 := HII.out.2.2.2.2.2.2.1;have k7 := HII.out.2.2.2.2.2.2.2;have vt : ((i : Int) + (j : Int)).toNat = i + j := by omega
     have vw : IntKind.i64.wrap ((i : Int) + (j : Int)) = (i : Int) + (j : Int) := IntWalk.i64_in _ (by omega)
     go_region_with
      (first
       | (go_at_call 89; (with_reducible refine (HMk.out _ (by exact hCi.out.drew)).mono ?_); rintro e w5 ⟨rfl,b5⟩; have c5 := k'4h ((Below.refl _ _).drew) b5; have p0 := k'4i c5 k0; have p1 := k'4i c5 k1; have p2 := k'4i c5 k2; have p3 := k'4i c5 k3; have p4 := k'4i c5 k4; have p5 := k'4i c5 k5; have p6 := k'4j c5 k0 k6; have p7 := k'4j c5 k1 k7; have G1 := i' c5; clear b5 c5)
       | (go_at_call 78; (with_reducible refine (HAk.out _ (by exact hCi.out.below G1.out)).mono ?_); rintro e w6 ⟨rfl,b6⟩; have c6 := k'4h G1.out b6; have p0 := k'4i c6 k0; have p1 := k'4i c6 k1; have p2 := k'4i c6 k2; have p3 := k'4i c6 k3; have p4 := k'4i c6 k4; have p5 := k'4i c6 k5; have p6 := k'4j c6 k0 k6; have p7 := k'4j c6 k1 k7; have G2 := i' c6; clear b6 c6))
     all_goals
      have HA5 := i' (hAi.out.below G2.out);have HA6 := HA5.out.set (i + j) HL2.out d;rw [hset.out] at HA6;have HA7 := i' HA6;have HB7 := i' (((hBi.out.trans (But.of_below G2.out)).trans (But.setAt w.heap.size ((i + j) * 2) w6 (.bool (zb d)))).trans (But.setAt w.heap.size ((i + j) * 2 + 1) _ (.string (zs d))));clear HA6 HA5 HII vt vw;go_wp2;go_roundw
      case rel => exact ⟨_,j + 1,rfl,by omega,by go_num,HA7.out,HB7.out⟩
      case measure => simp [intOf]; omega
    ·obtain rfl : j = n2 := by omega
     have HA7 : Hid (Aw wy w.heap.size (inL p q n (i + 1) 0)) := by
      have h1 := haw.out;rw [show j = q.length from HN2.out,k'il] at h1;exact h1
     have HB7 := i' (HB1.out.trans (hbut.out.lowB (Nat.le_refl _) hgl1));clear haw hbut;go_wp2;go_roundw
     case rel => exact ⟨_,i + 1,rfl,by omega,by go_num,HA7.out,HB7.out⟩
     case measure => simp [intOf]; omega
  ·obtain rfl : i = n1 := by omega
   have HRp : Hid (Rp wz (.slice (some ⟨w.heap.size,0,none⟩) n n) (Pl.mul p q)) := by
    have h1 := haw.out;rw [show i = p.length from HN1.out,HEnd.out] at h1;have h2 : (Pl.mul p q).length = n := by rw [← HEnd.out,k'ih]
    exact Rp.of_whole h1 n n h2 (Nat.le_refl _) (by have h5 := HNN.out; unfold maxLen; omega)
   go_wp2;go_ret;exact ⟨_,rfl,HRp.out,hbl.out⟩
def MulPost2 (p q : List Int) (c : Nat) (e : Int) (w : World) (en : Ending) (w' : World) : Prop := ∃ (r : List Int) (v : Value) (e2 : Int),en = .returned v ∧ Rp w' v r ∧ But c w w' ∧ Ck w' c e2 ∧ r.length = (if p = [] ∨ q = [] then 0 else p.length + q.length - 1) ∧ (∀ a ∈ r,a.natAbs < Top) ∧ (Pl.sm p * Pl.mx q < Top → r = Pl.mul p q ∧ e2 = e)
theorem k'ip (p q L : List Int) (n i j : Nat) (en e x m d e1 e2 : Int) (hL : L.length = n) (hij : i + j < n) (hi : i < p.length) (hx : x = Pl.cf L (i + j)) (hm : m = clip (Pl.cf p i * Pl.cf q j)) (he1 : e1 = er en (Pl.cf p i * Pl.cf q j)) (hd : d = clip (x + m)) (he2 : e2 = er e1 (x + m))
 (hg : Pl.sm p * Pl.mx q < Top → L = inL p q n i j ∧ en = e) : Pl.sm p * Pl.mx q < Top → L.set (i + j) d = inL p q n i (j + 1) ∧ e2 = e := by
 intro hb;obtain ⟨g1,g2⟩ := hg hb;obtain ⟨b1,b2,b3⟩ := k'in p q i j hi;have hx2 : x = Pl.conv p q i (i + j) := by
  rw [hx,g1,Pl.cf_lt (by rw [k'ih]; exact hij),k'ii,if_neg (by omega)]; omega
 have f1 : (Pl.cf p i * Pl.cf q j).natAbs < Top := by omega
 rw [k'ej f1] at hm;rw [k'ei _ f1] at he1;have f2 : (x + m).natAbs < Top := by rw [hx2,hm]; omega
 rw [k'ej f2] at hd;rw [k'ei _ f2] at he2;refine ⟨?_,by rw [he2,he1,g2]⟩
 rw [hd,hx2,hm,g1];exact k'ik p q n i j hij
theorem k'iq {L : List Int} (h : ∀ a ∈ L,a.natAbs < Top) (k : Nat) (d : Int) (hd : d.natAbs < Top) : ∀ a ∈ L.set k d,a.natAbs < Top := by
 intro a ha;rcases List.mem_or_eq_of_mem_set ha with h1 | h1
 ·exact h a h1
 ·rw [h1]; exact hd
theorem k'ir (c : Nat) (p q : List Int) (v1 v2 : Value) (e : Int) (w : World) (h1 : Rp w v1 p) (h2 : Rp w v2 q) (hc : Ck w c e) (hp0 : p ≠ []) (hq0 : q ≠ []) (hl1 : p.length ≤ 50) (hl2 : q.length ≤ 50)
 (ht1 : ∀ a ∈ p,a.natAbs < Top) (ht2 : ∀ a ∈ q,a.natAbs < Top) :
 Calls Tryz.prog 81 #[.pointer (some ⟨c,0,none⟩),v1,v2] w (MulPost2 p q c e w) := by
 obtain ⟨a1,b1,o1,c1,rfl,_,_,h14,h15⟩ := h1.open_;obtain ⟨a2,b2,o2,c2,rfl,_,_,h24,h25⟩ := h2.open_;obtain rfl := h14 hp0;obtain rfl := h24 hq0;have H15 := i' h15;have H25 := i' h25;have HC := i' hc;have HT1 := i' (fun i (hi : i < p.length) => show (Pl.cf p i).natAbs < Top by rw [Pl.cf_lt hi]; exact ht1 _ (List.getElem_mem hi))
 have HT2 := i' (fun j (hj : j < q.length) => show (Pl.cf q j).natAbs < Top by rw [Pl.cf_lt hj]; exact ht2 _ (List.getElem_mem hj))
 have HPQ : Hid (¬ (p = [] ∨ q = [])) := by rintro (h | h) <;> contradiction
 have hpl := List.length_pos_iff.2 hp0;have hql := List.length_pos_iff.2 hq0;have HEnd := i' (k'im p q hp0 hq0);have hcl := hc.lt;clear h1 h2 h14 h24 h15 h25 hc ht1 ht2 hp0 hq0;obtain ⟨n1,hn1⟩ : ∃ n,n = p.length := ⟨_,rfl⟩;obtain ⟨n2,hn2⟩ : ∃ n,n = q.length := ⟨_,rfl⟩;obtain ⟨n,hn⟩ : ∃ n,n = p.length + q.length - 1 := ⟨_,rfl⟩;rw [← hn] at HEnd;rw [← hn1] at hl1 hpl ⊢;rw [← hn2] at hl2 hql ⊢;have hnn : n + 1 = n1 + n2 := by omega
 have hk : ∀ w,(Instr.makeSlice 23 (.int .i64 ((n1 : Int) + n2 - 1)) (.int .i64 ((n1 : Int) + n2 - 1))).run Tryz.prog w = .ok (.slice (some ⟨w.heap.size,0,none⟩) n n) (w.alloc (.cells (wv (List.replicate n 0)).toArray 44)) := fun w => by
  rw [show ((n1 : Int) + n2 - 1) = (n : Int) by omega]
  exact k'eb n w (by omega)
 have HNN := i' hnn;have HN1 := i' hn1;have HN2 := i' hn2;have z1 : ((n1 : Int) == 0) = false := by simp; omega
 have z2 : ((n2 : Int) == 0) = false := by simp; omega
 clear hn1 hn2 hn hnn;go_enter Tryz.func81,Tryz.ntmps81;go_wp2;clear hk;go_loopw [29] (fun iv wr => ∃ (wz : World) (i : Nat) (L : List Int) (en : Int),wz = wr ∧ i ≤ n1 ∧ iv = .int .i64 (i : Int) ∧ Hid (Aw wz w.heap.size L) ∧ Hid (But c w wz) ∧ Hid (Ck wz c en) ∧ Hid (L.length = n) ∧ Hid (∀ a ∈ L,a.natAbs < Top) ∧ Hid (Pl.sm p * Pl.mx q < Top → L = inL p q n i 0 ∧ en = e))
  (fun iv _ => n1 - (intOf iv).toNat)
 case atStart =>
  refine ⟨_,0,List.replicate n 0,e,rfl,Nat.zero_le _,rfl,Aw.made w _,But.of_below ((Below.refl _ _).alloc (Nat.le_refl _) _),HC.out.alloc _,List.length_replicate,?_,fun _ => ⟨(k'ij p q n).symm,rfl⟩⟩;intro a ha;rw [List.eq_of_mem_replicate ha];exact Nat.lt_of_lt_of_le W0 k'48
 case round =>
  obtain ⟨wz,i,L0,en0,rfl,hi,rfl,haw,hbut0,hck,hll,htl,hgd⟩ := hrel;have hc0w := HC.out;by_cases hlt : i < n1
  ·have hip : i < p.length := by have h5 : n1 = p.length := HN1.out; omega
   have hc0 := (H15.out i hip).1;have hc1 := (H15.out i hip).2;rw [← Pl.cf_lt hip] at hc0 hc1;have x0 := hbut0.out.cell hc0 (hc0w.ne hc0);have x1 := hbut0.out.cell hc1 (hc0w.ne hc0);have hb1 := World.block_lt_of_cell? w _ hc0;simp only at hb1;have hgl := haw.out.lt;have u1 : ¬ b1 = wz.heap.size := by omega
   have u2 : ¬ wz.heap.size = b1 := by omega
   obtain ⟨w1,hw1⟩ : ∃ w1 : World,w1 = wz.alloc (.cells #[.bool (zb (Pl.cf p i)),.string (zs (Pl.cf p i))] 44) := ⟨_,rfl⟩;have HA1 : Hid (Aw w1 w.heap.size L0) := by rw [hw1]; exact haw.out.alloc _
   have HB1 : Hid (But c w w1) := by rw [hw1]; exact hbut0.out.alloc _
   have HK1 : Hid (Ck w1 c en0) := by rw [hw1]; exact hck.out.alloc _
   have HX1 : Hid (w1.cell? ⟨wz.heap.size,0,none⟩ = some (.bool (zb (Pl.cf p i))) ∧ w1.cell? ⟨wz.heap.size,1,none⟩ = some (.string (zs (Pl.cf p i)))) := by rw [hw1]; exact ⟨by simp [go_sem],by simp [go_sem]⟩
   have HS1 : Hid (wz.heap.size < w1.heap.size) := by show _ < _; rw [hw1]; simp
   have hti := HT1.out i hip;clear hc0 hc1 haw hbut0 hck;obtain ⟨xi,hxi⟩ : ∃ xi,xi = Pl.cf p i := ⟨_,rfl⟩;rw [← hxi] at HX1 x0 x1 hti hw1;have HXI := i' hxi;clear hxi;go_wp2;rw [← hw1];clear hw1 x0 x1;go_loopw [36] (fun jv wq => ∃ (wy : World) (j : Nat) (L : List Int) (en : Int),wy = wq ∧ j ≤ n2 ∧ jv = .int .i64 (j : Int) ∧ Hid (Aw wy w.heap.size L) ∧ Hid (But c w wy) ∧ Hid (Ck wy c en) ∧ Hid (L.length = n) ∧ Hid (∀ a ∈ L,a.natAbs < Top) ∧ Hid (Pl.sm p * Pl.mx q < Top → L = inL p q n i j ∧ en = e)
    ∧ Hid (wy.cell? ⟨wz.heap.size,0,none⟩ = some (.bool (zb xi)) ∧ wy.cell? ⟨wz.heap.size,1,none⟩ = some (.string (zs xi))) ∧ Hid (wz.heap.size < wy.heap.size))
    (fun jv _ => n2 - (intOf jv).toNat)
   case atStart => exact ⟨w1,0,L0,en0,rfl,Nat.zero_le _,rfl,HA1.out,HB1.out,HK1.out,hll.out,htl.out,hgd.out,HX1.out,HS1.out⟩
   case round =>
    clear HA1 HB1 HK1 HX1 HS1 hll htl hgd;obtain ⟨wy,j,L,en,rfl,hj,rfl,haw,hbut,hck,hll,htl,hgd,hbox,hzy0⟩ := hrel;by_cases hlt2 : j < n2
    ·have hjq : j < q.length := by have h5 : n2 = q.length := HN2.out; omega
     have hnn := HNN.out;have hij : i + j < L.length := by rw [hll.out]; omega
     have hd0 := (H25.out j hjq).1;have hd1 := (H25.out j hjq).2;rw [← Pl.cf_lt hjq] at hd0 hd1;have y0 := hbut.out.cell hd0 (hc0w.ne hd0);have y1 := hbut.out.cell hd1 (hc0w.ne hd0);have hb2 := World.block_lt_of_cell? wy _ y0;simp only at hb2;have u3 : ¬ b2 = wy.heap.size := by omega
     have u4 : ¬ wy.heap.size = b2 := by omega
     obtain ⟨l0,l1⟩ := haw.out.cell (i + j) hij;have hzy : wz.heap.size < wy.heap.size := hzy0.out;have hwy := hbut.out.size;obtain ⟨t0,t1⟩ := hbox.out;have hzw : wz.heap.size ≠ w.heap.size := by omega
     have htj := HT2.out j hjq;obtain ⟨y,hy⟩ : ∃ y,y = Pl.cf q j := ⟨_,rfl⟩;rw [← hy] at y0 y1 htj;obtain ⟨x,hx⟩ : ∃ x,x = L[i + j] := ⟨_,rfl⟩;rw [← hx] at l0 l1;have htx : x.natAbs < Top := by rw [hx]; exact htl.out _ (List.getElem_mem hij)
     have HMk := i' (fun w hc => k'gu c xi y en w hc hti htj);obtain ⟨m,hm⟩ : ∃ m,m = clip (xi * y) := ⟨_,rfl⟩;obtain ⟨e1,he1⟩ : ∃ e1,e1 = er en (xi * y) := ⟨_,rfl⟩;rw [← hm,← he1] at HMk;have HAk := i' (fun w hc => k'em c x m e1 w hc htx (by rw [hm]; exact k'gv _))
     obtain ⟨d,hd⟩ : ∃ d,d = clip (x + m) := ⟨_,rfl⟩;obtain ⟨e2,he2⟩ : ∃ e2,e2 = er e1 (x + m) := ⟨_,rfl⟩;rw [← hd,← he2] at HAk;have hset := i' (k'ip p q L n i j en e x m d e1 e2 hll.out (by rw [hll.out] at hij; exact hij) hip (by rw [Pl.cf_lt hij]; exact hx) (by rw [← HXI.out,← hy]; exact hm) (by rw [← HXI.out,← hy]; exact he1) hd he2 hgd.out)
     have HTop := i' (k'iq htl.out (i + j) d (by rw [hd]; exact k'gv _))
     have HLen : Hid ((L.set (i + j) d).length = n) := by show _ = _; rw [List.length_set]; exact hll.out
     obtain ⟨wi,hwi⟩ : ∃ wi : World,wi = wy.alloc (.cells #[.bool (zb y),.string (zs y)] 44) := ⟨_,rfl⟩;have hAi : Hid (Aw wi w.heap.size L) := by rw [hwi]; exact haw.out.alloc _
     have hBi : Hid (But c w wi) := by rw [hwi]; exact hbut.out.alloc _
     have hCi : Hid (Ck wi c en) := by rw [hwi]; exact hck.out.alloc _
     have hSi : Hid (wz.heap.size < wi.heap.size) := by show _ < _; rw [hwi]; simp; omega
     have a0 : wi.cell? ⟨wy.heap.size,0,none⟩ = some (.bool (zb y)) := by rw [hwi]; simp [go_sem]
     have a1 : wi.cell? ⟨wy.heap.size,1,none⟩ = some (.string (zs y)) := by rw [hwi]; simp [go_sem]
     have i0 : wi.cell? ⟨w.heap.size,(i + j) * 2,none⟩ = some (.bool (zb x)) := by rw [hwi]; exact k'e ((Below.refl _ _).alloc (Nat.le_refl _) _) l0
     have i1 : wi.cell? ⟨w.heap.size,(i + j) * 2 + 1,none⟩ = some (.string (zs x)) := by rw [hwi]; exact k'e ((Below.refl _ _).alloc (Nat.le_refl _) _) l1
     have j0 : wi.cell? ⟨wz.heap.size,0,none⟩ = some (.bool (zb xi)) := by rw [hwi]; exact k'e ((Below.refl _ _).alloc (Nat.le_refl _) _) t0
     have j1 : wi.cell? ⟨wz.heap.size,1,none⟩ = some (.string (zs xi)) := by rw [hwi]; exact k'e ((Below.refl _ _).alloc (Nat.le_refl _) _) t1
     have g0 := hAi.out.free ((i + j) * 2);have g1 := hAi.out.free ((i + j) * 2 + 1);have v0 : (0 : Int) ≤ (i : Int) + (j : Int) := by omega
     have v1 : (i : Int) + (j : Int) < (n : Int) := by rw [hll.out] at hij; omega
     have HL2 := i' hij;have n1c : w.heap.size ≠ c := by omega
     have n2c : wy.heap.size ≠ c := by omega
     have n3c : wz.heap.size ≠ c := by omega
     have HII := i' (And.intro i0 (And.intro i1 (And.intro a0 (And.intro a1 (And.intro j0 (And.intro j1 (And.intro g0 g1)))))));have HJ := i' (And.intro j0 j1);clear hd0 hd1 hij l0 l1 t0 t1 i0 i1 a0 a1 j0 j1 g0 g1 haw hbut hnn hck hll htl hgd hbox hzy0 hm he1 hd he2 hx hy htx htj;unfold Z at HMk HAk;generalize zb y = yb at *;generalize zs y = ys at *;generalize zb x = xb at *;generalize zs x = xs at *;generalize zb m = mb at *;generalize zs m = ms at *;obtain ⟨tb,htb⟩ : ∃ tb,tb = zb xi := ⟨_,rfl⟩;obtain ⟨ts,hts⟩ : ∃ ts,ts = zs xi := ⟨_,rfl⟩;rw [← htb,← hts] at HII HMk HJ;have HTB := i' (And.intro htb hts);clear htb hts;go_upto_region 10 with (fail);rw [← hwi];clear hwi;have k0 := HII.out.1;have k1 := HII.out.2.1;have k2 := HII.out.2.2.1;have k3 := HII.out.2.2.2.1;have k4 := HII.out.2.2.2.2.1;have k5 := HII.out.2.2.2.2.2.1;have k6 := HII.out.2.2.2.2.2.2.1;have k7 := HII.out.2.2.2.2.2.2.2;have vt : ((i : Int) + (j : Int)).toNat = i + j := by omega
     have vw : IntKind.i64.wrap ((i : Int) + (j : Int)) = (i : Int) + (j : Int) := IntWalk.i64_in _ (by omega)
     go_region_with
      (first
       | (go_at_call 89; (with_reducible refine (HMk.out _ (by exact hCi.out.drew)).mono ?_); rintro e w5 ⟨rfl,b5,d5⟩; have c5 := ((But.refl c wi).drew).trans b5; have p0 := c5.cell k0 n1c; have p1 := c5.cell k1 n1c; have p2 := c5.cell k2 n2c; have p3 := c5.cell k3 n2c; have p4 := c5.cell k4 n3c; have p5 := c5.cell k5 n3c; have p6 := c5.frozen k0 k6 n1c; have p7 := c5.frozen k1 k7 n1c; have G1 := i' (And.intro c5 d5); clear b5 c5 d5)
       | (go_at_call 78; (with_reducible refine (HAk.out _ (by exact G1.out.2)).mono ?_); rintro e w6 ⟨rfl,b6,d6⟩; have c6 := G1.out.1.trans b6; have p0 := c6.cell k0 n1c; have p1 := c6.cell k1 n1c; have p2 := c6.cell k2 n2c; have p3 := c6.cell k3 n2c; have p4 := c6.cell k4 n3c; have p5 := c6.cell k5 n3c; have p6 := c6.frozen k0 k6 n1c; have p7 := c6.frozen k1 k7 n1c; have G2 := i' (And.intro c6 d6); clear b6 c6 d6))
     all_goals
      have HA5 := i' (G2.out.1.aw hAi.out n1c);have HA7 := i' (HA5.out.set (i + j) HL2.out d);have HB7 := i' (((hBi.out.trans G2.out.1).new (p := ⟨w.heap.size,(i + j) * 2,none⟩) (Nat.le_refl _) (.bool (zb d))).new (p := ⟨w.heap.size,(i + j) * 2 + 1,none⟩) (Nat.le_refl _) (.string (zs d)));have HC7 := i' ((G2.out.2.other ⟨w.heap.size,(i + j) * 2,none⟩ (.bool (zb d)) (Ne.symm n1c)).other ⟨w.heap.size,(i + j) * 2 + 1,none⟩ (.string (zs d)) (Ne.symm n1c));have HX7 : Hid (((w6.setCell ⟨w.heap.size,(i + j) * 2,none⟩ (.bool (zb d))).setCell ⟨w.heap.size,(i + j) * 2 + 1,none⟩ (.string (zs d))).cell? ⟨wz.heap.size,0,none⟩ = some (.bool tb) ∧ ((w6.setCell ⟨w.heap.size,(i + j) * 2,none⟩ (.bool (zb d))).setCell ⟨w.heap.size,(i + j) * 2 + 1,none⟩ (.string (zs d))).cell? ⟨wz.heap.size,1,none⟩ = some (.string ts)) := ⟨k'h1 (by simp only; omega) (G2.out.1.cell HJ.out.1 n3c),k'h1 (by simp only; omega) (G2.out.1.cell HJ.out.2 n3c)⟩
      have HS7 : Hid (wz.heap.size < ((w6.setCell ⟨w.heap.size,(i + j) * 2,none⟩ (.bool (zb d))).setCell ⟨w.heap.size,(i + j) * 2 + 1,none⟩ (.string (zs d))).heap.size) := by show _ < _; have := G2.out.1.size; have := hSi.out; simp [World.setCell]; omega
      rw [HTB.out.1,HTB.out.2] at HX7;clear HA5 HII HJ vt vw;go_wp2;go_roundw
      case rel => exact ⟨_,j + 1,L.set (i + j) d,e2,rfl,by omega,by go_num,HA7.out,HB7.out,HC7.out,HLen.out,HTop.out,hset.out,HX7.out,HS7.out⟩
      case measure => simp [intOf]; omega
    ·obtain rfl : j = n2 := by omega
     have hg2 : Pl.sm p * Pl.mx q < Top → L = inL p q n (i + 1) 0 ∧ en = e := fun hb => by
      have h1 := hgd.out hb;rw [show j = q.length from HN2.out,k'il] at h1;exact h1
     have HG2 := i' hg2;clear hg2 hgd hbox;go_wp2;go_roundw
     case rel => exact ⟨_,i + 1,L,en,rfl,by omega,by go_num,haw.out,hbut.out,hck.out,hll.out,htl.out,HG2.out⟩
     case measure => simp [intOf]; omega
  ·obtain rfl : i = n1 := by omega
   have HRp : Hid (Rp wz (.slice (some ⟨w.heap.size,0,none⟩) n n) L0) := Rp.of_whole haw.out n n hll.out (Nat.le_refl _) (by have h5 := HNN.out; unfold maxLen; omega)
   have HG2 : Hid (Pl.sm p * Pl.mx q < Top → L0 = Pl.mul p q ∧ en0 = e) := fun hb => by
    have h1 := hgd.out hb;rw [show i = p.length from HN1.out,HEnd.out] at h1;exact h1
   have HLn : Hid (L0.length = if p = [] ∨ q = [] then 0 else p.length + q.length - 1) := by
    show _ = _;rw [if_neg HPQ.out,hll.out];have h1 := HNN.out;have h2 : i = p.length := HN1.out;have h3 : n2 = q.length := HN2.out;omega
   go_wp2;go_ret;exact ⟨L0,_,en0,rfl,HRp.out,hbut0.out,hck.out,HLn.out,htl.out,HG2.out⟩
def ckm (L1 L2 : List (Bool × ByteArray)) : Int :=
 if (vldP L1 && vldP L2) = true then (if L1.length = 0 ∨ L2.length = 0 then 0 else if (L1.length : Int) - 1 + ((L2.length : Int) - 1) > 24 ∨ glb L1 + glb L2 + 5 > 65536 then 7 else 0) else 2
theorem k'is (c : Nat) (p q : List Int) (v1 v2 : Value) (w : World) (h1 : Rp w v1 p) (h2 : Rp w v2 q) (h : p = [] ∨ q = []) (hl1 : p.length ≤ 50) :
 Calls Tryz.prog 81 #[.pointer (some ⟨c,0,none⟩),v1,v2] w (Ret (.slice none 0 0) w) := by
 have h' : p.length = 0 ∨ q.length = 0 := h.imp (fun e => by rw [e]; rfl) (fun e => by rw [e]; rfl)
 obtain ⟨p1,b1,o1,c1,rfl,-⟩ := h1.open_;obtain ⟨p2,b2,o2,c2,rfl,-⟩ := h2.open_;clear h h1 h2;generalize p.length = n1 at *;generalize q.length = n2 at *;rcases Nat.eq_zero_or_pos n1 with h0 | h0
 ·subst h0
  clear h';go_enter Tryz.func81,Tryz.ntmps81;go_wp2;go_ret;exact ⟨rfl,Below.refl _ _⟩
 ·obtain rfl : n2 = 0 := by omega
  have z1 : ((n1 : Int) == 0) = false := by simp; omega
  clear h';go_enter Tryz.func81,Tryz.ntmps81;go_wp2;go_ret;exact ⟨rfl,Below.refl _ _⟩
theorem k'iu {a : Nat} (h : a ≤ 65536) : 2 ^ a ≤ Top := by
 unfold Top;exact Nat.pow_le_pow_right (by decide) (by rw [k'43]; exact h)
theorem k'iv {p q : List Int} (hp : VP p) (hq : VP q) (h : ckm (zl p) (zl q) = 0) (h0 : p ≠ []) (h1 : q ≠ []) : Pl.sm p * Pl.mx q < Top ∧ ¬ ((p.length : Int) - 1 + ((q.length : Int) - 1) > 24) ∧ ¬ (glb (zl p) + glb (zl q) + 5 > 65536) := by
 unfold ckm at h;have l1 := List.length_pos_iff.2 h0;have l2 := List.length_pos_iff.2 h1;rw [hp.ok,hq.ok,show (true && true) = true from rfl,if_pos rfl,k'e0,k'e0,if_neg (by omega)] at h
 split at h
 ·omega
 ·next hz =>
  have hz1 : ¬ ((p.length : Int) - 1 + ((q.length : Int) - 1) > 24) := fun h => hz (Or.inl h);have hz2 : ¬ (glb (zl p) + glb (zl q) + 5 > 65536) := fun h => hz (Or.inr h);refine ⟨?_,hz1,hz2⟩;have a1 := k'hu hp.top;have a2 := k'hu hq.top;have g1 := k'h9 (zl p);have g2 := k'h9 (zl q);obtain ⟨gp,hgp⟩ : ∃ n : Nat,glb (zl p) = n := ⟨(glb (zl p)).toNat,by omega⟩
  obtain ⟨gq,hgq⟩ : ∃ n : Nat,glb (zl q) = n := ⟨(glb (zl q)).toNat,by omega⟩
  rw [hgp] at a1 hz2;rw [hgq] at a2 hz2;rw [Int.toNat_natCast] at a1 a2;have b1 := Pl.sm_le p;have b2 : Pl.sm p ≤ 25 * 2 ^ gp := Nat.le_trans b1 (Nat.mul_le_mul hp.len (Nat.le_of_lt a1));have b3 := Nat.mul_le_mul b2 (Nat.le_of_lt a2);rw [Nat.mul_assoc,← Nat.pow_add] at b3;refine Nat.lt_of_le_of_lt b3 (Nat.lt_of_lt_of_le ?_ (k'iu (a := gp + gq + 5) (by omega)))
  rw [Nat.pow_add _ _ 5];have := Nat.pow_pos (a := 2) (n := gp + gq) (by decide)
  omega
theorem k'iw (p q : List Int) (v1 v2 : Value) (w : World) (h1 : Rp w v1 p) (h2 : Rp w v2 q) (hp : VP p) (hq : VP q) (h : p = [] ∨ q = []) :
 Calls Tryz.prog 27 #[v1,v2] w (ResP [] w) := by
 have HV1 := i' (fun w' (hb : Below w.heap.size w w') => k'f0 p v1 w' (h1.below hb) hp);have HV2 := i' (fun w' (hb : Below w.heap.size w w') => k'f0 q v2 w' (h2.below hb) hq);have l1 := hp.len;have l2 := hq.len;have h' : p.length = 0 ∨ q.length = 0 := h.imp (fun e => by rw [e]; rfl) (fun e => by rw [e]; rfl)
 obtain ⟨p1,b1,o1,c1,rfl,-⟩ := h1.open_;obtain ⟨p2,b2,o2,c2,rfl,-⟩ := h2.open_;clear h h1 h2 hp hq;generalize p.length = n1 at *;generalize q.length = n2 at *;rcases Nat.eq_zero_or_pos n1 with h0 | h0
 ·subst h0
  clear h';go_enter Tryz.func27,Tryz.ntmps27;go_wp2_with fail;refine (HV1.out _ (Below.refl _ _)).mono ?_;rintro e w1 ⟨rfl,b1⟩;have B1 := i' (b1);clear b1;go_wp2_with fail;refine (HV2.out _ B1.out).mono ?_;rintro e w2 ⟨rfl,b2⟩;have B2 := i' (k'4h B1.out b2);clear b2;go_wp2;go_ret2;exact ⟨_,rfl,Rw.nil _,B2.out⟩
 ·obtain rfl : n2 = 0 := by omega
  have z1 : ((n1 : Int) == 0) = false := by simp; omega
  clear h';go_enter Tryz.func27,Tryz.ntmps27;go_wp2_with fail;refine (HV1.out _ (Below.refl _ _)).mono ?_;rintro e w1 ⟨rfl,b1⟩;have B1 := i' (b1);clear b1;go_wp2_with fail;refine (HV2.out _ B1.out).mono ?_;rintro e w2 ⟨rfl,b2⟩;have B2 := i' (k'4h B1.out b2);clear b2;go_wp2;go_ret2;exact ⟨_,rfl,Rw.nil _,B2.out⟩
theorem k'ix (p q : List Int) (v1 v2 : Value) (w : World) (h1 : Rp w v1 p) (h2 : Rp w v2 q) (hp : VP p) (hq : VP q) (hc : ckm (zl p) (zl q) = 0) (hp0 : p ≠ []) (hq0 : q ≠ []) :
 Calls Tryz.prog 27 #[v1,v2] w (ResP (Pl.mul p q) w) := by
 obtain ⟨f1,f2,f3⟩ := k'iv hp hq hc hp0 hq0;have HV1 := i' (fun w' (hb : Below w.heap.size w w') => k'f0 p v1 w' (h1.below hb) hp);have HV2 := i' (fun w' (hb : Below w.heap.size w w') => k'f0 q v2 w' (h2.below hb) hq);have HD1 := i' (fun w' (hb : Below w.heap.size w w') => k'f1 (zl p) v1 w' (h1.below hb));have HD2 := i' (fun w' (hb : Below w.heap.size w w') => k'f1 (zl q) v2 w' (h2.below hb));have HG1 := i' (fun w' (hb : Below w.heap.size w w') => k'f3 (zl p) v1 w' (h1.below hb) (k'ey hp.top));have HG2 := i' (fun w' (hb : Below w.heap.size w w') => k'f3 (zl q) v2 w' (h2.below hb) (k'ey hq.top));rw [k'e0] at HD1 HD2;have G1 := k'h9 (zl p);have G2 := k'h9 (zl q);have l1 := hp.len;have l2 := hq.len;have k1 := List.length_pos_iff.2 hp0;have k2 := List.length_pos_iff.2 hq0;have HR := i' (fun c w' (hb : Below w.heap.size w w') hck => k'io c p q v1 v2 0 w' (h1.below hb) (h2.below hb) hck hp0 hq0 (by omega) (by omega) hp.top hq.top f1)
 obtain ⟨p1,b1,o1,c1,rfl,-⟩ := h1.open_;obtain ⟨p2,b2,o2,c2,rfl,-⟩ := h2.open_;generalize Pl.mul p q = G at *;clear h1 h2 hp hq hc hp0 hq0 f1;generalize glb (zl p) = g1 at *;generalize glb (zl q) = g2 at *;generalize p.length = n1 at *;generalize q.length = n2 at *;have hz1 : ((n1 : Int) == 0) = false := by simp; omega
 have hz2 : ((n2 : Int) == 0) = false := by simp; omega
 have hs3 : decide (24 < (n1 : Int) - 1 + ((n2 : Int) - 1)) = false := by rw [decide_eq_false_iff_not]; omega
 have hs4 : decide (65536 < g1 + g2 + 5) = false := by rw [decide_eq_false_iff_not]; omega
 go_enter Tryz.func27,Tryz.ntmps27;go_wp2_with fail;refine (HV1.out _ (Below.refl _ _)).mono ?_;rintro e w1 ⟨rfl,b1⟩;have B1 := i' (b1);clear b1;go_wp2_with fail;refine (HV2.out _ B1.out).mono ?_;rintro e w2 ⟨rfl,b2⟩;have B2 := i' (k'4h B1.out b2);clear b2;go_wp2_with fail;refine (HD1.out _ B2.out).mono ?_;rintro e w3 ⟨rfl,b3⟩;have B3 := i' (k'4h B2.out b3);clear b3;go_wp2_with fail;refine (HD2.out _ B3.out).mono ?_;rintro e w4 ⟨rfl,b4⟩;have B4 := i' (k'4h B3.out b4);clear b4;go_wp2_with fail;refine (HG1.out _ B4.out).mono ?_;rintro e w5 ⟨rfl,b5⟩;have B5 := i' (k'4h B4.out b5);clear b5;go_wp2_with fail;refine (HG2.out _ B5.out).mono ?_;rintro e w6 ⟨rfl,b6⟩;have B6 := i' (k'4h B5.out b6);clear b6;obtain ⟨w7,hw7⟩ : ∃ w7 : World,w7 = w6.alloc (.cells #[.int .i64 0] 96) := ⟨_,rfl⟩;have HK : Hid (Ck w7 w6.heap.size 0) := by show Ck _ _ _; rw [hw7]; exact heap_alloc_new w6 _
 have B7 : Hid (Below w.heap.size w w7) := by show Below _ _ _; rw [hw7]; exact B6.out.alloc B6.out.size _
 go_wp2_with fail;rw [← hw7];clear hw7;refine (HR.out _ _ B7.out HK.out).mono ?_;rintro en w8 ⟨v3,rfl,r3,b3⟩;obtain ⟨a3,bb3,o3,c3,rfl,-⟩ := r3.open_;have HK3 := i' (HK.out.below b3);have B8 := i' (k'4h B7.out b3);have R3 := i' r3;clear b3 r3;go_wp2_with fail;refine (k'fp _ _ _ _ _ HK3.out).mono ?_;rintro en w9 ⟨rfl,b4⟩;have B9 := i' (k'4h B8.out b4);have R4 := i' (R3.out.below b4);clear b4;go_wp2;go_ret2;exact ⟨_,rfl,R4.out,B9.out⟩
end Go.Proofs.YtepddegphdlbeaaGreat
namespace Go.Proofs.YtepddegphdlbeaaGreat
namespace Pl
def sub (p q : List Int) : List Int := trim (add p (scl (-1) q))
theorem cf_sub (p q : List Int) (k : Nat) : cf (sub p q) k = cf p k - cf q k := by
 rw [sub,cf_trim,cf_add,cf_scl]; omega
theorem sub_nrm (p q : List Int) : Nrm (sub p q) := nrm_trim _
theorem k'iz {l : Int} {q r : List Int} (h0 : lead r = 0) (k : Nat) : cf (step l (lead r) q r) k = l * cf r k := by
 rw [cf_step]
 split
 ·rw [h0]; split <;> simp
 ·next h =>
  rcases Nat.lt_or_ge k r.length with g | g
  ·have e : k = r.length - 1 := by omega
   unfold lead at h0;rw [e,h0]; simp
  ·rw [cf_ge g]; simp
theorem k'j0 (q : List Int) (j : Nat) (r : List Int) : prem q (j + 1) r = step (lead q) (lead (prem q j r)) q (prem q j r) := by
 induction j generalizing r with
 | zero => rfl
 | succ j ih => rw [prem,ih]; rfl
def RInv (p q r : List Int) (m : Nat) : Prop := (0 < q.length ∧ q.length ≤ p.length) ∧ ∃ j,j + m = p.length + 1 - q.length ∧ r = trim (scl (lead q ^ m) (prem q j p))
theorem RInv.start {p q : List Int} (h : q.length ≤ p.length) (hq : 0 < q.length) : RInv p q (trim (scl (lead q ^ (p.length - q.length + 1)) p)) (p.length - q.length + 1) :=
 ⟨⟨hq,h⟩,0,by omega,rfl⟩
theorem RInv.nrm {p q r : List Int} {m : Nat} (h : RInv p q r m) : Nrm r := by obtain ⟨_,_,_,rfl⟩ := h; exact nrm_trim _
theorem RInv.slen {p q : List Int} {j m : Nat} (h : 0 < q.length ∧ q.length ≤ p.length) (hj : j + m = p.length + 1 - q.length) : (prem q j p).length = m + (q.length - 1) := by
 rw [prem_length q j p (by omega)]; omega
theorem RInv.len {p q r : List Int} {m : Nat} (h : RInv p q r m) : r.length ≤ m + (q.length - 1) := by
 obtain ⟨h0,j,h1,rfl⟩ := h;have := trim_length (scl (lead q ^ m) (prem q j p));rw [scl_length,RInv.slen h0 h1] at this;exact this
theorem RInv.down {p q r : List Int} {m : Nat} (hq : Nrm q) (h : RInv p q r (m + 1)) (hr : r.length ≤ m + (q.length - 1)) : RInv p q r m := by
 obtain ⟨h0,j,h1,h2⟩ := h;have hl := RInv.slen h0 h1;have hq0 : q ≠ [] := by intro e; rw [e] at h0; simp at h0
 have hz : lead (prem q j p) = 0 := by
  have e1 : cf r ((prem q j p).length - 1) = 0 := cf_ge (by omega)
  rw [h2,cf_trim,cf_scl] at e1;rcases Int.mul_eq_zero.1 e1 with g | g
  ·exact absurd g (Int.pow_ne_zero (lead_ne hq hq0))
  ·exact g
 refine ⟨h0,j + 1,by omega,?_⟩
 rw [h2,k'j0];exact trim_ext fun k => by rw [cf_scl,cf_scl,k'iz hz,Int.pow_succ,Int.mul_assoc]
theorem RInv.downs {p q r : List Int} {m : Nat} (hq : Nrm q) (h : RInv p q r m) (k : Nat) (hk : k ≤ m) (hr : r.length ≤ k + (q.length - 1)) : RInv p q r k := by
 induction m with
 | zero => obtain rfl : k = 0 := by omega
           exact h
 | succ m ih =>
  by_cases e : k = m + 1
  ·rw [e]; exact h
  ·exact ih (RInv.down hq h (by omega)) (by omega)
theorem RInv.step {p q r : List Int} {m : Nat} (hq : Nrm q) (h : RInv p q r m) (hr : q.length ≤ r.length) :
 lead q ∣ lead r ∧ RInv p q (sub r (scl (lead r / lead q) (shift (r.length - q.length) q))) (r.length - q.length) := by
 have hl := h.len;obtain ⟨h0,j,h1,h2⟩ := RInv.downs hq h (r.length - q.length + 1) (by have := h.1; omega) (by have := h.1; omega)
 have hq0 : q ≠ [] := by intro e; rw [e] at h0; simp at h0
 have hsl := RInv.slen h0 h1;generalize hd : r.length - q.length = d at *;generalize hs : prem q j p = s at *;have hsr : s.length = r.length := by omega
 have e1 : lead r = lead q ^ d * lead s * lead q := by
  unfold lead
  conv => lhs; rw [h2,cf_trim,cf_scl,← h2]
  rw [hsr,Int.pow_succ];unfold lead
  grind
 have hln := lead_ne hq hq0;have e2 : lead r / lead q = lead q ^ d * lead s := by rw [e1]; exact Int.mul_ediv_cancel _ hln
 refine ⟨⟨lead q ^ d * lead s,by rw [e1]; exact Int.mul_comm _ _⟩,h0,j + 1,by omega,?_⟩
 rw [k'j0,hs];refine nrm_ext (sub_nrm _ _) (nrm_trim _) fun k => ?_;have e3 := step_sum (a := lead q) (c := lead s) (q := q) (r := s) h0.1 (by omega) (Int.mul_comm _ _) k
 rw [show s.length - q.length = d by omega] at e3
 rw [cf_sub,cf_trim,cf_scl,cf_scl,e2]
 conv => lhs; rw [h2,cf_trim,cf_scl,Int.pow_succ]
 have e4 : lead q ^ d * lead q * cf s k = lead q ^ d * (lead q * cf s k) := Int.mul_assoc _ _ _;rw [e4,e3,Int.mul_add,Int.mul_assoc];omega
theorem RInv.done {p q r : List Int} {m : Nat} (hq : Nrm q) (h : RInv p q r m) (hr : r.length < q.length) : r = rest p q := by
 obtain ⟨h0,j,h1,h2⟩ := RInv.downs hq h 0 (Nat.zero_le _) (by omega)
 rw [h2,rest,show p.length + 1 - q.length = j by omega]
 exact trim_ext fun k => by rw [cf_scl]; simp
theorem RInv.mx {p q r : List Int} {m : Nat} (h : RInv p q r m) : mx r ≤ (2 * mx q) ^ (p.length + 1 - q.length) * mx p := by
 obtain ⟨h0,j,h1,rfl⟩ := h;refine Nat.le_trans (mx_trim _) (Nat.le_trans (mx_scl _ _) ?_);rw [← h1,Nat.add_comm j,Nat.pow_add,Nat.mul_assoc];refine Nat.mul_le_mul ?_ (mx_prem q j p);rw [Int.natAbs_pow];exact Nat.pow_le_pow_left (Nat.le_trans (mx_cf q _) (by omega)) m
def DInv (p q : List Int) (n : Nat) (r a : List Int) : Prop := ∃ s : List Int,s.length = n + (q.length - 1) ∧ (∀ k,cf r k = cf s k) ∧ dvs q (p.length + 1 - q.length) p = (dvs q n s).map (· ++ a)
theorem DInv.start {p q : List Int} (h : q.length ≤ p.length) (hq : 0 < q.length) : DInv p q (p.length - q.length + 1) p [] :=
 ⟨p,by omega,fun _ => rfl,by rw [show p.length + 1 - q.length = p.length - q.length + 1 by omega]; cases dvs q (p.length - q.length + 1) p <;> simp⟩
theorem DInv.step {p q r a : List Int} {n : Nat} (h : DInv p q (n + 1) r a) (hr : cf r (n + q.length - 1) % lead q = 0) (hq : 0 < q.length) :
 DInv p q n (sub r (scl (cf r (n + q.length - 1) / lead q) (shift n q))) (cf r (n + q.length - 1) / lead q :: a) := by
 obtain ⟨s,h1,h2,h3⟩ := h;have e0 : n + q.length - 1 = s.length - 1 := by omega
 rw [h2,e0] at hr ⊢;have hle : cf s (s.length - 1) = lead s := rfl;rw [hle] at hr ⊢;refine ⟨Pl.step 1 (lead s / lead q) q s,by rw [step_length]; omega,fun k => ?_,?_⟩
 ·have e3 := step_sum (a := 1) (c := lead s / lead q) (q := q) (r := s) hq (by omega) (by rw [Int.one_mul]; exact (Int.ediv_mul_cancel (Int.dvd_of_emod_eq_zero hr)).symm) k
  rw [show s.length - q.length = n by omega] at e3
  rw [cf_sub,cf_scl,h2];omega
 ·rw [h3,dvs,if_pos hr]
  cases dvs q n (Pl.step 1 (lead s / lead q) q s) <;> simp
theorem DInv.done {p q r a : List Int} (h : DInv p q 0 r a) (hr : Nrm r) : dvs q (p.length + 1 - q.length) p = if r = [] then some a else none := by
 obtain ⟨s,h1,h2,h3⟩ := h;have e : r = trim s := nrm_ext hr (nrm_trim _) fun k => by rw [cf_trim]; exact h2 k
 rw [h3,dvs,e]
 split <;> simp
def evs (L : List Int) (x : Int) : Nat → Int
 | 0 => 0
 | n + 1 => evs L x n + cf L n * x ^ n
theorem k'j1 (a : Int) (L : List Int) (x : Int) (n : Nat) : evs (a :: L) x (n + 1) = a + x * evs L x n := by
 induction n with
 | zero => simp [evs,cf_cons_zero]
 | succ n ih =>
  rw [evs,ih,evs,cf_cons_succ,Int.pow_succ]; grind
theorem evs_all (L : List Int) (x : Int) : evs L x L.length = ev L x := by
 induction L with
 | nil => rfl
 | cons a L ih => rw [List.length_cons,k'j1,ih,ev]
end Pl
end Go.Proofs.YtepddegphdlbeaaGreat
namespace Go.Proofs.YtepddegphdlbeaaGreat
open Go.RowKit
theorem Rz.one {w : World} {u : Value} {z : Int} (h : Rz w u z) : u.oneCell' = true := by obtain ⟨pu,bu,ou,cu,rfl,-⟩ := h; rfl
theorem k'j2 {P : Program} (hP : P = Tryz.prog) {w0 w5 : World} {v u : Value} {p : List Int} {z : Int} {o : Oper} {a : Act} {K : Act → World → Prop} {Q : Exit → Act → World → Prop} (s x : Operand)
 (ho : o.op = .call { callee := .builtin .append,args := #[s,x],argTypes := #[34,34] })
 (hs : a.eval s = v) (hx : a.eval x = .slice (some ⟨w5.heap.size,0,none⟩) 1 1) (hrow : RowP w5 w0.heap.size v p) (hz : Rz w5 u z) (hl : p.length ≤ 100000) (hb : Below w0.heap.size w0 w5)
 (h : ∀ v' w',RowP w' w0.heap.size v' (p ++ [z]) → Below w0.heap.size w0 w' → w5.heap.size ≤ w'.heap.size → K (a.put o.dst v') w') : o.wp P a (w5.alloc (.cells #[.bool (decide (z < 0)),u] 52)) K Q := by
 subst hP;have hi : (Tryz.prog.info? 52).map (fun i => (i.zero,i.size,i.bytes)) = some (some (.agg #[.bool false,.slice none 0 0]),2,32) := by kernel_rfl
 obtain ⟨i0,hi0,hz0,hz1,hz2⟩ := info_parts hi;obtain ⟨us,hul,hown,hzs⟩ := hrow;have hal := k'5u w5 (.cells #[.bool (decide (z < 0)),u] 52);have hsz := hb.size;refine wp_append_own _ s x 34 ho w0.heap.size 52 i0 (.agg #[.bool false,.slice none 0 0]) 2 32 Tryz.underlying34 hi0 hz0 hz1 hz2 rfl (by decide) v p.length (rv p us) hs (hown.alloc _) ⟨w5.heap.size,0,none⟩ 1 1 [.bool (decide (z < 0)),u] hx rfl (k'f9 _ _ _ _) ?_ ?_ ?_ ?_ ?_
 ·intro y hy
  simp at hy;rcases hy with rfl | rfl
  ·rfl
  ·exact hz.one
 ·unfold maxLen; omega
 ·omega
 ·simp; omega
 ·intro v' w1 hown1 hgrow1 _
  refine h v' w1 (RowP.snoc hul (hown.alloc _) (fun j h1 h2 => (hzs j h1 h2).below hal) hgrow1 hown1 (hz.below hal)) ((hb.alloc hb.size _).grown hgrow1 (by simp; omega) (fun q hq => (hown.lt q hq).1)) ?_
  have := hgrow1.size;simp at this;omega
theorem k'j3 {P : Program} (hP : P = Tryz.prog) {w0 w5 : World} {v u : Value} {p : List Int} {z : Int} {ops : Array Oper} {rest : List Oper} {o : Oper} {a : Act} {Q : Exit → Act → World → Prop} (hgd : o.guard = none) (s x : Operand)
 (ho : o.op = .call { callee := .builtin .append,args := #[s,x],argTypes := #[34,34] })
 (hs : a.eval s = v) (hx : a.eval x = .slice (some ⟨w5.heap.size,0,none⟩) 1 1) (hrow : RowP w5 w0.heap.size v p) (hz : Rz w5 u z) (hl : p.length ≤ 100000) (hb : Below w0.heap.size w0 w5)
 (h : ∀ v' w',RowP w' w0.heap.size v' (p ++ [z]) → Below w0.heap.size w0 w' → w5.heap.size ≤ w'.heap.size → wpList P ops Q rest (a.put o.dst v') w') : wpList P ops Q (o :: rest) a (w5.alloc (.cells #[.bool (decide (z < 0)),u] 52)) :=
 wpList_plain hgd fun _ hK => k'j2 hP s x ho hs hx hrow hz hl hb fun v' w' h2 h3 h4 => hK _ _ (h v' w' h2 h3 h4)
def Bz (w : World) (g : Nat) (z : Int) : Prop := ∃ v,Rz w v z ∧ ZC (.bool (decide (z < 0))) v w g
theorem Bz.below {w w' : World} {g : Nat} {z : Int} (h : Bz w g z) (hb : Below w.heap.size w w') : Bz w' g z := by
 obtain ⟨v,h1,h2⟩ := h; exact ⟨v,h1.below hb,h2.next hb⟩
theorem Bz.lt {w : World} {g : Nat} {z : Int} (h : Bz w g z) : g < w.heap.size := by obtain ⟨v,h1,h2⟩ := h; exact h2.lt
theorem Bz.made {w : World} {v : Value} {z : Int} (h : Rz w v z) : Bz (w.alloc (.cells #[.bool (decide (z < 0)),v] 52)) w.heap.size z := ⟨v,Ri.allocd h _,ZC.new rfl⟩
theorem Rz.noint {w : World} {v : Value} {z : Int} (h : Rz w v z) : ∀ n,v ≠ .int .i64 n := by obtain ⟨p,b,o,c,rfl,-⟩ := h; intro n; simp
theorem Bz.open_ {w : World} {g : Nat} {z : Int} (h : Bz w g z) : ∃ (p : Option Addr) (c : Nat),Rz w (.slice p (Nm.dg D9 z.natAbs).length c) z ∧ w.cell? ⟨g,0,none⟩ = some (.bool (decide (z < 0))) ∧ w.cell? ⟨g,1,none⟩ = some (.slice p (Nm.dg D9 z.natAbs).length c) ∧ w.frozen? ⟨g,0,none⟩ = false ∧ w.frozen? ⟨g,1,none⟩ = false := by
 obtain ⟨v,h1,h2,h3,h4,h5⟩ := h;have h6 := h1;obtain ⟨p,b,o,c,rfl,-⟩ := h6;exact ⟨p,c,h1,h2,h3,h4,h5⟩
theorem Rz.stored {w : World} {g : Nat} {z z0 : Int} {v : Value} (h : Rz w v z) (k : Bz w g z0) (u1 u2 : Value) : Rz ((w.setCell ⟨g,0,none⟩ u1).setCell ⟨g,1,none⟩ u2) v z := by
 obtain ⟨v0,h1,h2⟩ := k;exact Ri.set2 h h2.1 h2.2.1 h1.noint
theorem Bz.store {w : World} {g : Nat} {z z0 : Int} {v : Value} (k : Bz w g z0) (h : Rz w v z) : Bz ((w.setCell ⟨g,0,none⟩ (.bool (decide (z < 0)))).setCell ⟨g,1,none⟩ v) g z :=
 ⟨v,h.stored k _ _,by obtain ⟨v0,h1,h2⟩ := k; exact h2.set⟩
theorem Bz.other {w : World} {g g2 : Nat} {z z2 : Int} (h : Bz w g z) (k : Bz w g2 z2) (hn : ¬ g = g2) (u1 u2 : Value) : Bz ((w.setCell ⟨g2,0,none⟩ u1).setCell ⟨g2,1,none⟩ u2) g z := by
 obtain ⟨v,h1,h2⟩ := h;exact ⟨v,h1.stored k _ _,h2.other hn⟩
theorem Bz.alloc {w : World} {g : Nat} {z : Int} (h : Bz w g z) (o : Obj) : Bz (w.alloc o) g z := h.below (k'5u w o)
theorem k'j4 (w : World) : Rz w (.slice none 0 0) 0 := by
 have h := Ri.nil w;exact h
end Go.Proofs.YtepddegphdlbeaaGreat
