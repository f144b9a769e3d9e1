/- What the theorem leans on, part Y19. -/
import Derived.Test.YtepddegphdlbeaaGreatY15
import Derived.Test.YtepddegphdlbeaaGreatY13
import Derived.Test.YtepddegphdlbeaaGreatY12
import Derived.Test.YtepddegphdlbeaaGreatY11
import Derived.Test.YtepddegphdlbeaaGreatY10
import Derived.Test.YtepddegphdlbeaaGreatY7
import Derived.Test.YtepddegphdlbeaaGreatY4
import Derived.Test.YtepddegphdlbeaaGreatY3
import Derived.Test.YtepddegphdlbeaaGreatY2
import Derived.Test.YtepddegphdlbeaaGreatY1
import Derived.Test.YtepddegphdlbeaaGreatY0
import Derived.Test.YtepddegphdlbeaaGreatProg
import Derived.WalkKit
import Derived.WalkSpells
import Derived.WalkLawsBesides
import Derived.Lib.Hide
import Derived.Deep.QuietTactic
import Derived.BigQuiet
import Derived.Shelf.Small.Bits
import Derived.Shelf.Small.Wraps
import Derived.Shelf.Strconv.Itoa0
import Derived.Shelf.Bits.Mul64
import Derived.Ground.Names2Prog
import Derived.Shelf.Slices.SearchI
import Derived.Shelf.Spec.BitsCarry
import Derived.Deep.LoopGhost
import Derived.Deep.RegionHeld3
import Derived.Deep.DeepCutAuto
import Derived.Test.YtepddegphdlbeaaGreatY6
import Derived.Test.YtepddegphdlbeaaGreatY5
import Derived.Laws.AppendOwnNone
import Derived.Test.YtepddegphdlbeaaGreatY8
import Derived.Test.YtepddegphdlbeaaGreatY9
import Derived.Below
import Derived.RangeFuncNested
import Derived.RangeFuncBound
import Derived.RangeFuncCalls
import Derived.RangeFuncLeaves
import Derived.Shelf.Abstract
import Derived.Shelf.RegionOpen
import Derived.OwnWalkIn
import Derived.TacticsInMore
import Derived.LoopNIn
import Derived.LoopIn
import Derived.OrdersIn
import Derived.Deep.RegionHeld
import Derived.Maps.AppendAt
import Derived.Lib.SliceRun
import Derived.IntWalk
import Derived.Test.YtepddegphdlbeaaGreatY14
import Derived.Test.YtepddegphdlbeaaGreatY17
set_option maxRecDepth 100000
set_option maxHeartbeats 16000000
set_option linter.all false
namespace Go.Proofs.YtepddegphdlbeaaGreat
open Go.RowKit
theorem k'm5 (c m k : Nat) (x e : Int) (w : World) (hc : Ck w c e) (h1 : w.cell? ⟨m,0,none⟩ = some (.pointer (some ⟨c,0,none⟩))) (hk : k ≤ 100)
 (hx : x.natAbs < Top) (hm : (x * ((k : Int) + 1)).natAbs < Top) :
 Calls Tryz.prog 88 #[.int .i64 (k : Int),Z x,.pointer (some ⟨m,0,none⟩)] w (Ret (Z (x * ((k : Int) + 1))) w) := by
 have hW0 : (101 : Nat) < W := by decide
 have hW : ((k : Int) + 1).natAbs < Top := Nat.lt_of_le_of_lt (show ((k : Int) + 1).natAbs ≤ 101 by omega) (Nat.lt_of_lt_of_le hW0 k'48)
 have HO := i' (fun w => k'gw ((k : Int) + 1) w (by omega) (by omega))
 have HD := i' (fun w hc => k'es c x ((k : Int) + 1) e w hc hx hW hm);have hl1 := World.block_lt_of_cell? w _ h1;simp only at hl1;obtain ⟨w0,hw0⟩ : ∃ w0 : World,w0 = (w.alloc (.cells #[.bool (zb x),.string (zs x)] 44)).alloc (.cells #[.bool false,.string ⟨#[]⟩] 44) := ⟨_,rfl⟩;have HB0 : Hid (Below w.heap.size w w0) := by show Below _ _ _; rw [hw0]; exact ((Below.refl _ _).alloc (Nat.le_refl _) _).alloc (by simp) _
 have HC0 : Hid (Ck w0 c e) := by rw [hw0]; exact (hc.alloc _).alloc _
 have k1 : w0.cell? ⟨m,0,none⟩ = some (.pointer (some ⟨c,0,none⟩)) := k'4i HB0.out h1;have k2 : w0.cell? ⟨w.heap.size,0,none⟩ = some (.bool (zb x)) := by rw [hw0]; simp [go_sem]
 have k3 : w0.cell? ⟨w.heap.size,1,none⟩ = some (.string (zs x)) := by rw [hw0]; simp [go_sem]
 have k4 : w0.cell? ⟨w.heap.size + 1,0,none⟩ = some (.bool false) := by rw [hw0]; simp [go_sem]
 have k5 : w0.cell? ⟨w.heap.size + 1,1,none⟩ = some (.string ⟨#[]⟩) := by rw [hw0]; simp [go_sem]
 have k6 : w0.frozen? ⟨w.heap.size + 1,0,none⟩ = false := by rw [hw0]; simp [go_sem]
 have k7 : w0.frozen? ⟨w.heap.size + 1,1,none⟩ = false := by rw [hw0]; simp [go_sem]
 have KK := i' (And.intro k4 (And.intro k5 (And.intro k6 k7)));have K3 := i' (And.intro k1 (And.intro k2 k3));have u5 : ¬ m = w.heap.size + 1 := by omega
 have u6 : ¬ w.heap.size + 1 = m := by omega
 have u7 : ¬ m = w.heap.size := by omega
 have u8 : ¬ w.heap.size = m := by omega
 have hk0 : (0 : Int) ≤ (k : Int) ∧ (k : Int) ≤ 100 := by omega
 have hzd : w.heap.size + 1 < w0.heap.size := by rw [hw0]; simp
 clear hc hx hm hW k1 k2 k3 k4 k5 k6 k7 hk h1;unfold Z at HD HO ⊢;generalize x * ((k : Int) + 1) = d at *;generalize zb x = xb at *;generalize zs x = xs at *;generalize zb d = db at *;generalize zs d = ds at *;go_enter Tryz.func88,Tryz.ntmps88;go_upto_region 1 with (fail);rw [← hw0];clear hw0;obtain ⟨k1,k2,k3⟩ := K3.out;obtain ⟨k4,k5,k6,k7⟩ := KK.out;have vw : IntKind.i64.wrap ((k : Int) + 1) = (k : Int) + 1 := IntWalk.i64_in _ (by omega)
 go_region_held3 (fun W' => W'.cell? ⟨m,0,none⟩ = some (.pointer (some ⟨c,0,none⟩)) ∧ W'.cell? ⟨w.heap.size,0,none⟩ = some (.bool xb) ∧ W'.cell? ⟨w.heap.size,1,none⟩ = some (.string xs)) (go_keep)
  (first
   | (go_at_call 73; (with_reducible refine (HO.out _).mono ?_); rintro e z1 ⟨rfl,b1⟩; have d1 := k'4h ((Below.refl w0.heap.size w0).drew) b1; have p1 := k'4i d1 k1; have p2 := k'4i d1 k2; have p3 := k'4i d1 k3; have p4 := k'4i d1 k4; have p5 := k'4i d1 k5; have p6 := k'4j d1 k4 k6; have p7 := k'4j d1 k5 k7; have G1 := i' (And.intro d1 (HC0.out.below d1)); clear b1 d1)
   | (go_at_call 89; (with_reducible refine (HD.out _ G1.out.2).mono ?_); rintro e z2 ⟨rfl,b2⟩; have d2 := k'4h G1.out.1 b2; have p1 := k'4i d2 k1; have p2 := k'4i d2 k2; have p3 := k'4i d2 k3; have p4 := k'4i d2 k4; have p5 := k'4i d2 k5; have p6 := k'4j d2 k4 k6; have p7 := k'4j d2 k5 k7; have G2 := i' d2; clear b2 d2))
 all_goals
  have HZ := i' (((k'4h HB0.out G2.out).setCell (p := ⟨w.heap.size + 1,0,none⟩) (by simp) (.bool db)).setCell (p := ⟨w.heap.size + 1,1,none⟩) (by simp) (.string ds))
  go_wp2;exact bodyPost_ret (v := .agg #[.bool db,.string ds]) (by simp [results,Tryz.results88,go_sem,p4,p5]) rfl ⟨rfl,HZ.out⟩
def derL (p : List Int) : List Int := (List.range (p.length - 1)).map fun k => Pl.cf p (k + 1) * ((k : Int) + 1)
theorem k'm6 (p : List Int) : (derL p).length = p.length - 1 := by simp [derL]
theorem k'm9 (p : List Int) (v : Value) (w : World) (h : Rp w v p) (hp : VP p) (h0 : p ≠ []) (hm : ∀ k,k < p.length - 1 → (Pl.cf p (k + 1) * ((k : Int) + 1)).natAbs < Top) :
 Calls Tryz.prog 32 #[v] w (ResP (derL p) w) := by
 have HD := i' (k'f0 p v w h hp);have hpl := List.length_pos_iff.2 h0;have hl := hp.len;have HRP := i' h;obtain ⟨a,b,off,cap,rfl,h2,h3,h4,h5⟩ := h.open_;obtain rfl := h4 h0;have HCh : Hid (∀ (c m : Nat) (v' : Value) (w' : World),Rp w' v' (p.drop 1) → Ck w' c 0 → w'.cell? ⟨m,0,none⟩ = some (.pointer (some ⟨c,0,none⟩)) →
  Calls Tryz.prog 87 #[v',.func (.func 88) #[] #[.pointer (some ⟨m,0,none⟩)]] w' (RpPost (derL p) w')) := fun c m v' w' hr hck hmc =>
  k'hd m (p.drop 1) (derL p) v' w' hr (by rw [k'm6]; simp) (by simp; omega) (fun k wr hk hk2 hb => by
   have hk3 : k + 1 < p.length := by simp at hk; omega
   have e1 : (p.drop 1)[k] = Pl.cf p (k + 1) := by rw [Pl.cf_lt hk3]; simp [Nat.add_comm]
   have e2 : (derL p)[k] = Pl.cf p (k + 1) * ((k : Int) + 1) := by simp [derL]
   rw [e1,e2];exact k'm5 c m k _ 0 wr (hck.below hb) (k'4i hb hmc) (by omega) ((by rw [Pl.cf_lt hk3]; exact hp.top _ (List.getElem_mem hk3))) (hm k (by omega)))
 have HTail : Hid (∀ w' a' cap',Below w.heap.size w w' → (1 < p.length → a' = some ⟨b,off + 2,none⟩) → p.length - 1 ≤ cap' → cap' ≤ maxLen → Rp w' (.slice a' (p.length - 1) cap') (p.drop 1)) := fun w' a' cap' hb ha hc1 hc2 =>
  Rp.mk (b := b) (off := off + 2) (by simp) (by simp; omega) hc2 (fun hne => ha (by
   have := List.length_pos_iff.2 hne;simp at this; omega)) (fun k hk => by
   have hk3 : k + 1 < p.length := by simp at hk; omega
   have h6 := h5 (k + 1) hk3;have e1 : (p.drop 1)[k] = p[k + 1] := by simp [Nat.add_comm]
   rw [e1];refine ⟨k'4i hb ?_,k'4i hb ?_⟩
   ·have := h6.1
    rwa [show off + (k + 1) * 2 = off + 2 + k * 2 by omega] at this
   ·have := h6.2
    rwa [show off + (k + 1) * 2 + 1 = off + 2 + k * 2 + 1 by omega] at this)
 unfold maxLen at h3;generalize derL p = r at *;obtain ⟨n,hn⟩ : ∃ n,p.length = n + 1 := ⟨p.length - 1,by omega⟩
 rw [hn] at HD HTail h2 hl ⊢;rw [Nat.add_sub_cancel] at HTail;have hz : (((n + 1 : Nat) : Int) == 0) = false := by simp; omega
 clear h h4 h5 h0 hm hp hpl hn HRP;go_enter Tryz.func32,Tryz.ntmps32;go_wp2_with fail;refine HD.out.mono ?_;rintro en w1 ⟨rfl,b1⟩;have hs1 := b1.size;obtain ⟨w2,hw2⟩ : ∃ w2 : World,w2 = (w1.alloc (.cells #[.int .i64 0] 96)).alloc (.cells #[.pointer (some ⟨w1.heap.size,0,none⟩)] 94) := ⟨_,rfl⟩;have B2 : Hid (Below w.heap.size w w2) := by show Below _ _ _; rw [hw2]; exact (b1.alloc b1.size _).alloc (by simp; omega) _
 have K2 : Hid (Ck w2 w1.heap.size 0) := by
  show Ck _ _ _;rw [hw2];have h5 : Ck (w1.alloc (.cells #[.int .i64 0] 96)) w1.heap.size 0 := heap_alloc_new w1 _;exact h5.alloc _
 have M2 : Hid (w2.cell? ⟨w1.heap.size + 1,0,none⟩ = some (.pointer (some ⟨w1.heap.size,0,none⟩))) := by show _ = _; rw [hw2]; simp [go_sem]
 clear b1;go_upto_region 6 with (fail);rw [← hw2];clear hw2;have k1 := M2.out;have B2d := i' B2.out.drew;by_cases hcap : cap = 1
 ·subst hcap
  obtain rfl : n = 0 := by omega
  go_region_held3 (fun W' => W'.cell? ⟨w1.heap.size + 1,0,none⟩ = some (.pointer (some ⟨w1.heap.size,0,none⟩))) (go_keep)
   (first
    | (go_at_call 87; (with_reducible refine (HCh.out w1.heap.size (w1.heap.size + 1) _ _ (HTail.out _ _ _ B2d.out (fun h => absurd h (by simp)) (by omega) (by decide)) (by exact K2.out.drew) (by rw [k'gs]; exact k1)).mono ?_); rintro e z1 ⟨v5,rfl,r5,b5⟩; have d1 := k'4h ((Below.refl w2.heap.size w2).drew) b5; have p1 := k'4i d1 k1; have G1 := i' (And.intro d1 (And.intro (K2.out.below d1) r5)); obtain ⟨a5,bb5,o5,c5,rfl,rr5⟩ := r5.open_; clear b5 d1 r5 rr5)
    | (go_at_call 80; (with_reducible refine (k'fp _ _ _ _ _ G1.out.2.1).mono ?_); rintro e z2 ⟨rfl,b6⟩; have d2 := k'4h G1.out.1 b6; have p1 := k'4i d2 k1; have G2 := i' (And.intro d2 (Rw.below G1.out.2.2 b6)); clear b6 d2))
  all_goals
   go_wp2;go_ret2;exact ⟨_,rfl,G2.out.2,k'4h B2.out G2.out.1⟩
 ·have hcap2 : ¬ 1 = cap := fun h => hcap h.symm
  have hcap3 : ((1 : Int) < (cap : Int)) := by omega
  have hi0 : (0 : Int) ≤ (n : Int) := by omega
  have hi1 : (n : Int) + 1 ≤ (cap : Int) := by omega
  have hi2 : (1 : Int) ≤ (n : Int) + 1 := by omega
  have hi3 : n + 1 ≤ cap := h2;go_region_held3 (fun W' => W'.cell? ⟨w1.heap.size + 1,0,none⟩ = some (.pointer (some ⟨w1.heap.size,0,none⟩))) (go_keep)
   (first
    | (go_at_call 87; (with_reducible refine (HCh.out w1.heap.size (w1.heap.size + 1) _ _ (HTail.out _ _ _ B2d.out (fun _ => rfl) (by omega) (by unfold maxLen; omega)) (by exact K2.out.drew) (by rw [k'gs]; exact k1)).mono ?_); rintro e z1 ⟨v5,rfl,r5,b5⟩; have d1 := k'4h ((Below.refl w2.heap.size w2).drew) b5; have p1 := k'4i d1 k1; have G1 := i' (And.intro d1 (And.intro (K2.out.below d1) r5)); obtain ⟨a5,bb5,o5,c5,rfl,rr5⟩ := r5.open_; clear b5 d1 r5 rr5)
    | (go_at_call 80; (with_reducible refine (k'fp _ _ _ _ _ G1.out.2.1).mono ?_); rintro e z2 ⟨rfl,b6⟩; have d2 := k'4h G1.out.1 b6; have p1 := k'4i d2 k1; have G2 := i' (And.intro d2 (Rw.below G1.out.2.2 b6)); clear b6 d2))
  all_goals
   go_wp2;go_ret2;exact ⟨_,rfl,G2.out.2,k'4h B2.out G2.out.1⟩
end Go.Proofs.YtepddegphdlbeaaGreat
namespace Go.Proofs.YtepddegphdlbeaaGreat
open Go.RowKit Go.Shelf
attribute [local go_sem] Oper.semAt_some
def clipF (p q : List Int) : List Int := (List.range (max p.length q.length)).map fun k => clip (Pl.cf p k + Pl.cf q k)
theorem k'ma (p q : List Int) : (clipF p q).length = max p.length q.length := by simp [clipF]
theorem k'mb (p q : List Int) (k : Nat) (h : k < max p.length q.length) : Pl.cf (clipF p q) k = clip (Pl.cf p k + Pl.cf q k) := by
 rw [clipF,Pl.cf_map_range,if_pos h]
theorem k'mc (p q : List Int) : ∀ a ∈ clipF p q,a.natAbs < Top := by
 intro a ha;simp only [clipF,List.mem_map,List.mem_range] at ha;obtain ⟨k,_,rfl⟩ := ha;exact k'gv _
theorem k'md {p q : List Int} (h : ∀ k,(Pl.cf p k + Pl.cf q k).natAbs < Top) : clipF p q = Pl.add p q :=
 Pl.ext_cf (by rw [k'ma,Pl.add_length]) fun k hk => by
  rw [k'ma] at hk;rw [k'mb _ _ _ hk,Pl.cf_add,k'ej (h k)]
def chE (e : Int) (g : Nat → Int) : Nat → Int
 | 0 => e
 | k + 1 => er (chE e g k) (g k)
theorem k'me {e : Int} {g : Nat → Int} (h : ∀ k,(g k).natAbs < Top) (n : Nat) : chE e g n = e := by
 induction n with
 | zero => rfl
 | succ n ih => rw [chE,k'ei _ (h n),ih]
def hcp (L : List Int) (a b : Int) (k : Nat) : List Int := Pl.comp a b (L.drop (L.length - k))
theorem k'mf (L : List Int) (a b : Int) : hcp L a b 0 = [] := by simp [hcp,Pl.comp]
theorem k'mg (p : List Int) (a b : Int) : Pl.pmul p [a,b] = Pl.mul p [a,b] := by
 unfold Pl.pmul
 split
 ·next h =>
  rcases h with h | h
  ·rw [h]; rfl
  ·simp at h
 ·rfl
theorem k'mh (L : List Int) (a b : Int) (k : Nat) (h : k < L.length) : hcp L a b (k + 1) = Pl.add (Pl.mul (hcp L a b k) [a,b]) [Pl.cf L (L.length - 1 - k)] := by
 unfold hcp;rw [List.drop_eq_getElem_cons (by omega : L.length - (k + 1) < L.length),Pl.comp,← Pl.cf_lt (by omega),show L.length - (k + 1) + 1 = L.length - k by omega,show L.length - (k + 1) = L.length - 1 - k by omega,k'mg]
theorem k'mi (L : List Int) (a b : Int) : hcp L a b L.length = Pl.comp a b L := by simp [hcp]
def Sx (w : World) (g : Nat) (v : Value) : Prop := w.heap[g]? = some (.cells #[v] 23 (0,0))
theorem Sx.lt {w : World} {g : Nat} {v : Value} (h : Sx w g v) : g < w.heap.size := lt_of_block h
theorem Sx.cell {w : World} {g : Nat} {v : Value} (h : Sx w g v) : w.cell? ⟨g,0,none⟩ = some v := by rw [cell_of_row w g 0 _ _ _ h]; rfl
theorem Sx.free {w : World} {g : Nat} {v : Value} (h : Sx w g v) : w.frozen? ⟨g,0,none⟩ = false := frozen_of_row w g 0 _ _ h
theorem Sx.below {w w' : World} {g : Nat} {v : Value} (h : Sx w g v) (hb : Below w.heap.size w w') : Sx w' g v := (hb.block g h.lt).trans h
theorem Sx.alloc {w : World} {g : Nat} {v : Value} (h : Sx w g v) (o : Obj) : Sx (w.alloc o) g v := h.below (k'5u w o)
theorem k'mj {W W' : World} {row : Option Nat} {g : Nat} {v : Value} (h : Sx W g v) (hg : W.grownBy W' row) (hr : ∀ r,row = some r → ∃ o : Obj,W.heap[r]? = some o ∧ o.isCells = false) : Sx W' g v :=
 (hg.block g h.lt fun e' => by
  obtain ⟨o,ho,hc⟩ := hr g e'.symm;rw [show W.heap[g]? = _ from h] at ho; cases ho; cases hc).trans h
theorem k'mk {c : Nat} {w w' : World} {g : Nat} {v : Value} (hb : But c w w') (h : Sx w g v) (hn : g ≠ c) (u : Value) : Sx (w'.setCell ⟨g,0,none⟩ u) g u :=
 heap_setCell_same w' g 0 _ _ u ((hb.block g h.lt hn).trans h)
theorem Rw.setS {w : World} {v : Value} {L : List (Bool × ByteArray)} {g : Addr} {p : Option Addr} {n cap : Nat} (h : Rw w v L) (hg : w.cell? g = some (.slice p n cap)) (u : Value) : Rw (w.setCell g u) v L := by
 obtain ⟨a,b,off,cp,h1,h2,h3,h4,h5⟩ := h;refine ⟨a,b,off,cp,h1,h2,h3,h4,fun k hk => ⟨?_,?_⟩⟩
 ·rw [World.cell?_setCell_other _ _ _ _ (by intro e; rw [e,(h5 k hk).1] at hg; cases hg)]
  exact (h5 k hk).1
 ·rw [World.cell?_setCell_other _ _ _ _ (by intro e; rw [e,(h5 k hk).2] at hg; cases hg)]
  exact (h5 k hk).2
theorem k'ml {W W' : World} {row : Option Nat} {v : Value} {L : List (Bool × ByteArray)} (h : Rw W v L) (hg : W.grownBy W' row) (hr : ∀ r,row = some r → ∃ o : Obj,W.heap[r]? = some o ∧ o.isCells = false) : Rw W' v L := by
 obtain ⟨a,b,off,cp,h1,h2,h3,h4,h5⟩ := h;exact ⟨a,b,off,cp,h1,h2,h3,h4,fun k hk => ⟨cell_kept (h5 k hk).1 hg hr,cell_kept (h5 k hk).2 hg hr⟩⟩
theorem k'mm {w : World} {g o : Nat} {u : Value} {a : Addr} {v : Value} (hn : g ≠ a.block) (h : w.cell? a = some v) : (w.setCell ⟨g,o,none⟩ u).cell? a = some v := by
 rw [World.cell?_setCell_far _ _ _ _ (by exact hn)]; exact h
def CmI (L : List Int) (a b : Int) (c M0 Sb n₀ Bs : Nat) (sv0 atv : Value) (e : Int) (w : World) (pre : List (Fin L.length)) (W : World) : Prop :=
 (∃ (sl : List Int) (sv : Value) (en : Int),Rp W sv sl ∧ Sx W Sb sv ∧ Ck W c en ∧ sl.length = pre.length ∧ (∀ x ∈ sl,x.natAbs < Top) ∧ ∀ k h,pre = dn L.length k h → en = e ∧ sl = hcp L a b k) ∧
 (W.cell? ⟨M0,0,none⟩ = some (.pointer (some ⟨c,0,none⟩)) ∧ W.cell? ⟨M0 + 1,0,none⟩ = some atv ∧ W.cell? ⟨Bs,0,none⟩ = some sv0) ∧ Rp W atv [a,b] ∧ Bn c n₀ w W
theorem k'mn (L : List Int) (a b : Int) (c M0 Sb n₀ Bs B : Nat) (sv0 atv : Value) (e : Int) (w : World) (hn : n₀ ≤ w.heap.size) (hB : n₀ ≤ B) : OwnFrom B (CmI L a b c M0 Sb n₀ Bs sv0 atv e w) := by
 rintro pre W W' row ⟨⟨sl,sv,en,h1,h2,h3,h4,h5,h6⟩,⟨h7,h8,h9⟩,h10,h11⟩ hg hr;have hr' : ∀ r,row = some r → ∃ o : Obj,W.heap[r]? = some o ∧ o.isCells = false := fun r e => (hr r e).2;exact ⟨⟨sl,sv,en,k'ml h1 hg hr',k'mj h2 hg hr',k'gy h3 hg hr',h4,h5,h6⟩,⟨cell_kept h7 hg hr',cell_kept h8 hg hr',cell_kept h9 hg hr'⟩,k'ml h10 hg hr',k'fv (β := Unit) hn hB () W W' row h11 hg hr⟩
theorem k'mo {p : List Int} (h : ∀ a ∈ p,a.natAbs < Top) (k : Nat) : (Pl.cf p k).natAbs < Top := by
 by_cases hk : k < p.length
 ·rw [Pl.cf_lt hk]; exact h _ (List.getElem_mem hk)
 ·rw [Pl.cf_ge (by omega)]; exact Nat.lt_of_lt_of_le W0 k'48
theorem k'mp {px : Int} (L : List Int) (a b : Int) (pre : List (Fin L.length)) (x : Fin L.length) (sl r1 : List Int) (en e e1 : Int)
 (hgood : ∀ k h,pre = dn L.length k h → en = e ∧ sl = hcp L a b k) (hex : Pl.sm sl * Pl.mx [a,b] < Top → r1 = Pl.mul sl [a,b] ∧ e1 = en) (hpx : px = Pl.cf L x.val)
 (hm : ∀ k,k < L.length → Pl.sm (hcp L a b k) * Pl.mx [a,b] < Top) (hh : ∀ k,k ≤ L.length → ∀ j,(Pl.cf (hcp L a b k) j).natAbs < Top) :
 ∀ k h,pre ++ [x] = dn L.length k h → chE e1 (fun k => Pl.cf r1 k + Pl.cf [px] k) (max r1.length 1) = e ∧ clipF r1 [px] = hcp L a b k := by
 intro k h hk;obtain ⟨k',h',rfl,h1,h2⟩ := k'h2 hk;obtain ⟨g1,g2⟩ := hgood k' h' h1;have hk' : k' < L.length := by omega
 obtain ⟨f1,f2⟩ := hex (by rw [g2]; exact hm k' hk')
 have e3 : Pl.add r1 [px] = hcp L a b (k' + 1) := by rw [f1,g2,k'mh _ _ _ _ hk',hpx,h2]
 have f3 : ∀ j,(Pl.cf r1 j + Pl.cf [px] j).natAbs < Top := fun j => by rw [← Pl.cf_add,e3]; exact hh _ (by omega) j
 exact ⟨by rw [k'me f3,f2,g1],by rw [k'md f3,e3]⟩
theorem k'mq (c : Nat) (p : List Int) (v atv : Value) (a b den e : Int) (w : World) (h : Rp w v p) (hat : Rp w atv [a,b]) (hc : Ck w c e) (hl : p.length ≤ 25) (ht : ∀ a ∈ p,a.natAbs < Top) (hd : den.natAbs < Top) (ha : a.natAbs < Top) (hb : b.natAbs < Top)
 (hpow : ∀ j,j ≤ p.length - 1 → (den ^ j).natAbs < Top) (hfit : ∀ i j,j ≤ p.length - 1 → (Pl.cf p i * den ^ j).natAbs < Top)
 (hm : ∀ k,k < p.length → Pl.sm (hcp (Pl.lev p den) a b k) * Pl.mx [a,b] < Top) (hh : ∀ k,k ≤ p.length → ∀ j,(Pl.cf (hcp (Pl.lev p den) a b k) j).natAbs < Top) :
 Calls Tryz.prog 108 #[.pointer (some ⟨c,0,none⟩),v,atv,Z den] w (RpPost (Pl.comp a b (Pl.lev p den)) w) := by
 have HLv := i' (fun w' (hb : Below w.heap.size w w') => k'h7 c p v den e w' (h.below hb) (hc.below hb) (by omega) ht hd hpow hfit)
 obtain ⟨a9,b9,off,cap,rfl,h2,h3,h4,h5⟩ := h.open_;obtain ⟨L,hL⟩ : ∃ L,L = Pl.lev p den := ⟨_,rfl⟩;have hLl : L.length = p.length := by rw [hL,Pl.lev_length]
 have HLt : Hid (∀ x ∈ L,x.natAbs < Top) := by
  intro x hx;obtain ⟨i,hi,rfl⟩ := List.mem_iff_getElem.1 hx;rw [← Pl.cf_lt hi,hL,Pl.cf_lev];exact hfit i _ (by omega)
 rw [← hL] at HLv hh hm ⊢;rw [← hLl] at hh hm;obtain ⟨n,hnp⟩ : ∃ n,n = p.length := ⟨_,rfl⟩;rw [← hnp] at hl ⊢;have HN : Hid (n = L.length) := hnp.trans hLl.symm;rw [← hnp] at HLv;have HHh := i' hh;have HHm := i' hm;have HC := i' hc;have HAT := i' hat;have HNu := i' (And.intro ha hb);obtain ⟨pa,bpa,opa,cpa,rfl,-,-,-,-⟩ := hat.open_;clear h h2 h3 h4 h5 hc ht hd ha hb hpow hfit hh hm hL hLl hnp hat;unfold Z;refine (callsIn_wide (n := 5)).1 ?_;refine callsIn_of_wp_marks Tryz.func108 rfl trivial ?_ rfl;simp only [Tryz.ntmps108,List.size_toArray,List.length_cons,List.length_nil,Nat.reduceAdd,Nat.reduceSub,Array.replicate_succ,Array.replicate_zero,List.push_toArray,List.append_toArray,List.nil_append,List.cons_append]
 gi_wp2_with fail
 obtain ⟨W4,hW4⟩ : ∃ W4 : World,W4 = (((w.alloc (.cells #[.pointer (some ⟨c,0,none⟩)] 94)).alloc (.cells #[.slice pa 2 cpa] 23)).alloc (.cells #[.bool (zb den),.string (zs den)] 44)).alloc (.cells #[.slice none 0 0] 23) := ⟨_,rfl⟩;have hs4 : W4.heap.size = w.heap.size + 4 := by rw [hW4]; simp
 have t0 : W4.cell? ⟨w.heap.size,0,none⟩ = some (.pointer (some ⟨c,0,none⟩)) := by rw [hW4]; simp [go_sem]
 have t1 : W4.cell? ⟨w.heap.size + 1,0,none⟩ = some (.slice pa 2 cpa) := by rw [hW4]; simp [go_sem]
 have t4 : Sx W4 (w.heap.size + 1 + 1 + 1) (.slice none 0 0) := by
  rw [hW4];have h5 := heap_alloc_new (((w.alloc (.cells #[.pointer (some ⟨c,0,none⟩)] 94)).alloc (.cells #[.slice pa 2 cpa] 23)).alloc (.cells #[.bool (zb den),.string (zs den)] 44)) (.cells #[.slice none 0 0] 23);rw [World.size_alloc,World.size_alloc,World.size_alloc] at h5;exact h5
 have t5 : Below w.heap.size w W4 := by rw [hW4]; exact ((((Below.refl _ _).alloc (Nat.le_refl _) _).alloc (by simp) _).alloc (by simp; omega) _).alloc (by simp; omega) _
 have T := i' (And.intro t0 (And.intro t1 (And.intro t4 t5)));rw [← hW4];clear hW4 t0 t1 t4 t5;refine ⟨trivial,?_⟩;refine (callsIn_wide.2 (HLv.out W4 T.out.2.2.2)).mono ?_;rintro e0 w1 ⟨a2,n2,cap2,rfl,hr2,ho2,b1⟩;obtain rfl : n2 = n := by
  obtain ⟨_,_,_,_,e1,_⟩ := hr2.open_;injection e1 with _ e2 _;exact e2.trans HN.out.symm
 have hs1 := b1.size;obtain ⟨bL,hbL⟩ : ∃ bL,Hid ((0 < n2 → a2 = some ⟨bL,0,none⟩) ∧ (0 < n2 → w.heap.size + 4 ≤ bL ∧ bL < w1.heap.size) ∧ (∀ j (hj : j < L.length),w1.cell? ⟨bL,0 + j * 2,none⟩ = some (.bool (zb L[j])) ∧ w1.cell? ⟨bL,0 + j * 2 + 1,none⟩ = some (.string (zs L[j])))) := by
  by_cases h0 : L = []
  ·have h1 : n2 = L.length := HN.out
   rw [h0] at h1;exact ⟨0,fun h => absurd h (by simp at h1; omega),fun h => absurd h (by simp at h1; omega),fun j hj => by rw [h0] at hj; simp at hj⟩
  ·obtain ⟨g,rfl,h2,h3⟩ := ho2 h0
   exact ⟨g,fun _ => rfl,fun _ => ⟨by omega,h3.lt⟩,fun j hj => by rw [Nat.zero_add]; exact h3.cell j hj⟩
 have B1 := i' b1;clear hr2 ho2 b1
 gi_wp2_with fail
 refine ⟨trivial,?_⟩;refine (k'g0 Fence.wide _ trivial rfl a2 n2 cap2 _).mono ?_;rintro e3 w2 ⟨rfl,hw2⟩;have HZ2 : Hid (w2.heap.size = w1.heap.size + 1) := by show _ = _; rw [hw2]; simp
 have HB2 : Hid (Below w1.heap.size w1 w2) := by rw [hw2]; exact (Below.refl _ _).alloc (Nat.le_refl _) _
 have HS2 : Hid (w2.cell? ⟨w1.heap.size,0,none⟩ = some (.slice a2 n2 cap2)) := by show _ = _; rw [hw2]; simp [go_sem]
 have HI2 : Hid (CmI L a b c w.heap.size (w.heap.size + 1 + 1 + 1) w.heap.size w1.heap.size (.slice a2 n2 cap2) (.slice pa 2 cpa) e w [] w2) := by
  have hb := T.out.2.2.2.trans ((k'4h B1.out HB2.out).mono T.out.2.2.2.size);refine ⟨⟨[],.slice none 0 0,e,Rw.nil _,(T.out.2.2.1.below B1.out).below HB2.out,HC.out.below hb,rfl,(fun x hx => by simp at hx),?_⟩,⟨k'4i HB2.out (k'4i B1.out T.out.1),k'4i HB2.out (k'4i B1.out T.out.2.1),HS2.out⟩,HAT.out.below hb,Bn.of_below hb⟩
  intro k h5 h6;have hk0 : k = 0 := by have h7 := congrArg List.length h6; rw [k'fy] at h7; simpa using h7.symm
  subst hk0;exact ⟨rfl,(k'mf L a b).symm⟩
 have HCc := i' HC.out.lt;have HbC : Hid (0 < n2 → bL ≠ c) := fun h0 => by have := (hbL.out.2.1 h0).1; have := HCc.out; omega
 clear hw2
 gi_wp2
 refine wpIn_rangeFunc_ownH rfl (show 1 ≤ 5 by decide) (gf := 145) (lb := #[.pointer (some ⟨w1.heap.size,0,none⟩)]) rfl trivial (enters_of Tryz.func145 (by kernel_rfl) rfl)
  (k'g1 (Kv c w.heap.size w1.heap.size bL n2) (Kv.refl _ _ _ _ _) k'l3 Fence.wide 4 trivial rfl (by decide) w1.heap.size bL 0 n2 cap2 a2 L (by rw [← HN.out]; omega) w2 HN.out (by have h5 := HZ2.out; omega) HS2.out hbL.out.1
   (fun j hj => ⟨k'4i HB2.out (hbL.out.2.2 j hj).1,k'4i HB2.out (hbL.out.2.2 j hj).2⟩)
   (fun W W' hk a' ha' => by
    rcases ha' with ha' | ⟨h0,ha'⟩
    ·exact World.cell?_of_block (by rw [ha']; exact hk.bk.box)
    ·exact World.cell?_of_block (by rw [ha']; exact hk.row h0)))
  k'l3 (k'l4 (by have h5 := HZ2.out; omega) (by have h5 := HZ2.out; omega) (fun h0 => by have h5 := HZ2.out; have := (hbL.out.2.1 h0).2; omega)) (Below.refl _ _) (fun _ => rfl)
  (CmI L a b c w.heap.size (w.heap.size + 1 + 1 + 1) w.heap.size w1.heap.size (.slice a2 n2 cap2) (.slice pa 2 cpa) e w)
  (fun _ _ _ => False)
  (k'mn _ _ _ _ _ _ _ _ _ _ _ _ _ (Nat.le_refl _) (by have h5 := HZ2.out; omega))
  (fun _ _ _ _ _ hs _ _ => hs)
  HI2.out
  (fun x a' W => ∃ Bx,(w.heap.size + 1 + 1 + 1 < Bx ∧ w1.heap.size < Bx) ∧ (Aw W Bx [L[x.val]] ∧ (0 < n2 → bL < W.heap.size ∧ bL ≠ Bx)) ∧ a' = { tmps := #[.pointer (some ⟨c,0,none⟩),.slice a9 n2 cap,.slice pa 2 cpa,.agg #[.bool (zb den),.string (zs den)],.pointer (some ⟨w.heap.size,0,none⟩),undef,.pointer (some ⟨w.heap.size + 1,0,none⟩),.pointer (some ⟨w.heap.size + 1 + 1,0,none⟩),.slice none 0 0,.pointer (some ⟨w.heap.size + 1 + 1 + 1,0,none⟩),undef,.pointer (some ⟨Bx,0,none⟩),.pointer (some ⟨c,0,none⟩),.slice a9 n2 cap,.agg #[.bool (zb den),.string (zs den)],.slice a2 n2 cap2,.func (.func 145) #[] #[.pointer (some ⟨w1.heap.size,0,none⟩)],.int .i64 (x.val : Int),Z L[x.val],undef,undef,undef,undef,undef,undef,undef,undef,undef,undef],defers := [] })
  (fun x a' _ X Y row hs hg hr => by obtain ⟨Bx,h1,⟨h2,h4⟩,h3⟩ := hs; exact ⟨Bx,h1,⟨k'gx h2 hg (fun r e => (hr r e).2),fun h0 => ⟨Nat.lt_of_lt_of_le (h4 h0).1 hg.size,(h4 h0).2⟩⟩,h3⟩)
  ?assign ?body ?done ?stop
 case assign =>
  rintro l pre x W K hI hK;unfold encw;have hI2 := (k'mn L a b c w.heap.size (w.heap.size + 1 + 1 + 1) w.heap.size w1.heap.size w.heap.size (.slice a2 n2 cap2) (.slice pa 2 cpa) e w (Nat.le_refl _) (Nat.le_refl _)).alloc (.cells #[.bool (zb L[x.val]),.string (zs L[x.val])] 44) hI;obtain ⟨⟨sl,sv,en,_,hF,_,_,_,_⟩,⟨_,_,hBs⟩,_,hB⟩ := hI;have hl1 := hF.lt;have hl3 := World.block_lt_of_cell? W _ hBs;simp only at hl3;have hlL : 0 < n2 → bL < W.heap.size := fun h0 => by have := (hbL.out.2.1 h0).2; omega
  gi_wp2
  exact hK _ _ ((KeepsOthers.alloc _ _).from _) ((Kv.refl _ _ _ _ _ _).alloc hB.size hl3 hlL _) hI2 ⟨W.heap.size,⟨hl1,hl3⟩,⟨Aw.made W [L[x.val]],fun h0 => ⟨by simp; have := hlL h0; omega,by have := hlL h0; omega⟩⟩,rfl⟩
 case body =>
  rintro l pre x a' W hl ⟨r,hr⟩ hI ⟨Bx,⟨hBx1,hBx2⟩,⟨bX,hbLW⟩,rfl⟩ hlt;obtain ⟨⟨sl,sv,en,hS,hSx,hCk,hsl,hst,hgood⟩,⟨hM0,hM1,hBsc⟩,hAt,hBn⟩ := hI;have hcw := HC.out.lt;have hn0 : 0 < n2 := by have := x.isLt; have h5 : n2 = L.length := HN.out; omega
  have hbLx := hbLW hn0;have hbL2 := hbL.out.2.1 hn0;have hpx : (L[x.val]).natAbs < Top := HLt.out _ (List.getElem_mem x.isLt);have hslen : Hid (sl.length ≤ 25) := by show _ ≤ _; rw [hsl]; have h5 : n2 = L.length := HN.out; omega
  have HLN : Hid (∀ r1 : List Int,r1.length = (if sl = [] ∨ [a,b] = [] then 0 else sl.length + [a,b].length - 1) → (clipF r1 [L[x.val]]).length = (pre ++ [x]).length) := by
   intro r1 hr1;rw [k'ma,hr1,List.length_append,← hsl];by_cases h0 : sl = []
   ·rw [if_pos (Or.inl h0),h0]; rfl
   ·rw [if_neg (by simp [h0])]
    have := List.length_pos_iff.2 h0;simp only [List.length_cons,List.length_nil];omega
  have HPr : Hid (∀ w',Rp w' sv sl → Rp w' (.slice pa 2 cpa) [a,b] → Ck w' c en → Calls Tryz.prog 81 #[.pointer (some ⟨c,0,none⟩),sv,.slice pa 2 cpa] w' (MulPost2 sl [a,b] c en w')) := fun w' g1 g2 g3 => by
   by_cases h0 : sl = []
   ·refine (k'is c sl [a,b] _ _ w' g1 g2 (Or.inl h0) (by have := hslen.out; omega)).mono ?_
    rintro e5 w5 ⟨rfl,b5⟩;exact ⟨[],_,en,rfl,Rw.nil _,But.of_below b5,g3.below b5,by rw [if_pos (Or.inl h0)]; rfl,fun x hx => by simp at hx,fun _ => ⟨by rw [h0]; rfl,rfl⟩⟩
   ·exact k'ir c sl [a,b] _ _ en w' g1 g2 g3 h0 (by simp) (by have := hslen.out; omega) (by simp) hst (fun x hx => by simp at hx; rcases hx with rfl | rfl; exact HNu.out.1; exact HNu.out.2)
  have HCm : Hid (∀ (r1 : List Int) (v1 v2 : Value) (e1 : Int) w',r1.length ≤ 26 → Rp w' v1 r1 → Rp w' v2 [L[x.val]] → Ck w' c e1 → (∀ x ∈ r1,x.natAbs < Top) → Calls Tryz.prog 118 #[v1,v2,.func (.func 78) #[.pointer (some ⟨c,0,none⟩)] #[]] w' (BPoly (clipF r1 [L[x.val]]) c (chE e1 (fun k => Pl.cf r1 k + Pl.cf [L[x.val]] k) (max r1.length 1)) w')) := fun r1 v1 v2 e1 w' hr1 g1 g2 g3 hrt => by
   have h5 := k'hp c r1 [L[x.val]] (clipF r1 [L[x.val]]) v1 v2 w' (chE e1 (fun k => Pl.cf r1 k + Pl.cf [L[x.val]] k)) g1 g2 g3 (k'ma _ _) (by rw [k'ma]; simp; omega) (fun k wr hk hck => by
    rw [k'ma] at hk;rw [k'mb _ _ _ hk];exact k'em c (Pl.cf r1 k) (Pl.cf [L[x.val]] k) _ wr hck (k'mo hrt k) (k'mo (fun y hy => by simp at hy; rw [hy]; exact hpx) k))
   rw [k'ma] at h5;exact h5
  have HFin := i' (fun r1 e1 hex => k'mp L a b pre x sl r1 en e e1 hgood hex (Pl.cf_lt x.isLt).symm HHm.out HHh.out);have HSL := i' hsl;have hbs := World.block_lt_of_cell? W _ hBsc;simp only at hbs;have HBS := i' hBsc;have HSB := i' hSx;have HS : Hid (Rp W.drew sv sl) := hS;have HAt : Hid (Rp W.drew (.slice pa 2 cpa) [a,b]) := hAt;have HCK : Hid (Ck W.drew c en) := hCk;have HCK0 := i' hCk;have HBUT : Hid (But c W W.drew) := (But.refl c W).drew;have HBN := i' hBn;have HBX := i' bX;have k0 : W.drew.cell? ⟨w.heap.size + 1 + 1 + 1,0,none⟩ = some sv := hSx.cell;have k1 : W.drew.frozen? ⟨w.heap.size + 1 + 1 + 1,0,none⟩ = false := hSx.free;obtain ⟨pas,pbs,pos',pcs,rfl,-,-,-,-⟩ := hS.open_;clear hgood hS hSx hCk hBn hAt bX hpx hbLW hst hsl;obtain ⟨xv,hxv⟩ : ∃ xv,xv = x.val := ⟨_,rfl⟩;obtain ⟨x0,x1⟩ := HBX.out.cell 0 (by simp)
  simp only [Nat.zero_mul,Nat.zero_add,List.getElem_cons_zero] at x0 x1;generalize hsln : sl.length = sln at HPr HS k0 HSB ⊢;clear hsln;generalize L[x.val] = px at *;rw [← hxv];clear hxv;have hmx : Tryz.prog.follows .mixedOrders = true := by kernel_rfl
  have m1 : w.heap.size + 1 + 1 + 1 ≠ c := by omega
  have m3 : w.heap.size + 1 + 1 ≠ c := by omega
  have m4 : w.heap.size ≠ c := by omega
  have m5 : Bx ≠ c := by omega
  have m6 : w.heap.size + 1 ≠ c := by omega
  have m7 : w1.heap.size ≠ c := by omega
  have p0 : W.drew.cell? ⟨w.heap.size,0,none⟩ = some (.pointer (some ⟨c,0,none⟩)) := hM0;have p1 : W.drew.cell? ⟨w.heap.size + 1,0,none⟩ = some (.slice pa 2 cpa) := hM1;have p2 : W.drew.cell? ⟨Bx,0,none⟩ = some (.bool (zb px)) := x0;have p3 : W.drew.cell? ⟨Bx,1,none⟩ = some (.string (zs px)) := x1;clear x0 x1
  gi_wp2
  refine k'g7 (S := (fun W' => W'.cell? ⟨w.heap.size,0,none⟩ = some (.pointer (some ⟨c,0,none⟩)) ∧ W'.cell? ⟨w.heap.size + 1,0,none⟩ = some (.slice pa 2 cpa) ∧ W'.cell? ⟨Bx,0,none⟩ = some (.bool (zb px)) ∧ W'.cell? ⟨Bx,1,none⟩ = some (.string (zs px)))) hmx (by intro i o ho c; match i,ho with | 0,h | 1,h | 2,h | 3,h | 4,h | 5,h | 6,h | 7,h | 8,h | 9,h => (injection h with h; subst h; exact fun e => by cases e) | k + 10,h => exact absurd h (by simp)) ?_ (fun hHeld => ?_)
  ·exact ⟨p0,p1,p2,p3⟩
  refine wpAnyH_take (i := 0) (oi := ?oi1) (v := ?v1) ?hi1 (by kernel_rfl) (by kernel_rfl) (by kernel_rfl) k'g8 (Or.inl ⟨?hw1,?hy1⟩) (by assumption) ?rest1
  case hi1 => simp only [List.getElem?_toArray,List.getElem?_cons_succ,List.getElem?_cons_zero]; rfl
  case hw1 => rfl
  case hy1 =>
   intro w hSw
   (try dsimp only at hSw)
   go_simp
   (try with_reducible rfl)
  (try simp only [Act.put,List.setIfInBounds_toArray,List.set_cons_zero,List.set_cons_succ])
  refine wpAnyH_take (i := 2) (oi := ?oi2) (v := ?v2) ?hi2 (by kernel_rfl) (by kernel_rfl) (by kernel_rfl) k'g8 (Or.inl ⟨?hw2,?hy2⟩) (by assumption) ?rest2
  case hi2 => simp only [List.getElem?_toArray,List.getElem?_cons_succ,List.getElem?_cons_zero]; rfl
  case hw2 => rfl
  case hy2 =>
   intro w hSw
   (try dsimp only at hSw)
   go_simp
   (try with_reducible rfl)
  (try simp only [Act.put,List.setIfInBounds_toArray,List.set_cons_zero,List.set_cons_succ])
  refine wpAnyH_take (i := 4) (oi := ?oi3) (v := ?v3) ?hi3 (by kernel_rfl) (by kernel_rfl) (by kernel_rfl) k'g8 (Or.inl ⟨?hw3,?hy3⟩) (by assumption) ?rest3
  case hi3 => simp only [List.getElem?_toArray,List.getElem?_cons_succ,List.getElem?_cons_zero]; rfl
  case hw3 => rfl
  case hy3 =>
   intro w hSw
   (try dsimp only at hSw)
   go_simp
   (try with_reducible rfl)
  (try simp only [Act.put,List.setIfInBounds_toArray,List.set_cons_zero,List.set_cons_succ])
  refine wpAnyH_take (i := 6) (oi := ?oi4) (v := ?v4) ?hi4 (by kernel_rfl) (by kernel_rfl) (by kernel_rfl) k'g8 (Or.inl ⟨?hw4,?hy4⟩) (by assumption) ?rest4
  case hi4 => simp only [List.getElem?_toArray,List.getElem?_cons_succ,List.getElem?_cons_zero]; rfl
  case hw4 => rfl
  case hy4 =>
   intro w hSw
   (try dsimp only at hSw)
   go_simp
   (try with_reducible rfl)
  (try simp only [Act.put,List.setIfInBounds_toArray,List.set_cons_zero,List.set_cons_succ])
  refine wpAnyH_take (i := 7) (oi := ?oi5) (v := ?v5) ?hi5 (by kernel_rfl) (by kernel_rfl) (by kernel_rfl) k'g8 (Or.inl ⟨?hw5,?hy5⟩) (by assumption) ?rest5
  case hi5 => simp only [List.getElem?_toArray,List.getElem?_cons_succ,List.getElem?_cons_zero]; rfl
  case hw5 => rfl
  case hy5 =>
   intro w hSw
   (try dsimp only at hSw)
   go_simp
   (try with_reducible rfl)
  (try simp only [Act.put,List.setIfInBounds_toArray,List.set_cons_zero,List.set_cons_succ])
  refine wpAnyH_ready (rs := [1,5]) (by kernel_rfl) (by simp) ?_
  refine AllReadyH.cons (o := ?oi18) ?hi18 ?rest18 (AllReadyH.cons (o := ?oi19) ?hi19 ?rest19 AllReadyH.nil)
  case hi18 => simp only [List.getElem?_toArray,List.getElem?_cons_succ,List.getElem?_cons_zero]; rfl
  case hi19 => simp only [List.getElem?_toArray,List.getElem?_cons_succ,List.getElem?_cons_zero]; rfl
  case rest18 =>
   intro K hK;go_simp;refine hK.out _ _ ?_ (fun hHeld => ?_)
   ·(try dsimp only)
    exact ⟨p0,p1,p2,p3⟩
   clear hK K
   (try simp only [Act.put,List.setIfInBounds_toArray,List.set_cons_zero,List.set_cons_succ])
   refine wpAnyH_ready (rs := [3,5]) (by kernel_rfl) (by simp) ?_
   refine AllReadyH.cons (o := ?oi12) ?hi12 ?rest12 (AllReadyH.cons (o := ?oi13) ?hi13 ?rest13 AllReadyH.nil)
   case hi12 => simp only [List.getElem?_toArray,List.getElem?_cons_succ,List.getElem?_cons_zero]; rfl
   case hi13 => simp only [List.getElem?_toArray,List.getElem?_cons_succ,List.getElem?_cons_zero]; rfl
   case rest12 =>
    intro K hK;go_simp
    (with_reducible refine (HPr.out _ HS.out HAt.out HCK.out).mono ?_)
    rintro e0 y1 ⟨r1,v1,e1,rfl,hr1,bt,ck,hrl,hrt,hex⟩;have p0 := bt.cell p0 m4;have p1 := bt.cell p1 m6;have p2 := bt.cell p2 m5;have p3 := bt.cell p3 m5;have k1 := bt.frozen k0 k1 m1;have k0 := bt.cell k0 m1;have HAt := i' (Rp.but HAt.out HCK.out bt)
    (try have HX := i' (Rp.but HX.out HCK.out bt))
    have HBUT := i' (HBUT.out.trans bt);have HCK := i' ck;have HR1 := i' hr1;have HRL := i' hrl;have HR26 : Hid (r1.length ≤ 26) := by
     show _ ≤ _;rw [hrl];have h5 := hslen.out
     split <;> simp <;> omega
    have HRT := i' hrt;have HEX := i' hex;clear bt ck hr1 hrl hrt hex HS
    (try go_wp2_with fail)
    refine hK.out _ _ ?_ (fun hHeld => ?_)
    ·(try dsimp only)
     exact ⟨p0,p1,p2,p3⟩
    clear hK K
    (try simp only [Act.put,List.setIfInBounds_toArray,List.set_cons_zero,List.set_cons_succ])
    refine wpAnyH_ready (rs := [5]) (by kernel_rfl) (by simp) ?_
    refine AllReadyH.cons (o := ?oi8) ?hi8 ?rest8 AllReadyH.nil
    case hi8 => simp only [List.getElem?_toArray,List.getElem?_cons_succ,List.getElem?_cons_zero]; rfl
    intro K hK;go_simp;have hal := k'5u y1 (.cells #[.bool (zb px),.string (zs px)] 44);have HX : Hid (Rp (y1.alloc (.cells #[.bool (zb px),.string (zs px)] 44)) (.slice (some ⟨y1.heap.size,0,none⟩) 1 1) [px]) := Rp.of_whole (Aw.made y1 [px]) 1 1 rfl (Nat.le_refl _) (by unfold maxLen; omega)
    have p0 := k'4i hal p0;have p1 := k'4i hal p1;have p2 := k'4i hal p2;have p3 := k'4i hal p3;have k1 := k'4j hal k0 k1;have k0 := k'4i hal k0;have HAt := i' (HAt.out.below hal)
    (try have HS := i' (HS.out.below hal))
    (try have HR1 := i' (HR1.out.below hal))
    have HBUT := i' (HBUT.out.alloc (.cells #[.bool (zb px),.string (zs px)] 44));have HCK := i' (HCK.out.below hal);clear hal;refine hK.out _ _ ?_ (fun hHeld => ?_)
    ·(try dsimp only)
     exact ⟨p0,p1,p2,p3⟩
    clear hK K
    (try simp only [Act.put,List.setIfInBounds_toArray,List.set_cons_zero,List.set_cons_succ])
    refine wpAnyH_ready (rs := [8]) (by kernel_rfl) (by simp) ?_
    refine AllReadyH.cons (o := ?oi7) ?hi7 ?rest7 AllReadyH.nil
    case hi7 => simp only [List.getElem?_toArray,List.getElem?_cons_succ,List.getElem?_cons_zero]; rfl
    intro K hK;go_simp
    (with_reducible refine (HCm.out r1 v1 _ e1 _ HR26.out HR1.out HX.out HCK.out HRT.out).mono ?_)
    rintro e0 y2 ⟨v2,rfl,hr2,bt,ck⟩;have p0 := bt.cell p0 m4;have p1 := bt.cell p1 m6;have p2 := bt.cell p2 m5;have p3 := bt.cell p3 m5;have k1 := bt.frozen k0 k1 m1;have k0 := bt.cell k0 m1;have HAt := i' (Rp.but HAt.out HCK.out bt);have HBUT := i' (HBUT.out.trans bt);have HCK := i' ck;have HR2 := i' hr2;obtain ⟨pa2,pb2,po2,pc2,rfl,-,-,-,-⟩ := hr2.open_;clear bt ck hr2 HX HR1
    (try go_wp2_with fail)
    refine hK.out _ _ ?_ (fun hHeld => ?_)
    ·(try dsimp only)
     exact ⟨p0,p1,p2,p3⟩
    clear hK K
    (try simp only [Act.put,List.setIfInBounds_toArray,List.set_cons_zero,List.set_cons_succ])
    refine wpAnyH_ready (rs := [9]) (by kernel_rfl) (by simp) ?_
    refine AllReadyH.cons (o := ?oi6) ?hi6 ?rest6 AllReadyH.nil
    case hi6 => simp only [List.getElem?_toArray,List.getElem?_cons_succ,List.getElem?_cons_zero]; rfl
    intro K hK;go_simp;refine hK.out _ _ ?_ (fun hHeld => ?_)
    ·(try dsimp only)
     exact ⟨k'mm (by simp only; omega) p0,k'mm (by simp only; omega) p1,k'mm (by simp only; omega) p2,k'mm (by simp only; omega) p3⟩
    clear hK K
    (try simp only [Act.put,List.setIfInBounds_toArray,List.set_cons_zero,List.set_cons_succ])
    refine wpAnyH_done (by kernel_rfl) ?_ _
    refine k'g9 ?_
    (try dsimp only [Exit.then])
    have hFin := HFin.out r1 e1 HEX.out;have hb7 := HBN.out.size;have HB7 := HBUT.out;have hWs := HCK.out;have HM0 := HB7.cell hM0 m4;have HM1 := HB7.cell hM1 m6;have HBs := HB7.cell hBsc m7
    gi_wp2
    exact ⟨(k'h0 (B := w2.heap.size) HB7 HCK0.out).trans ((KeepsOthers.setCell _ _ _).from _),
     ((Kv.of_but HB7 hb7 hbs m7 (fun _ => ⟨hbLx.1,by omega⟩)).new (p := ⟨w.heap.size + 1 + 1 + 1,0,none⟩) (by simp only; omega) (by simp only; omega) (fun _ => by simp only; omega) _),
     ⟨_,_,_,HR2.out.setS k0 _,k'mk HBUT.out HSB.out m1 _,HCK.out.other ⟨w.heap.size + 1 + 1 + 1,0,none⟩ _ (by simp only; omega),HLN.out r1 HRL.out,k'mc _ _,hFin⟩,
     ⟨k'mm (by simp only; omega) HM0,k'mm (by simp only; omega) HM1,k'mm (by simp only; omega) HBs⟩,
     HAt.out.setS k0 _,
     ((HBN.out.trans (Bn.of_but HB7 hb7)).new (p := ⟨w.heap.size + 1 + 1 + 1,0,none⟩) (by simp only; omega) _)⟩
   case rest13 =>
    intro K hK;go_simp;have hal := k'5u W (.cells #[.bool (zb px),.string (zs px)] 44);have HX : Hid (Rp (W.alloc (.cells #[.bool (zb px),.string (zs px)] 44)).drew (.slice (some ⟨W.heap.size,0,none⟩) 1 1) [px]) := Rp.of_whole (Aw.made W [px]) 1 1 rfl (Nat.le_refl _) (by unfold maxLen; omega)
    have p0 := k'4i hal p0;have p1 := k'4i hal p1;have p2 := k'4i hal p2;have p3 := k'4i hal p3;have k1 := k'4j hal k0 k1;have k0 := k'4i hal k0;have HAt : Hid (Rp (W.alloc (.cells #[.bool (zb px),.string (zs px)] 44)).drew (.slice pa 2 cpa) [a,b]) := Rw.below (w := W) HAt.out hal.drew;have HS : Hid (Rp (W.alloc (.cells #[.bool (zb px),.string (zs px)] 44)).drew (.slice pas sln pcs) sl) := Rw.below (w := W) HS.out hal.drew;have HBUT : Hid (But c W (W.alloc (.cells #[.bool (zb px),.string (zs px)] 44)).drew) := ((But.refl c W).alloc (.cells #[.bool (zb px),.string (zs px)] 44)).drew;have HCK : Hid (Ck (W.alloc (.cells #[.bool (zb px),.string (zs px)] 44)).drew c en) := Ck.below (w := W) HCK.out hal.drew;clear hal;refine hK.out _ _ ?_ (fun hHeld => ?_)
    ·(try dsimp only)
     exact ⟨p0,p1,p2,p3⟩
    clear hK K
    (try simp only [Act.put,List.setIfInBounds_toArray,List.set_cons_zero,List.set_cons_succ])
    refine wpAnyH_ready (rs := [3]) (by kernel_rfl) (by simp) ?_
    refine AllReadyH.cons (o := ?oi11) ?hi11 ?rest11 AllReadyH.nil
    case hi11 => simp only [List.getElem?_toArray,List.getElem?_cons_succ,List.getElem?_cons_zero]; rfl
    intro K hK;go_simp
    (with_reducible refine (HPr.out _ HS.out HAt.out HCK.out).mono ?_)
    rintro e0 y1 ⟨r1,v1,e1,rfl,hr1,bt,ck,hrl,hrt,hex⟩;have p0 := bt.cell p0 m4;have p1 := bt.cell p1 m6;have p2 := bt.cell p2 m5;have p3 := bt.cell p3 m5;have k1 := bt.frozen k0 k1 m1;have k0 := bt.cell k0 m1;have HAt := i' (Rp.but HAt.out HCK.out bt)
    (try have HX := i' (Rp.but HX.out HCK.out bt))
    have HBUT := i' (HBUT.out.trans bt);have HCK := i' ck;have HR1 := i' hr1;have HRL := i' hrl;have HR26 : Hid (r1.length ≤ 26) := by
     show _ ≤ _;rw [hrl];have h5 := hslen.out
     split <;> simp <;> omega
    have HRT := i' hrt;have HEX := i' hex;clear bt ck hr1 hrl hrt hex HS
    (try go_wp2_with fail)
    refine hK.out _ _ ?_ (fun hHeld => ?_)
    ·(try dsimp only)
     exact ⟨p0,p1,p2,p3⟩
    clear hK K
    (try simp only [Act.put,List.setIfInBounds_toArray,List.set_cons_zero,List.set_cons_succ])
    refine wpAnyH_ready (rs := [8]) (by kernel_rfl) (by simp) ?_
    refine AllReadyH.cons (o := ?oi10) ?hi10 ?rest10 AllReadyH.nil
    case hi10 => simp only [List.getElem?_toArray,List.getElem?_cons_succ,List.getElem?_cons_zero]; rfl
    intro K hK;go_simp
    (with_reducible refine (HCm.out r1 v1 _ e1 _ HR26.out HR1.out HX.out HCK.out HRT.out).mono ?_)
    rintro e0 y2 ⟨v2,rfl,hr2,bt,ck⟩;have p0 := bt.cell p0 m4;have p1 := bt.cell p1 m6;have p2 := bt.cell p2 m5;have p3 := bt.cell p3 m5;have k1 := bt.frozen k0 k1 m1;have k0 := bt.cell k0 m1;have HAt := i' (Rp.but HAt.out HCK.out bt);have HBUT := i' (HBUT.out.trans bt);have HCK := i' ck;have HR2 := i' hr2;obtain ⟨pa2,pb2,po2,pc2,rfl,-,-,-,-⟩ := hr2.open_;clear bt ck hr2 HX HR1
    (try go_wp2_with fail)
    refine hK.out _ _ ?_ (fun hHeld => ?_)
    ·(try dsimp only)
     exact ⟨p0,p1,p2,p3⟩
    clear hK K
    (try simp only [Act.put,List.setIfInBounds_toArray,List.set_cons_zero,List.set_cons_succ])
    refine wpAnyH_ready (rs := [9]) (by kernel_rfl) (by simp) ?_
    refine AllReadyH.cons (o := ?oi9) ?hi9 ?rest9 AllReadyH.nil
    case hi9 => simp only [List.getElem?_toArray,List.getElem?_cons_succ,List.getElem?_cons_zero]; rfl
    intro K hK;go_simp;refine hK.out _ _ ?_ (fun hHeld => ?_)
    ·(try dsimp only)
     exact ⟨k'mm (by simp only; omega) p0,k'mm (by simp only; omega) p1,k'mm (by simp only; omega) p2,k'mm (by simp only; omega) p3⟩
    clear hK K
    (try simp only [Act.put,List.setIfInBounds_toArray,List.set_cons_zero,List.set_cons_succ])
    refine wpAnyH_done (by kernel_rfl) ?_ _
    refine k'g9 ?_
    (try dsimp only [Exit.then])
    have hFin := HFin.out r1 e1 HEX.out;have hb7 := HBN.out.size;have HB7 := HBUT.out;have hWs := HCK.out;have HM0 := HB7.cell hM0 m4;have HM1 := HB7.cell hM1 m6;have HBs := HB7.cell hBsc m7
    gi_wp2
    exact ⟨(k'h0 (B := w2.heap.size) HB7 HCK0.out).trans ((KeepsOthers.setCell _ _ _).from _),
     ((Kv.of_but HB7 hb7 hbs m7 (fun _ => ⟨hbLx.1,by omega⟩)).new (p := ⟨w.heap.size + 1 + 1 + 1,0,none⟩) (by simp only; omega) (by simp only; omega) (fun _ => by simp only; omega) _),
     ⟨_,_,_,HR2.out.setS k0 _,k'mk HBUT.out HSB.out m1 _,HCK.out.other ⟨w.heap.size + 1 + 1 + 1,0,none⟩ _ (by simp only; omega),HLN.out r1 HRL.out,k'mc _ _,hFin⟩,
     ⟨k'mm (by simp only; omega) HM0,k'mm (by simp only; omega) HM1,k'mm (by simp only; omega) HBs⟩,
     HAt.out.setS k0 _,
     ((HBN.out.trans (Bn.of_but HB7 hb7)).new (p := ⟨w.heap.size + 1 + 1 + 1,0,none⟩) (by simp only; omega) _)⟩
  case rest19 =>
   intro K hK;go_simp;have hal := k'5u W (.cells #[.bool (zb px),.string (zs px)] 44);have HX : Hid (Rp (W.alloc (.cells #[.bool (zb px),.string (zs px)] 44)).drew (.slice (some ⟨W.heap.size,0,none⟩) 1 1) [px]) := Rp.of_whole (Aw.made W [px]) 1 1 rfl (Nat.le_refl _) (by unfold maxLen; omega)
   have p0 := k'4i hal p0;have p1 := k'4i hal p1;have p2 := k'4i hal p2;have p3 := k'4i hal p3;have k1 := k'4j hal k0 k1;have k0 := k'4i hal k0;have HAt : Hid (Rp (W.alloc (.cells #[.bool (zb px),.string (zs px)] 44)).drew (.slice pa 2 cpa) [a,b]) := Rw.below (w := W) HAt.out hal.drew;have HS : Hid (Rp (W.alloc (.cells #[.bool (zb px),.string (zs px)] 44)).drew (.slice pas sln pcs) sl) := Rw.below (w := W) HS.out hal.drew;have HBUT : Hid (But c W (W.alloc (.cells #[.bool (zb px),.string (zs px)] 44)).drew) := ((But.refl c W).alloc (.cells #[.bool (zb px),.string (zs px)] 44)).drew;have HCK : Hid (Ck (W.alloc (.cells #[.bool (zb px),.string (zs px)] 44)).drew c en) := Ck.below (w := W) HCK.out hal.drew;clear hal;refine hK.out _ _ ?_ (fun hHeld => ?_)
   ·(try dsimp only)
    exact ⟨p0,p1,p2,p3⟩
   clear hK K
   (try simp only [Act.put,List.setIfInBounds_toArray,List.set_cons_zero,List.set_cons_succ])
   refine wpAnyH_ready (rs := [1]) (by kernel_rfl) (by simp) ?_
   refine AllReadyH.cons (o := ?oi17) ?hi17 ?rest17 AllReadyH.nil
   case hi17 => simp only [List.getElem?_toArray,List.getElem?_cons_succ,List.getElem?_cons_zero]; rfl
   intro K hK;go_simp;refine hK.out _ _ ?_ (fun hHeld => ?_)
   ·(try dsimp only)
    exact ⟨p0,p1,p2,p3⟩
   clear hK K
   (try simp only [Act.put,List.setIfInBounds_toArray,List.set_cons_zero,List.set_cons_succ])
   refine wpAnyH_ready (rs := [3]) (by kernel_rfl) (by simp) ?_
   refine AllReadyH.cons (o := ?oi16) ?hi16 ?rest16 AllReadyH.nil
   case hi16 => simp only [List.getElem?_toArray,List.getElem?_cons_succ,List.getElem?_cons_zero]; rfl
   intro K hK;go_simp
   (with_reducible refine (HPr.out _ HS.out HAt.out HCK.out).mono ?_)
   rintro e0 y1 ⟨r1,v1,e1,rfl,hr1,bt,ck,hrl,hrt,hex⟩;have p0 := bt.cell p0 m4;have p1 := bt.cell p1 m6;have p2 := bt.cell p2 m5;have p3 := bt.cell p3 m5;have k1 := bt.frozen k0 k1 m1;have k0 := bt.cell k0 m1;have HAt := i' (Rp.but HAt.out HCK.out bt)
   (try have HX := i' (Rp.but HX.out HCK.out bt))
   have HBUT := i' (HBUT.out.trans bt);have HCK := i' ck;have HR1 := i' hr1;have HRL := i' hrl;have HR26 : Hid (r1.length ≤ 26) := by
    show _ ≤ _;rw [hrl];have h5 := hslen.out
    split <;> simp <;> omega
   have HRT := i' hrt;have HEX := i' hex;clear bt ck hr1 hrl hrt hex HS
   (try go_wp2_with fail)
   refine hK.out _ _ ?_ (fun hHeld => ?_)
   ·(try dsimp only)
    exact ⟨p0,p1,p2,p3⟩
   clear hK K
   (try simp only [Act.put,List.setIfInBounds_toArray,List.set_cons_zero,List.set_cons_succ])
   refine wpAnyH_ready (rs := [8]) (by kernel_rfl) (by simp) ?_
   refine AllReadyH.cons (o := ?oi15) ?hi15 ?rest15 AllReadyH.nil
   case hi15 => simp only [List.getElem?_toArray,List.getElem?_cons_succ,List.getElem?_cons_zero]; rfl
   intro K hK;go_simp
   (with_reducible refine (HCm.out r1 v1 _ e1 _ HR26.out HR1.out HX.out HCK.out HRT.out).mono ?_)
   rintro e0 y2 ⟨v2,rfl,hr2,bt,ck⟩;have p0 := bt.cell p0 m4;have p1 := bt.cell p1 m6;have p2 := bt.cell p2 m5;have p3 := bt.cell p3 m5;have k1 := bt.frozen k0 k1 m1;have k0 := bt.cell k0 m1;have HAt := i' (Rp.but HAt.out HCK.out bt);have HBUT := i' (HBUT.out.trans bt);have HCK := i' ck;have HR2 := i' hr2;obtain ⟨pa2,pb2,po2,pc2,rfl,-,-,-,-⟩ := hr2.open_;clear bt ck hr2 HX HR1
   (try go_wp2_with fail)
   refine hK.out _ _ ?_ (fun hHeld => ?_)
   ·(try dsimp only)
    exact ⟨p0,p1,p2,p3⟩
   clear hK K
   (try simp only [Act.put,List.setIfInBounds_toArray,List.set_cons_zero,List.set_cons_succ])
   refine wpAnyH_ready (rs := [9]) (by kernel_rfl) (by simp) ?_
   refine AllReadyH.cons (o := ?oi14) ?hi14 ?rest14 AllReadyH.nil
   case hi14 => simp only [List.getElem?_toArray,List.getElem?_cons_succ,List.getElem?_cons_zero]; rfl
   intro K hK;go_simp;refine hK.out _ _ ?_ (fun hHeld => ?_)
   ·(try dsimp only)
    exact ⟨k'mm (by simp only; omega) p0,k'mm (by simp only; omega) p1,k'mm (by simp only; omega) p2,k'mm (by simp only; omega) p3⟩
   clear hK K
   (try simp only [Act.put,List.setIfInBounds_toArray,List.set_cons_zero,List.set_cons_succ])
   refine wpAnyH_done (by kernel_rfl) ?_ _
   refine k'g9 ?_
   (try dsimp only [Exit.then])
   have hFin := HFin.out r1 e1 HEX.out;have hb7 := HBN.out.size;have HB7 := HBUT.out;have hWs := HCK.out;have HM0 := HB7.cell hM0 m4;have HM1 := HB7.cell hM1 m6;have HBs := HB7.cell hBsc m7
   gi_wp2
   exact ⟨(k'h0 (B := w2.heap.size) HB7 HCK0.out).trans ((KeepsOthers.setCell _ _ _).from _),
    ((Kv.of_but HB7 hb7 hbs m7 (fun _ => ⟨hbLx.1,by omega⟩)).new (p := ⟨w.heap.size + 1 + 1 + 1,0,none⟩) (by simp only; omega) (by simp only; omega) (fun _ => by simp only; omega) _),
    ⟨_,_,_,HR2.out.setS k0 _,k'mk HBUT.out HSB.out m1 _,HCK.out.other ⟨w.heap.size + 1 + 1 + 1,0,none⟩ _ (by simp only; omega),HLN.out r1 HRL.out,k'mc _ _,hFin⟩,
    ⟨k'mm (by simp only; omega) HM0,k'mm (by simp only; omega) HM1,k'mm (by simp only; omega) HBs⟩,
    HAt.out.setS k0 _,
    ((HBN.out.trans (Bn.of_but HB7 hb7)).new (p := ⟨w.heap.size + 1 + 1 + 1,0,none⟩) (by simp only; omega) _)⟩
 case done =>
  rintro D xs W hD rfl ⟨⟨sl,sv,en,hS,hSx,hCk,hsl,hst,hgood⟩,⟨hM0,hM1,hBsc⟩,hAt,hBn⟩ hK;obtain ⟨g1,g2⟩ := hgood _ _ rfl;subst g1;rw [k'mi] at g2;have k0 := hSx.cell;have HCK := i' hCk;have HBN := i' hBn;have HKD := i' hK;have HS := i' hS;have HG := i' g2;obtain ⟨pas,pbs,pos',pcs,rfl,-,-,-,-⟩ := hS.open_;generalize hsln : sl.length = sln at *;clear hgood hS hCk hBn g2 hM0 hM1 hBsc hAt hSx hsl hst hsln;generalize Pl.comp a b L = res at *
  gi_wp2
  refine ⟨by simp,.inl ⟨_,_,rfl,run_takeDeferred HKD.out,?_⟩⟩
  have hgr := grownBy_putObj' W D (.deferred none);have hR9 := k'ml HS.out hgr (fun r e => by cases e; exact ⟨_,HKD.out,rfl⟩)
  have h6 := HZ2.out;refine ⟨.slice pas sln pcs,(by simp [results,Tryz.results108,go_sem]),?_⟩
  exact ⟨_,rfl,by rw [← HG.out]; exact hR9,(HBN.out.below HC.out HCK.out).trans (belowK_b (w := w) (Nat.le_refl _) _ D _ _ (by omega) HKD.out rfl rfl)⟩
 case stop =>
  rintro D c2 pre W _ _ h _;exact h.elim
end Go.Proofs.YtepddegphdlbeaaGreat
namespace Go.Proofs.YtepddegphdlbeaaGreat
open Go.RowKit
def ckc (L : List (Bool × ByteArray)) (a : Bool) (s : ByteArray) (b : Bool) (t : ByteArray) (d : Bool) (u : ByteArray) : Int :=
 if (vldP L && vld a s && vld b t && vld d u) = true then (if sgV d u ≤ 0 then 3 else if tlg L (glb [(a,s),(b,t),(d,u)] + 1) = true then 7 else 0) else 2
def Bw2 (w : World) (g : Nat) (a : Bool) (s : ByteArray) : Prop := w.cell? ⟨g,0,none⟩ = some (.bool a) ∧ w.cell? ⟨g,1,none⟩ = some (.string s)
theorem Bw2.below {w w' : World} {g : Nat} {a : Bool} {s : ByteArray} (h : Bw2 w g a s) (hb : Below w.heap.size w w') : Bw2 w' g a s := ⟨k'4i hb h.1,k'4i hb h.2⟩
theorem k'mr (w : World) (a b d : Bool) (s t u : ByteArray) : Rw (w.alloc (.cells #[.bool a,.string s,.bool b,.string t,.bool d,.string u] 44)) (.slice (some ⟨w.heap.size,0,none⟩) 3 3) [(a,s),(b,t),(d,u)] :=
 ⟨_,w.heap.size,0,3,rfl,by simp,by unfold maxLen; omega,fun _ => rfl,fun k h => by
  match k,h with
  | 0,_ => exact ⟨by simp [go_sem],by simp [go_sem]⟩
  | 1,_ => exact ⟨by simp [go_sem],by simp [go_sem]⟩
  | 2,_ => exact ⟨by simp [go_sem],by simp [go_sem]⟩
  | j + 3,h => simp at h; omega⟩
theorem k'ms (w : World) (a b : Bool) (s t : ByteArray) : Rw (w.alloc (.cells #[.bool a,.string s,.bool b,.string t] 44)) (.slice (some ⟨w.heap.size,0,none⟩) 2 2) [(a,s),(b,t)] :=
 ⟨_,w.heap.size,0,2,rfl,by simp,by unfold maxLen; omega,fun _ => rfl,fun k h => by
  match k,h with
  | 0,_ => exact ⟨by simp [go_sem],by simp [go_sem]⟩
  | 1,_ => exact ⟨by simp [go_sem],by simp [go_sem]⟩
  | j + 2,h => simp at h; omega⟩
theorem k'mu (p : List Int) (v : Value) (xa xb xd : Int) (T : List Int) (w : World) (h : Rp w v p) (hp : VP p) (ha : xa.natAbs < Top) (hb : xb.natAbs < Top) (hd : xd.natAbs < Top) (he : ckc (zl p) (zb xa) (zs xa) (zb xb) (zs xb) (zb xd) (zs xd) = 0)
 (HCmp : ∀ c v2 w',Below w.heap.size w w' → Ck w' c 0 → Rp w' v2 [xa,xb] → Calls Tryz.prog 108 #[.pointer (some ⟨c,0,none⟩),v,v2,Z xd] w' (RpPost T w')) (hT : ∀ x ∈ T,x.natAbs < Top) :
 Calls Tryz.prog 51 #[v,Z xa,Z xb,Z xd] w (ResP (Pl.trim T) w) := by
 have z := k'ey hp.top;have za : (zs xa).size ≤ 140737488351232 := Nat.le_trans (k'6m ha) (by decide)
 have zb' : (zs xb).size ≤ 140737488351232 := Nat.le_trans (k'6m hb) (by decide)
 have zd : (zs xd).size ≤ 140737488351232 := Nat.le_trans (k'6m hd) (by decide)
 have HCmp := i' HCmp;have HTr := i' (fun v' w' (hr : Rp w' v' T) => k'fo v' T w' hr hT);unfold Z at HCmp ⊢;have HZ2 := i' (fun w => show Rp (w.alloc (.cells #[.bool (zb xa),.string (zs xa),.bool (zb xb),.string (zs xb)] 44)) (.slice (some ⟨(w : World).heap.size,0,none⟩) 2 2) [xa,xb] from k'ms w (zb xa) (zb xb) (zs xa) (zs xb));obtain ⟨L,hL⟩ : ∃ L,L = zl p := ⟨_,rfl⟩;have h : Rw w v L := by rw [hL]; exact h
 rw [← hL] at he z;have hpv : vldP L = true := by rw [hL]; exact hp.ok
 clear hL;have hva := zvt ha;have hvb := zvt hb;have hvd := zvt hd;generalize zb xa = a at *;generalize zs xa = s at *;generalize zb xb = b at *;generalize zs xb = t at *;generalize zb xd = d at *;generalize zs xd = u at *;clear hp ha hb hd hT;obtain ⟨w0,hw0⟩ : ∃ w0 : World,w0 = ((w.alloc (.cells #[.bool a,.string s] 44)).alloc (.cells #[.bool b,.string t] 44)).alloc (.cells #[.bool d,.string u] 44) := ⟨_,rfl⟩;have B0 : Hid (Below w.heap.size w w0) := by show Below _ _ _; rw [hw0]; exact (((Below.refl _ _).alloc (Nat.le_refl _) _).alloc (by simp) _).alloc (by simp; omega) _
 have C0 : Hid (Bw2 w0 w.heap.size a s ∧ Bw2 w0 (w.heap.size + 1) b t ∧ Bw2 w0 (w.heap.size + 1 + 1) d u) := by
  rw [hw0];exact ⟨⟨by simp [go_sem],by simp [go_sem]⟩,⟨by simp [go_sem],by simp [go_sem]⟩,⟨by simp [go_sem],by simp [go_sem]⟩⟩
 have HV := i' (k'ex L v w0 (h.below B0.out) z);have HVa := i' (fun w => k'4k a s w za);have HVb := i' (fun w => k'4k b t w zb');have HVd := i' (fun w => k'4k d u w zd);have HSg := i' (fun w => k'56 d u w zd);have HG := i' (fun v w h => k'f3 [(a,s),(b,t),(d,u)] v w h (by intro x hx; simp at hx; rcases hx with rfl | rfl | rfl <;> assumption))
 have G3 := k'h9 [(a,s),(b,t),(d,u)];have HTl := i' (fun w' (hb : Below w.heap.size w w') => show vldP L = true → Calls Tryz.prog 107 #[v,.int .i64 (glb [(a,s),(b,t),(d,u)] + 1)] w' (BPost (tlg L (glb [(a,s),(b,t),(d,u)] + 1)) w') from fun hv => k'hc L v _ w' (h.below hb) z (k'ha hv) (by omega))
 have HW := i' (fun w => k'mr w a b d s t u);have HTl2 := i' (fun w' hb => HTl.out w' hb hpv);clear HTl;unfold ckc at he;rw [hpv] at HV he;rw [hva] at HVa he;rw [hvb] at HVb he;rw [hvd] at HVd he;rw [if_pos (by rfl)] at he
 generalize tlg L (glb [(a,s),(b,t),(d,u)] + 1) = x6 at *;generalize glb [(a,s),(b,t),(d,u)] = g at *;generalize sgV d u = sg at *;obtain ⟨pq,bq,oq,cq,rfl,-,-,-,-⟩ := h;have hwg : IntKind.i64.wrap (g + 1) = g + 1 := IntWalk.i64_in _ (by omega)
 have g30 := G3.1;have g31 := G3.2;have hsg : ¬ sg ≤ 0 := by intro h5; rw [if_pos h5] at he; omega
 rw [if_neg hsg] at he;obtain rfl : x6 = false := by
  cases x6
  ·rfl
  ·rw [if_pos rfl] at he; omega
 clear z za zb' zd G3 he hpv hva hvb hvd;go_enter Tryz.func51,Tryz.ntmps51;go_wp2_with fail;rw [← hw0];clear hw0;refine HV.out.mono ?_;rintro e w1 ⟨rfl,b1⟩;have E := i' b1;clear b1;obtain ⟨c0,c1⟩ := C0.out.1.below E.out;obtain ⟨c2,c3⟩ := C0.out.2.1.below E.out;obtain ⟨c4,c5⟩ := C0.out.2.2.below E.out;go_wp2_with fail;refine (HVa.out _).mono ?_;rintro e w2 ⟨rfl,b2⟩;have E := i' (k'4h E.out b2);clear b2 c0 c1 c2 c3 c4 c5;obtain ⟨c0,c1⟩ := C0.out.1.below E.out;obtain ⟨c2,c3⟩ := C0.out.2.1.below E.out;obtain ⟨c4,c5⟩ := C0.out.2.2.below E.out;go_wp2_with fail;refine (HVb.out _).mono ?_;rintro e w3 ⟨rfl,b2⟩;have E := i' (k'4h E.out b2);clear b2 c0 c1 c2 c3 c4 c5;obtain ⟨c0,c1⟩ := C0.out.1.below E.out;obtain ⟨c2,c3⟩ := C0.out.2.1.below E.out;obtain ⟨c4,c5⟩ := C0.out.2.2.below E.out;go_wp2_with fail;refine (HVd.out _).mono ?_;rintro e w4 ⟨rfl,b2⟩;have E := i' (k'4h E.out b2);clear b2 c0 c1 c2 c3 c4 c5;obtain ⟨c0,c1⟩ := C0.out.1.below E.out;obtain ⟨c2,c3⟩ := C0.out.2.1.below E.out;obtain ⟨c4,c5⟩ := C0.out.2.2.below E.out;go_wp2_with fail;refine (HSg.out _).mono ?_;rintro e w5 ⟨rfl,b2⟩;have E := i' (k'4h E.out b2);clear b2 c0 c1 c2 c3 c4 c5;obtain ⟨c0,c1⟩ := C0.out.1.below E.out;obtain ⟨c2,c3⟩ := C0.out.2.1.below E.out;obtain ⟨c4,c5⟩ := C0.out.2.2.below E.out;go_wp2_with fail;obtain ⟨w6,hw6⟩ : ∃ w6 : World,w6 = w5.alloc (.cells #[.bool a,.string s,.bool b,.string t,.bool d,.string u] 44) := ⟨_,rfl⟩;have hg := HW.out w5;rw [← hw6] at hg ⊢;have E6 : Hid (Below w0.heap.size w0 w6) := by rw [hw6]; exact E.out.alloc E.out.size _
 clear hw6 c0 c1 c2 c3 c4 c5;refine (HG.out _ _ hg).mono ?_;rintro e w7 ⟨rfl,b7⟩;have E := i' (k'4h E6.out b7);clear b7 hg E6;obtain ⟨c0,c1⟩ := C0.out.1.below E.out;obtain ⟨c2,c3⟩ := C0.out.2.1.below E.out;obtain ⟨c4,c5⟩ := C0.out.2.2.below E.out;go_wp2_with fail;refine (HTl2.out _ (k'4h B0.out E.out)).mono ?_;rintro e w8 ⟨rfl,b8⟩;have E := i' (k'4h E.out b8);clear b8 c0 c1 c2 c3 c4 c5;obtain ⟨w9,hw9⟩ : ∃ w9 : World,w9 = w8.alloc (.cells #[.int .i64 0] 96) := ⟨_,rfl⟩;have HK : Hid (Ck w9 w8.heap.size 0) := by show Ck _ _ _; rw [hw9]; exact heap_alloc_new w8 _
 have E9 : Hid (Below w0.heap.size w0 w9) := by rw [hw9]; exact E.out.alloc E.out.size _
 obtain ⟨c0,c1⟩ := C0.out.1.below E.out;obtain ⟨c2,c3⟩ := C0.out.2.1.below E.out;obtain ⟨c4,c5⟩ := C0.out.2.2.below E.out;go_upto_region 8 with (fail);rw [← hw9];clear hw9 c0 c1 c2 c3 c4 c5;obtain ⟨c0,c1⟩ := C0.out.1.below E9.out;obtain ⟨c2,c3⟩ := C0.out.2.1.below E9.out;obtain ⟨c4,c5⟩ := C0.out.2.2.below E9.out;obtain ⟨w10,hw10⟩ : ∃ w10 : World,w10 = w9.alloc (.cells #[.bool a,.string s,.bool b,.string t] 44) := ⟨_,rfl⟩;have HK10 : Hid (Ck w10 w8.heap.size 0) := by rw [hw10]; exact HK.out.alloc _
 have E10 : Hid (Below w0.heap.size w0 w10) := by rw [hw10]; exact E9.out.alloc E9.out.size _
 have HR10 : Hid (Rp w10 (.slice (some ⟨w9.heap.size,0,none⟩) 2 2) [xa,xb]) := by rw [hw10]; exact HZ2.out w9
 have hlt9 := World.block_lt_of_cell? w9 _ c4;simp only at hlt9;have e4 : ¬ w.heap.size + 1 + 1 = w9.heap.size := Nat.ne_of_lt hlt9;have e5 : ¬ w9.heap.size = w.heap.size + 1 + 1 := fun e => e4 e.symm;go_wp2_with fail;rw [← hw10];clear hw10 c0 c1 c2 c3 c4 c5 e4 e5 hlt9;refine (HCmp.out _ _ _ (k'4h B0.out E10.out) HK10.out HR10.out).mono ?_;rintro e w11 ⟨v11,rfl,r11,b11⟩;have HK11 := i' (HK10.out.below b11);have E11 := i' (k'4h E10.out b11);have R11 := i' r11;clear b11 r11;go_wp2_with fail;refine (HTr.out _ _ R11.out).mono ?_;rintro e w12 ⟨v12,rfl,r12,b12⟩;obtain ⟨a6,bb6,o6,c6,rfl,-⟩ := r12.open_;have HK12 := i' (HK11.out.below b12);have E12 := i' (k'4h E11.out b12);have R12 := i' r12;clear b12 r12;go_wp2_with fail;refine (k'fp _ _ _ _ _ HK12.out).mono ?_;rintro en w13 ⟨rfl,b13⟩;have B13 := i' (k'4h B0.out (k'4h E12.out b13));have R13 := i' (R12.out.below b13);clear b13;go_wp2;go_ret2;exact ⟨_,rfl,R13.out,B13.out⟩
namespace Pl
theorem sm_cons (a : Int) (p : List Int) : sm (a :: p) = a.natAbs + sm p := rfl
theorem sm_scl (c : Int) (p : List Int) : sm (scl c p) = c.natAbs * sm p := by
 induction p with
 | nil => simp [scl,sm]
 | cons a p ih =>
  have : scl c (a :: p) = c * a :: scl c p := rfl;rw [this,sm_cons,sm_cons,ih,Int.natAbs_mul,Nat.mul_add]
theorem sm_add (p q : List Int) : sm (add p q) ≤ sm p + sm q := by
 induction p generalizing q with
 | nil => simp [add]
 | cons a p ih =>
  cases q with
  | nil => simp [add]
  | cons b q =>
   simp only [add,sm_cons];have := ih q;have := Int.natAbs_add_le a b;omega
theorem sm_mul (p q : List Int) : sm (mul p q) ≤ sm p * sm q := by
 induction p with
 | nil => simp [mul,sm]
 | cons a p ih =>
  have h1 := sm_add (scl a q) (0 :: mul p q);rw [sm_scl,sm_cons] at h1;rw [mul,sm_cons,Nat.add_mul];simp at h1;omega
theorem lev_drop (p : List Int) (d : Int) (j : Nat) : (lev p d).drop j = lev (p.drop j) d := by
 induction p generalizing j with
 | nil => simp [lev]
 | cons a p ih =>
  cases j with
  | zero => rfl
  | succ j => simp only [lev,List.drop_succ_cons]; exact ih j
theorem comp_sm (q : List Int) (a b d : Int) (M Z : Nat) (hM : ∀ x ∈ q,x.natAbs ≤ M) (hab : a.natAbs + b.natAbs ≤ Z) (hd : d.natAbs ≤ Z) :
 sm (comp a b (lev q d)) ≤ q.length * (M * Z ^ (q.length - 1)) := by
 induction q with
 | nil => simp [lev,comp,sm]
 | cons x q ih =>
  have h0 := ih fun y hy => hM y (by simp [hy])
  have hx := hM x (by simp)
  rw [lev,comp];have h1 := sm_add (pmul (comp a b (lev q d)) [a,b]) [x * d ^ q.length];have h2 : sm (pmul (comp a b (lev q d)) [a,b]) ≤ sm (comp a b (lev q d)) * Z := by
   have h3 : pmul (comp a b (lev q d)) [a,b] = mul (comp a b (lev q d)) [a,b] := by
    unfold pmul
    split
    ·next h =>
     rcases h with h | h
     ·rw [h]; rfl
     ·simp at h
    ·rfl
   rw [h3];refine Nat.le_trans (sm_mul _ _) (Nat.mul_le_mul_left _ ?_);simp only [sm_cons];show a.natAbs + (b.natAbs + 0) ≤ Z;omega
  have h4 : sm [x * d ^ q.length] ≤ M * Z ^ q.length := by
   show (x * d ^ q.length).natAbs + 0 ≤ _;rw [Int.natAbs_mul,Int.natAbs_pow];exact Nat.mul_le_mul hx (Nat.pow_le_pow_left hd _)
  have h5 : sm (comp a b (lev q d)) * Z ≤ q.length * (M * Z ^ q.length) := by
   rcases Nat.eq_zero_or_pos q.length with h6 | h6
   ·obtain rfl := List.eq_nil_of_length_eq_zero h6
    simp [lev,comp,sm]
   ·have h7 := Nat.mul_le_mul_right Z h0
    have h8 : q.length * (M * Z ^ (q.length - 1)) * Z = q.length * (M * Z ^ q.length) := by
     conv => rhs; rw [show q.length = q.length - 1 + 1 by omega,Nat.pow_succ]
     rw [show q.length - 1 + 1 = q.length by omega]
     grind
    omega
  simp only [List.length_cons,Nat.add_sub_cancel];rw [Nat.succ_mul];omega
end Pl
theorem k'mv (a b d : Int) (ha : a.natAbs < Top) (hb : b.natAbs < Top) (hd : d.natAbs < Top) : a.natAbs < 2 ^ (glb [(zb a,zs a),(zb b,zs b),(zb d,zs d)]).toNat ∧ b.natAbs < 2 ^ (glb [(zb a,zs a),(zb b,zs b),(zb d,zs d)]).toNat ∧ d.natAbs < 2 ^ (glb [(zb a,zs a),(zb b,zs b),(zb d,zs d)]).toNat := by
 have h1 := k'hu (p := [a,b,d]) (by intro x hx; simp at hx; rcases hx with rfl | rfl | rfl <;> assumption)
 exact ⟨Nat.lt_of_le_of_lt (Pl.mx_mem (by simp)) h1,Nat.lt_of_le_of_lt (Pl.mx_mem (by simp)) h1,Nat.lt_of_le_of_lt (Pl.mx_mem (by simp)) h1⟩
theorem k'mw {p : List Int} (hp : VP p) (a b den : Int) (ha : a.natAbs < Top) (hb : b.natAbs < Top) (hd : den.natAbs < Top) (ht : tlg (zl p) (glb [(zb a,zs a),(zb b,zs b),(zb den,zs den)] + 1) = false) :
 (∀ j,j ≤ p.length - 1 → (den ^ j).natAbs < Top) ∧ (∀ i j,j ≤ p.length - 1 → (Pl.cf p i * den ^ j).natAbs < Top) ∧ (∀ k,k < p.length → Pl.sm (hcp (Pl.lev p den) a b k) * Pl.mx [a,b] < Top) ∧ (∀ k,k ≤ p.length → ∀ j,(Pl.cf (hcp (Pl.lev p den) a b k) j).natAbs < Top) := by
 obtain ⟨a1,a2,a4⟩ := k'mv a b den ha hb hd;have a3 := k'hu hp.top;have g1 := k'h9 (zl p);have g2 := k'h9 [(zb a,zs a),(zb b,zs b),(zb den,zs den)];unfold tlg at ht;rw [decide_eq_false_iff_not,k'e0] at ht;obtain ⟨gp,hgp⟩ : ∃ n : Nat,glb (zl p) = n := ⟨(glb (zl p)).toNat,by omega⟩
 obtain ⟨g0,hg⟩ : ∃ n : Nat,glb [(zb a,zs a),(zb b,zs b),(zb den,zs den)] = n := ⟨(glb [(zb a,zs a),(zb b,zs b),(zb den,zs den)]).toNat,by omega⟩
 rw [hgp,hg] at ht;rw [hgp,Int.toNat_natCast] at a3;rw [hg,Int.toNat_natCast] at a1 a2 a4;obtain ⟨g,hgg⟩ : ∃ g,g = g0 + 1 := ⟨_,rfl⟩;have hpg : 2 ^ g = 2 * 2 ^ g0 := by rw [hgg,Nat.pow_succ,Nat.mul_comm]
 have hab : a.natAbs + b.natAbs ≤ 2 ^ g := by omega
 have hdg : den.natAbs ≤ 2 ^ g := by omega
 have hmxab : Pl.mx [a,b] ≤ 2 ^ g := Pl.mx_le fun k hk => by
  match k,hk with
  | 0,_ => show a.natAbs ≤ _; omega
  | 1,_ => show b.natAbs ≤ _; omega
  | j + 2,h => simp at h; omega
 have ht : ¬ (0 < p.length ∧ (gp : Int) + ((p.length : Int) - 1) * (g : Int) + 8 > 65536) := by
  rw [hgg]; push_cast; exact ht
 have hl := hp.len;have h0 : 0 < Top := Nat.lt_of_lt_of_le W0 k'48;have h1T : 1 < Top := Nat.lt_of_lt_of_le (by decide) (k'lb (a := 1) (by omega))
 have hsm : ∀ k,k ≤ p.length → Pl.sm (hcp (Pl.lev p den) a b k) ≤ k * (2 ^ gp * (2 ^ g) ^ (k - 1)) := fun k hk => by
  unfold hcp;rw [Pl.lev_drop,Pl.lev_length];have h5 := Pl.comp_sm (p.drop (p.length - k)) a b den (2 ^ gp) (2 ^ g) (fun x hx => Nat.le_trans (Pl.mx_mem (List.mem_of_mem_drop hx)) (Nat.le_of_lt a3)) hab hdg;rw [List.length_drop,show p.length - (p.length - k) = k by omega] at h5
  exact h5
 rcases Nat.eq_zero_or_pos p.length with hz | hz
 ·have e := List.eq_nil_of_length_eq_zero hz
  subst e;refine ⟨fun j hj => ?_,fun i j hj => ?_,fun k hk => absurd hk (by simp),fun k hk j => ?_⟩
  ·obtain rfl : j = 0 := by simpa using hj
   simpa using h1T
  ·rw [Pl.cf_ge (by simp)]; simpa using h0
  ·obtain rfl : k = 0 := by simpa using hk
   rw [k'mf,Pl.cf_nil]; simpa using h0
 ·obtain ⟨n,hn1⟩ : ∃ n,p.length = n + 1 := ⟨p.length - 1,by omega⟩
  have hb : gp + n * g + 8 ≤ 65536 := by
   have h3 : ¬ ((gp : Int) + ((p.length : Int) - 1) * (g : Int) + 8 > 65536) := fun h => ht ⟨hz,h⟩;have h4 : ((n * g : Nat) : Int) = ((p.length : Int) - 1) * (g : Int) := by rw [hn1]; push_cast; rw [Int.add_sub_cancel]
   omega
  have hpw : ∀ j,j ≤ n → (2 ^ g) ^ j ≤ 2 ^ (n * g) := fun j hj => by
   rw [← Nat.pow_mul];exact Nat.pow_le_pow_right (by decide) (by rw [Nat.mul_comm g]; exact Nat.mul_le_mul_right _ hj)
  have hMX : ∀ j,j ≤ n → 2 ^ gp * (2 ^ g) ^ j ≤ 2 ^ (gp + n * g) := fun j hj => by
   rw [Nat.pow_add]; exact Nat.mul_le_mul_left _ (hpw j hj)
  have hbig : 25 * 2 ^ (gp + n * g) < Top := by
   refine Nat.lt_of_lt_of_le ?_ (k'lb hb);rw [Nat.pow_add _ _ 8];have := Nat.pow_pos (a := 2) (n := gp + n * g) (by decide)
   omega
  have hone : 1 ≤ 2 ^ gp := Nat.pow_pos (by decide)
  refine ⟨fun j hj => ?_,fun i j hj => ?_,fun k hk => ?_,fun k hk j => ?_⟩
  ·rw [Int.natAbs_pow]
   have h1 := Nat.pow_le_pow_left hdg j;have h2 := hMX j (by omega)
   have h3 : (2 ^ g) ^ j ≤ 2 ^ gp * (2 ^ g) ^ j := Nat.le_mul_of_pos_left _ hone;omega
  ·rw [Int.natAbs_mul,Int.natAbs_pow]
   have h1 := Nat.mul_le_mul (Nat.le_trans (Pl.mx_cf p i) (Nat.le_of_lt a3)) (Nat.pow_le_pow_left hdg j);have h2 := hMX j (by omega)
   omega
  ·have h1 := Nat.mul_le_mul (hsm k (by omega)) hmxab
   rcases Nat.eq_zero_or_pos k with h5 | h5
   ·subst h5; rw [k'mf]; simp [Pl.sm]; exact h0
   ·have h6 : k * (2 ^ gp * (2 ^ g) ^ (k - 1)) * 2 ^ g = k * (2 ^ gp * (2 ^ g) ^ k) := by
     have h7 : (2 ^ g) ^ k = (2 ^ g) ^ (k - 1) * 2 ^ g := by rw [← Nat.pow_succ,show (k - 1).succ = k by omega]
     rw [h7]
     grind
    have h2 := Nat.mul_le_mul (show k ≤ 25 by omega) (hMX k (by omega))
    omega
  ·have h1 := hsm k hk
   have h3 := Nat.le_trans (Pl.mx_cf (hcp (Pl.lev p den) a b k) j) (Pl.mx_le_sm _);have h2 := Nat.mul_le_mul (show k ≤ 25 by omega) (hMX (k - 1) (by omega))
   omega
theorem k'mx {p : List Int} {a b den : Int} (hp : VP p) (h : ckc (zl p) (zb a) (zs a) (zb b) (zs b) (zb den) (zs den) = 0) : tlg (zl p) (glb [(zb a,zs a),(zb b,zs b),(zb den,zs den)] + 1) = false := by
 unfold ckc at h
 split at h
 ·split at h
  ·omega
  ·split at h
   ·omega
   ·next h1 => simpa using h1
 ·omega
theorem k'my (p : List Int) (v : Value) (a b d : Int) (w : World) (h : Rp w v p) (hp : VP p) (ha : a.natAbs < Top) (hb : b.natAbs < Top) (hd : d.natAbs < Top) (he : ckc (zl p) (zb a) (zs a) (zb b) (zs b) (zb d) (zs d) = 0) :
 Calls Tryz.prog 51 #[v,Z a,Z b,Z d] w (ResP (Pl.trim (Pl.comp a b (Pl.lev p d))) w) := by
 obtain ⟨f1,f2,f3,f4⟩ := k'mw hp a b d ha hb hd (k'mx hp he);refine k'mu p v a b d (Pl.comp a b (Pl.lev p d)) w h hp ha hb hd he (fun c v2 w' hbw hck hr => k'mq c p v v2 a b d 0 w' (h.below hbw) hr hck hp.len hp.top hd ha hb f1 f2 f3 f4) ?_;intro x hx;obtain ⟨k,hk,rfl⟩ := List.mem_iff_getElem.1 hx;rw [← Pl.cf_lt hk];have h5 := f4 p.length (Nat.le_refl _) k;have h6 := k'mi (Pl.lev p d) a b;rw [Pl.lev_length] at h6;rwa [h6] at h5
end Go.Proofs.YtepddegphdlbeaaGreat
