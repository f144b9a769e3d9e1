/- What the theorem leans on, part G10. -/
import Derived.Test.YtepddegphdlbeaaGreatG9
import Derived.RangeFuncNested
import Derived.RangeFuncBound
import Derived.RangeFuncCalls
import Derived.RangeFuncLeaves
import Derived.Shelf.Abstract
import Derived.Shelf.RegionOpen
import Derived.WalkKit
import Derived.OwnWalkIn
import Derived.TacticsInMore
import Derived.LoopNIn
import Derived.LoopIn
import Derived.Test.YtepddegphdlbeaaGreatG8
import Derived.Test.YtepddegphdlbeaaGreatG7
import Derived.Test.YtepddegphdlbeaaGreatG6
import Derived.Test.YtepddegphdlbeaaGreatG4
import Derived.Test.YtepddegphdlbeaaGreatG3
import Derived.Test.YtepddegphdlbeaaGreatG2
import Derived.Test.YtepddegphdlbeaaGreatG1
import Derived.Test.YtepddegphdlbeaaGreatG0
import Derived.Test.YtepddegphdlbeaaGreatProg
import Derived.WalkSpells
import Derived.WalkLawsBesides
import Derived.Lib.Hide
import Derived.Deep.QuietTactic
import Derived.BigQuiet
import Derived.Shelf.Small.Bits
import Derived.Shelf.Small.Wraps
import Derived.Shelf.Strconv.Itoa0
import Derived.Shelf.Bits.Mul64
import Derived.Ground.Names2Prog
import Derived.Shelf.Slices.SearchI
import Derived.Shelf.Spec.BitsCarry
import Derived.Deep.LoopGhost
import Derived.Deep.RegionHeld3
import Derived.Deep.DeepCutAuto
import Derived.Test.YtepddegphdlbeaaGreatG5
import Derived.Laws.AppendOwnNone
import Derived.Below
import Derived.OrdersIn
import Derived.Deep.RegionHeld
import Derived.Maps.AppendAt
import Derived.Lib.SliceRun
import Derived.IntWalk
set_option maxRecDepth 100000
set_option maxHeartbeats 16000000
set_option linter.all false
namespace Go.Proofs.YtepddegphdlbeaaGreat
open Go.RowKit Go.Shelf
attribute [local go_sem] Oper.semAt_some
theorem k'ey (c : Nat) (x y e : Int) (w : World) (hc : Ck w c e) (hx : x.natAbs < Top) (hy : y.natAbs < Top) :
 Calls Tryz.prog 89 #[.pointer (some ⟨c, 0, none⟩), Z x, Z y] w (KPost (Z (clip (x * y))) c (er e (x * y)) w) := by
 refine k'cs c _ _ _ _ _ _ (werr (bv (zs x) * bv (zs y))) e _ w hc ?_ fun w => ?_
 ·rw [← er_z e (zb x != zb y), k'bp, sgzz, sgzz]
 ·have h1 := k'4i (zb x) (zb y) (zs x) (zs y) w (zvt hx) (zvt hy)
  rw [k'cu, k'bp, sgzz, sgzz] at h1
  exact h1
theorem k'ez (z : Int) : (clip z).natAbs < Top := by
 unfold clip
 split
 ·assumption
 ·exact Nat.lt_of_lt_of_le W0 W_Top
theorem zz_of (n : Int) (w : World) (h1 : -9223372036854775808 ≤ n) (h2 : n ≤ 9223372036854775807) : Calls Tryz.prog 73 #[.int .i64 n] w (Ret (Z n) w) := k'4p n w h1 h2
theorem k'f0 {W W' : World} {row : Option Nat} {g : Nat} {L : List Int} (h : Aw W g L) (hg : W.grownBy W' row) (hr : ∀ r, row = some r → ∃ o : Obj, W.heap[r]? = some o ∧ o.isCells = false) : Aw W' g L :=
 h.keep (hg.block g h.lt fun e => by
  obtain ⟨o, ho, hc⟩ := hr g e.symm
  obtain ⟨r, h⟩ := h
  rw [h] at ho; cases ho; cases hc)
theorem k'f1 {W W' : World} {row : Option Nat} {c : Nat} {e : Int} (h : Ck W c e) (hg : W.grownBy W' row) (hr : ∀ r, row = some r → ∃ o : Obj, W.heap[r]? = some o ∧ o.isCells = false) : Ck W' c e :=
 (hg.block c h.lt fun e' => by
  obtain ⟨o, ho, hc⟩ := hr c e'.symm
  rw [show W.heap[c]? = _ from h] at ho; cases ho; cases hc).trans h
theorem k'f3 {B c : Nat} {W W' : World} {e : Int} (h : But c W W') (hc : Ck W c e) : KeepsFrom B W W' := ⟨h.size, fun k o _ hk ho => by
 refine (h.block k (Array.getElem?_eq_some_iff.1 hk).1 fun e' => ?_).trans hk
 subst e'
 rw [show W.heap[k]? = _ from hc] at hk; cases hk; cases ho⟩
theorem far2 {w : World} {g o1 o2 : Nat} {u1 u2 : Value} {a : Addr} {v : Value} (hn : g ≠ a.block) (h : w.cell? a = some v) : ((w.setCell ⟨g, o1, none⟩ u1).setCell ⟨g, o2, none⟩ u2).cell? a = some v := by
 rw [World.cell?_setCell_far _ _ _ _ (by exact hn), World.cell?_setCell_far _ _ _ _ (by exact hn)]; exact h
theorem k'f4 {n k : Nat} {h : k ≤ n} {pre : List (Fin n)} {x : Fin n} (e : pre ++ [x] = dn n k h) : ∃ k' h', k = k' + 1 ∧ pre = dn n k' h' ∧ x.val = n - 1 - k' := by
 cases k with
 | zero => simp [dn] at e
 | succ k =>
  rw [dn] at e
  obtain ⟨e1, e2⟩ := List.append_inj' e rfl
  refine ⟨k, by omega, rfl, e1, ?_⟩
  have := congrArg (List.map Fin.val) e2
  simpa using this
def lvL (p : List Int) (den : Int) (n k : Nat) : List Int := (List.range n).map fun i => if n - k ≤ i then Pl.cf p i * den ^ (n - 1 - i) else 0
theorem k'f5 (p : List Int) (den : Int) (n k : Nat) (hk : k < n) : (lvL p den n k).set (n - 1 - k) (Pl.cf p (n - 1 - k) * den ^ k) = lvL p den n (k + 1) := by
 apply List.ext_getElem (by simp [lvL])
 intro i h1 h2
 rw [List.getElem_set]
 simp only [lvL, List.getElem_map, List.getElem_range]
 by_cases e : n - 1 - k = i
 ·subst e
  rw [if_pos rfl, if_pos (by omega), show n - 1 - (n - 1 - k) = k by omega]
 ·rw [if_neg e]
  have hi : i < n := by simpa [lvL] using h2
  by_cases g : n - k ≤ i
  ·rw [if_pos g, if_pos (by omega)]
  ·rw [if_neg g, if_neg (by omega)]
theorem k'f6 (p : List Int) (den : Int) : lvL p den p.length p.length = Pl.lev p den := by
 apply Pl.ext_cf (by simp [lvL, Pl.lev_length])
 intro i hi
 have hi2 : i < p.length := by simpa [lvL] using hi
 rw [Pl.cf_lev, lvL, Pl.cf_map_range, if_pos hi2, if_pos (by omega)]
theorem k'f7 {px : Int} (p : List Int) (n : Nat) (pre : List (Fin p.length)) (x : Fin p.length) (L : List Int) (den f en e d e1 f2 e2 : Int) (hxn : x.val < n) (hn : n = p.length) (hL : L.length = n)
 (hgood : ∀ k h, pre = dn p.length k h → en = e ∧ L = lvL p den n k ∧ f = den ^ (min k (n - 1)))
 (hd : d = clip (px * f)) (he1 : e1 = er en (px * f)) (hf2 : f2 = clip (f * den)) (he2 : e2 = er e1 (f * den)) (hpow : ∀ j, j ≤ p.length - 1 → (den ^ j).natAbs < Top) (hfit : ∀ i j, j ≤ p.length - 1 → (Pl.cf p i * den ^ j).natAbs < Top) (hpx : px = Pl.cf p x.val) :
 (x.val = 0 → ∀ k h, pre ++ [x] = dn p.length k h → e1 = e ∧ L.set x.val d = lvL p den n k ∧ f = den ^ (min k (n - 1))) ∧
 (0 < x.val → ∀ k h, pre ++ [x] = dn p.length k h → e2 = e ∧ L.set x.val d = lvL p den n k ∧ f2 = den ^ (min k (n - 1))) := by
 have key : ∀ k h, pre ++ [x] = dn p.length k h → ∃ k', k = k' + 1 ∧ x.val = n - 1 - k' ∧ k' < n ∧ e1 = e ∧ L.set x.val d = lvL p den n k ∧ f = den ^ k' := by
  intro k h hk
  obtain ⟨k', h', rfl, h1, h2⟩ := k'f4 hk
  obtain ⟨g1, g2, g3⟩ := hgood k' h' h1
  have hk' : k' < n := by omega
  rw [show min k' (n - 1) = k' by omega] at g3
  have hfi : (px * f).natAbs < Top := by rw [hpx, g3]; exact hfit _ _ (by omega)
  refine ⟨k', rfl, by omega, hk', ?_, ?_, g3⟩
  ·rw [he1, er_ok _ hfi, g1]
  ·rw [hd, k'ct hfi, hpx, g3, g2, show x.val = n - 1 - k' by omega]
   exact k'f5 p den n k' hk'
 constructor
 ·intro h0 k h hk
  obtain ⟨k', rfl, h1, h2, h3, h4, h5⟩ := key k h hk
  refine ⟨h3, h4, ?_⟩
  rw [h5]; congr 1; omega
 ·intro h0 k h hk
  obtain ⟨k', rfl, h1, h2, h3, h4, h5⟩ := key k h hk
  have hfi : (f * den).natAbs < Top := by rw [h5, ← Int.pow_succ]; exact hpow _ (by omega)
  refine ⟨by rw [he2, er_ok _ hfi, h3], h4, ?_⟩
  rw [hf2, k'ct hfi, h5, ← Int.pow_succ]; congr 1; omega
def LvI (p : List Int) (n c G M0 M3 Fb n₀ Bs : Nat) (sv : Value) (den e : Int) (w : World) (pre : List (Fin p.length)) (W : World) : Prop :=
 (∃ (L : List Int) (f en : Int), L.length = n ∧ f.natAbs < Top ∧ Aw W G L ∧ Aw W Fb [f] ∧ Ck W c en ∧
  ∀ k h, pre = dn p.length k h → en = e ∧ L = lvL p den n k ∧ f = den ^ (min k (n - 1))) ∧
 (W.cell? ⟨M0, 0, none⟩ = some (.pointer (some ⟨c, 0, none⟩)) ∧ W.cell? ⟨M3, 0, none⟩ = some (.slice (some ⟨G, 0, none⟩) n n) ∧ W.cell? ⟨Bs, 0, none⟩ = some sv) ∧ Aw W (M0 + 1) [den] ∧ Bn c n₀ w W
theorem k'f8 (p : List Int) (n c G M0 M3 Fb n₀ Bs B : Nat) (sv : Value) (den e : Int) (w : World) (hn : n₀ ≤ w.heap.size) (hB : n₀ ≤ B) : OwnFrom B (LvI p n c G M0 M3 Fb n₀ Bs sv den e w) := by
 rintro pre W W' row ⟨⟨L, f, en, h1, h2, h3, h4, h5, h6⟩, ⟨h7, h8, h11⟩, h9, h10⟩ hg hr
 have hr' : ∀ r, row = some r → ∃ o : Obj, W.heap[r]? = some o ∧ o.isCells = false := fun r e => (hr r e).2
 exact ⟨⟨L, f, en, h1, h2, k'f0 h3 hg hr', k'f0 h4 hg hr', k'f1 h5 hg hr', h6⟩, ⟨cell_kept h7 hg hr', cell_kept h8 hg hr', cell_kept h11 hg hr'⟩, k'f0 h9 hg hr', k'e2 (β := Unit) hn hB () W W' row h10 hg hr⟩
theorem k'f9 (c : Nat) (p : List Int) (v : Value) (den e : Int) (w : World) (h : Rp w v p) (hc : Ck w c e) (hl : p.length ≤ 50) (ht : ∀ a ∈ p, a.natAbs < Top) (hd : den.natAbs < Top)
 (hpow : ∀ j, j ≤ p.length - 1 → (den ^ j).natAbs < Top) (hfit : ∀ i j, j ≤ p.length - 1 → (Pl.cf p i * den ^ j).natAbs < Top) :
 Calls Tryz.prog 133 #[.pointer (some ⟨c, 0, none⟩), v, Z den] w (OwnPoly (Pl.lev p den) w) := by
 obtain ⟨a, b, off, cap, rfl, h2, h3, h4, h5⟩ := h.open_
 obtain ⟨n, hn⟩ : ∃ n, n = p.length := ⟨_, rfl⟩
 have HK := i' (fun w => k'cm n w (by omega))
 have HN := i' hn
 have HC := i' hc
 have HT := i' ht
 have HPow := i' hpow
 have HPA := i' h4
 have HPC := i' h5
 have HFit := i' hfit
 have HD := i' hd
 rw [← hn]
 refine (callsIn_wide (n := 5)).1 ?_
 refine callsIn_of_wp_marks Tryz.func133 rfl trivial ?_ rfl
 simp only [Tryz.ntmps133, List.size_toArray, List.length_cons, List.length_nil, Nat.reduceAdd, Nat.reduceSub, Array.replicate_succ, Array.replicate_zero, List.push_toArray, List.append_toArray, List.nil_append, List.cons_append]
 clear h h2 h3 h4 h5 hc ht hd hn hpow hfit
 have hk := HK.out
 gi_wp2_with (refine ⟨trivial, ?_⟩; gi_at_call 73; refine (callsIn_wide.2 (zz_of 1 _ (by decide) (by decide))).mono ?_; rintro e w1 ⟨rfl, b1⟩)
 clear hk
 refine ⟨trivial, ?_⟩
 refine (k'e5 Fence.wide _ trivial rfl a n cap _).mono ?_
 rintro e2 w2 ⟨rfl, hw2⟩
 have hsz : w1.heap.size ≥ w.heap.size + 4 := by have := b1.size; simp at this; omega
 have HPP : Hid ((0 < n → a = some ⟨b, off, none⟩) ∧ (∀ j (hj : j < p.length), w2.cell? ⟨b, off + j * 2, none⟩ = some (.bool (zb p[j])) ∧ w2.cell? ⟨b, off + j * 2 + 1, none⟩ = some (.string (zs p[j]))) ∧
  ∀ W W', Bk c w.heap.size (w1.heap.size + 1) W W' → ∀ a' : Addr, (a'.block = w1.heap.size + 1 ∨ (0 < n ∧ a'.block = b)) → W'.cell? a' = W.cell? a') := by
  have hb2 : Below w.heap.size w w2 := by
   have h0 : Below w.heap.size w ((((w.alloc (.cells #[.pointer (some ⟨c, 0, none⟩)] 94)).alloc (.cells #[.bool (zb den), .string (zs den)] 44)).alloc (.cells (wv (List.replicate n 0)).toArray 44)).alloc (.cells #[.slice (some ⟨w.heap.size + 1 + 1, 0, none⟩) n n] 23)) :=
    ((((Below.refl _ _).alloc (Nat.le_refl _) _).alloc (by simp) _).alloc (by simp; omega) _).alloc (by simp; omega) _
   rw [hw2]
   exact ((h0.trans (b1.mono h0.size)).alloc (by omega) _).alloc (by simp; omega) _
  have hp0 : 0 < n → 0 < p.length := fun h0 => by have h5 : n = p.length := HN.out; omega
  refine ⟨fun h0 => HPA.out (List.length_pos_iff.1 (hp0 h0)), fun j hj => ⟨keep1 hb2 (HPC.out j hj).1, keep1 hb2 (HPC.out j hj).2⟩, fun W W' hk a' ha' => ?_⟩
  rcases ha' with ha' | ⟨h0, ha'⟩
  ·exact World.cell?_of_block (by rw [ha']; exact hk.box)
  ·have hc0 := (HPC.out 0 (hp0 h0)).1
   have hlt := World.block_lt_of_cell? w _ hc0
   exact hk.bn.cell (by rw [ha']; exact hlt) (by rw [ha']; exact HC.out.ne hc0)
 have HA2 : Hid (LvI p n c (w.heap.size + 1 + 1) w.heap.size (w.heap.size + 1 + 1 + 1) w1.heap.size w.heap.size (w1.heap.size + 1) (.slice a n cap) den e w [] w2) := by
  obtain ⟨W4, hW4⟩ : ∃ W4 : World, W4 = (((w.alloc (.cells #[.pointer (some ⟨c, 0, none⟩)] 94)).alloc (.cells #[.bool (zb den), .string (zs den)] 44)).alloc (.cells (wv (List.replicate n 0)).toArray 44)).alloc (.cells #[.slice (some ⟨w.heap.size + 1 + 1, 0, none⟩) n n] 23) := ⟨_, rfl⟩
  rw [← hW4] at b1
  have hs4 : W4.heap.size = w.heap.size + 4 := by rw [hW4]; simp
  have t0 : W4.cell? ⟨w.heap.size, 0, none⟩ = some (.pointer (some ⟨c, 0, none⟩)) := by rw [hW4]; simp [go_sem]
  have t1 : W4.cell? ⟨w.heap.size + 1 + 1 + 1, 0, none⟩ = some (.slice (some ⟨w.heap.size + 1 + 1, 0, none⟩) n n) := by rw [hW4]; simp [go_sem]
  have t2 : Aw W4 (w.heap.size + 1) [den] := by
   rw [hW4]
   have h5 := ((Aw.made (w.alloc (.cells #[.pointer (some ⟨c, 0, none⟩)] 94)) [den]).alloc (.cells (wv (List.replicate n 0)).toArray 44)).alloc (.cells #[.slice (some ⟨w.heap.size + 1 + 1, 0, none⟩) n n] 23)
   rw [World.size_alloc] at h5
   exact h5
  have t3 : Aw W4 (w.heap.size + 1 + 1) (List.replicate n 0) := by
   rw [hW4]
   have h5 := (Aw.made ((w.alloc (.cells #[.pointer (some ⟨c, 0, none⟩)] 94)).alloc (.cells #[.bool (zb den), .string (zs den)] 44)) (List.replicate n 0)).alloc (.cells #[.slice (some ⟨w.heap.size + 1 + 1, 0, none⟩) n n] 23)
   rw [World.size_alloc, World.size_alloc] at h5
   exact h5
  have t4 : Below w.heap.size w W4 := by rw [hW4]; exact ((((Below.refl _ _).alloc (Nat.le_refl _) _).alloc (by simp) _).alloc (by simp; omega) _).alloc (by simp; omega) _
  have hb2 : Below w.heap.size w w2 := by rw [hw2]; exact ((t4.trans (b1.mono t4.size)).alloc (by omega) _).alloc (by simp; omega) _
  have hb3 : Below w1.heap.size w1 w2 := by rw [hw2]; exact ((Below.refl _ _).alloc (Nat.le_refl _) _).alloc (by simp) _
  refine ⟨⟨List.replicate n 0, 1, e, List.length_replicate, Nat.lt_of_lt_of_le (by decide) W_Top, (t3.below b1).below hb3, ?_, HC.out.below hb2, ?_⟩, ⟨keep1 hb3 (keep1 b1 t0), keep1 hb3 (keep1 b1 t1), ?_⟩, (t2.below b1).below hb3, Bn.of_below hb2⟩
  ·rw [hw2]; exact (Aw.made w1 [1]).alloc _
  ·intro k h5 h6
   have hk0 : k = 0 := by have h7 := congrArg List.length h6; rw [k'e3] at h7; simpa using h7.symm
   subst hk0
   refine ⟨rfl, ?_, by simp⟩
   apply List.ext_getElem (by simp [lvL])
   intro i h8 h9
   have hi : i < n := by simpa using h8
   simp only [lvL, List.getElem_map, List.getElem_range, List.getElem_replicate]
   rw [if_neg (by omega)]
  ·rw [hw2]; simp [go_sem]
 have HS2 : Hid (w2.cell? ⟨w1.heap.size + 1, 0, none⟩ = some (.slice a n cap)) := by show _ = _; rw [hw2]; simp [go_sem]
 have HZ2 : Hid (w2.heap.size = w1.heap.size + 2) := by show _ = _; rw [hw2]; simp
 clear hw2
 gi_wp2
 refine wpIn_rangeFunc_ownH rfl (show 1 ≤ 5 by decide) (gf := 145) (lb := #[.pointer (some ⟨w1.heap.size + 1, 0, none⟩)]) rfl trivial (enters_of Tryz.func145 (by kernel_rfl) rfl)
  (k'e6 (Bk c w.heap.size (w1.heap.size + 1)) (Bk.refl _ _ _) bk_t Fence.wide 4 trivial rfl (by decide) (w1.heap.size + 1) b off n cap a p (by omega) w2 HN.out (by have h5 := HZ2.out; omega) HS2.out HPP.out.1 HPP.out.2.1 HPP.out.2.2) bk_t (bk_b (by have h5 := HZ2.out; omega) (by have h5 := HZ2.out; omega)) (Below.refl _ _) (fun _ => rfl)
  (LvI p n c (w.heap.size + 1 + 1) w.heap.size (w.heap.size + 1 + 1 + 1) w1.heap.size w.heap.size (w1.heap.size + 1) (.slice a n cap) den e w)
  (fun _ _ _ => False)
  (k'f8 _ _ _ _ _ _ _ _ _ _ _ _ _ _ (Nat.le_refl _) (by have h5 := HZ2.out; omega))
  (fun _ _ _ _ _ hs _ _ => hs)
  HA2.out
  (fun x a' W => ∃ Bx, (w.heap.size + 1 + 1 + 1 < Bx ∧ w1.heap.size < Bx) ∧ Aw W Bx [p[x.val]] ∧ a' = { tmps := #[.pointer (some ⟨c, 0, none⟩), .slice a n cap, Z den, .pointer (some ⟨w.heap.size, 0, none⟩), undef, .pointer (some ⟨w.heap.size + 1, 0, none⟩), .slice none 0 0, .pointer (some ⟨w.heap.size + 1 + 1 + 1, 0, none⟩), .pointer (some ⟨w1.heap.size, 0, none⟩), .int .i64 (x.val : Int), .pointer (some ⟨Bx, 0, none⟩), .slice a n cap, .int .i64 (n : Int), .slice (some ⟨w.heap.size + 1 + 1, 0, none⟩) n n, Z 1, .slice a n cap, .func (.func 145) #[] #[.pointer (some ⟨w1.heap.size + 1, 0, none⟩)], .int .i64 (x.val : Int), Z p[x.val], undef, undef, undef, undef, undef, undef, undef, undef, undef, undef, undef, undef, undef, undef], defers := [] })
  (fun x a' _ X Y row hs hg hr => by obtain ⟨Bx, h1, h2, h3⟩ := hs; exact ⟨Bx, h1, k'f0 h2 hg (fun r e => (hr r e).2), h3⟩)
  ?assign ?body ?done ?stop
 case assign =>
  rintro l pre x W K hI hK
  unfold encw
  have hI2 := (k'f8 p n c (w.heap.size + 1 + 1) w.heap.size (w.heap.size + 1 + 1 + 1) w1.heap.size w.heap.size (w1.heap.size + 1) w.heap.size (.slice a n cap) den e w (Nat.le_refl _) (Nat.le_refl _)).alloc (.cells #[.bool (zb p[x.val]), .string (zs p[x.val])] 44) hI
  obtain ⟨⟨L, f, en, _, _, _, hF, _⟩, ⟨_, hM3, hBs⟩, _, hB⟩ := hI
  have hl3 := World.block_lt_of_cell? W _ hBs
  have hl1 := hF.lt
  have hl2 := World.block_lt_of_cell? W _ hM3
  gi_wp2
  exact hK _ _ ((KeepsOthers.alloc _ _).from _) ((Bk.refl _ _ _ _).alloc hB.size hl3 _) hI2 ⟨W.heap.size, ⟨hl2, hl1⟩, Aw.made W [p[x.val]], rfl⟩
 case body =>
  rintro l pre x a' W hl ⟨r, hr⟩ hI ⟨Bx, ⟨hBx1, hBx2⟩, bX, rfl⟩ hlt
  obtain ⟨⟨L, f, en, hL, hf, hG, hF, hCk, hgood⟩, ⟨hM0, hM3, hBsc⟩, hDen, hBn⟩ := hI
  have hbs := World.block_lt_of_cell? W _ hBsc
  simp only at hbs
  have HBS := i' hBsc
  clear hBsc
  have hcw := HC.out.lt
  have hpx : (p[x.val]).natAbs < Top := HT.out _ (List.getElem_mem x.isLt)
  have HM1 := i' (fun w' hc => k'ey c p[x.val] f en w' hc hpx hf)
  obtain ⟨d, hd⟩ : ∃ d, d = clip (p[x.val] * f) := ⟨_, rfl⟩
  obtain ⟨e1, he1⟩ : ∃ e1, e1 = er en (p[x.val] * f) := ⟨_, rfl⟩
  rw [← hd, ← he1] at HM1
  have HM2 := i' (fun w' hc => k'ey c f den e1 w' hc hf HD.out)
  obtain ⟨f2, hf2⟩ : ∃ f2, f2 = clip (f * den) := ⟨_, rfl⟩
  obtain ⟨e2, he2⟩ : ∃ e2, e2 = er e1 (f * den) := ⟨_, rfl⟩
  rw [← hf2, ← he2] at HM2
  have HSP := i' (And.intro hd (And.intro he1 (And.intro hf2 he2)))
  have HGO := i' hgood
  have HHF := i' hf
  have HLn := i' hL
  have HGA := i' hG
  have HFA := i' hF
  have HCK := i' hCk
  have HBN := i' hBn
  have HDE := i' hDen
  have HBX := i' bX
  clear hd he1 hf2 he2 hgood hf hL hG hF hCk hBn hDen bX hpx
  have hxn : x.val < n := by have := x.isLt; have h5 : n = p.length := HN.out; omega
  obtain ⟨xv, hxv⟩ : ∃ xv, xv = x.val := ⟨_, rfl⟩
  obtain ⟨x0, x1⟩ := HBX.out.cell 0 (by simp)
  obtain ⟨f0, f1⟩ := HFA.out.cell 0 (by simp)
  obtain ⟨n0, n1⟩ := HDE.out.cell 0 (by simp)
  simp only [Nat.zero_mul, Nat.zero_add, List.getElem_cons_zero] at x0 x1 f0 f1 n0 n1
  have HPX := i' (show p[x.val] = Pl.cf p x.val from (Pl.cf_lt x.isLt).symm)
  unfold Z at HM1 HM2
  generalize p[x.val] = px at *
  rw [← hxv] at hxn ⊢
  have HXV := i' hxv
  clear hxv
  have hmx : Tryz.prog.follows .mixedOrders = true := by kernel_rfl
  have m1 : w.heap.size + 1 + 1 + 1 ≠ c := by omega
  have m2 : w1.heap.size ≠ c := by omega
  have m3 : w.heap.size + 1 + 1 ≠ c := by omega
  have m4 : w.heap.size ≠ c := by omega
  have m5 : Bx ≠ c := by omega
  have m6 : w.heap.size + 1 ≠ c := by omega
  have m7 : w1.heap.size + 1 ≠ c := by omega
  have y0 : (0 : Int) ≤ (xv : Int) := by omega
  have y1 : (xv : Int) < (n : Int) := by omega
  have HXL := i' (show xv < L.length by rw [HLn.out]; exact hxn)
  gi_wp2
  refine k'ec (S := (fun W' => W'.cell? ⟨w.heap.size + 1 + 1 + 1, 0, none⟩ = some (.slice (some ⟨w.heap.size + 1 + 1, 0, none⟩) n n) ∧ W'.cell? ⟨w.heap.size, 0, none⟩ = some (.pointer (some ⟨c, 0, none⟩)) ∧ W'.cell? ⟨Bx, 0, none⟩ = some (.bool (zb px)) ∧ W'.cell? ⟨Bx, 1, none⟩ = some (.string (zs px)) ∧ W'.cell? ⟨w1.heap.size, 0, none⟩ = some (.bool (zb f)) ∧ W'.cell? ⟨w1.heap.size, 1, none⟩ = some (.string (zs f)))) hmx (by intro i o ho c; match i, ho with | 0, h | 1, h | 2, h | 3, h | 4, h | 5, h | 6, h | 7, h => (injection h with h; subst h; exact fun e => by cases e) | k + 8, h => exact absurd h (by simp)) ?_ (fun hHeld => ?_)
  ·exact ⟨hM3, hM0, x0, x1, f0, f1⟩
  refine wpAnyH_take (i := 0) (oi := ?oi1) (v := ?v1) ?hi1 (by kernel_rfl) (by kernel_rfl) (by kernel_rfl) k'ed (Or.inl ⟨?hw1, ?hy1⟩) (by assumption) ?rest1
  case hi1 => simp only [List.getElem?_toArray, List.getElem?_cons_succ, List.getElem?_cons_zero]; rfl
  case hw1 => rfl
  case hy1 =>
   intro w hSw
   (try dsimp only at hSw)
   go_simp
   (try with_reducible rfl)
  (try simp only [Act.put, List.setIfInBounds_toArray, List.set_cons_zero, List.set_cons_succ])
  refine wpAnyH_take (i := 1) (oi := ?oi2) (v := ?v2) ?hi2 (by kernel_rfl) (by kernel_rfl) (by kernel_rfl) k'ed (Or.inl ⟨?hw2, ?hy2⟩) (by assumption) ?rest2
  case hi2 => simp only [List.getElem?_toArray, List.getElem?_cons_succ, List.getElem?_cons_zero]; rfl
  case hw2 => rfl
  case hy2 =>
   intro w hSw
   (try dsimp only at hSw)
   go_simp
   (try with_reducible rfl)
  (try simp only [Act.put, List.setIfInBounds_toArray, List.set_cons_zero, List.set_cons_succ])
  refine wpAnyH_take (i := 2) (oi := ?oi3) (v := ?v3) ?hi3 (by kernel_rfl) (by kernel_rfl) (by kernel_rfl) k'ed (Or.inl ⟨?hw3, ?hy3⟩) (by assumption) ?rest3
  case hi3 => simp only [List.getElem?_toArray, List.getElem?_cons_succ, List.getElem?_cons_zero]; rfl
  case hw3 => rfl
  case hy3 =>
   intro w hSw
   (try dsimp only at hSw)
   go_simp
   (try with_reducible rfl)
  (try simp only [Act.put, List.setIfInBounds_toArray, List.set_cons_zero, List.set_cons_succ])
  refine wpAnyH_take (i := 3) (oi := ?oi4) (v := ?v4) ?hi4 (by kernel_rfl) (by kernel_rfl) (by kernel_rfl) k'ed (Or.inl ⟨?hw4, ?hy4⟩) (by assumption) ?rest4
  case hi4 => simp only [List.getElem?_toArray, List.getElem?_cons_succ, List.getElem?_cons_zero]; rfl
  case hw4 => rfl
  case hy4 =>
   intro w hSw
   (try dsimp only at hSw)
   go_simp
   (try with_reducible rfl)
  (try simp only [Act.put, List.setIfInBounds_toArray, List.set_cons_zero, List.set_cons_succ])
  refine wpAnyH_take (i := 4) (oi := ?oi5) (v := ?v5) ?hi5 (by kernel_rfl) (by kernel_rfl) (by kernel_rfl) k'ed (Or.inl ⟨?hw5, ?hy5⟩) (by assumption) ?rest5
  case hi5 => simp only [List.getElem?_toArray, List.getElem?_cons_succ, List.getElem?_cons_zero]; rfl
  case hw5 => rfl
  case hy5 =>
   intro w hSw
   (try dsimp only at hSw)
   go_simp
   (try with_reducible rfl)
  (try simp only [Act.put, List.setIfInBounds_toArray, List.set_cons_zero, List.set_cons_succ])
  refine wpAnyH_ready (rs := [5]) (by kernel_rfl) (by simp) ?_
  refine AllReadyH.cons (o := ?oi6) ?hi6 ?rest6 AllReadyH.nil
  case hi6 => simp only [List.getElem?_toArray, List.getElem?_cons_succ, List.getElem?_cons_zero]; rfl
  intro K hK
  go_simp
  (with_reducible refine (HM1.out _ (by exact HCK.out.drew)).mono ?_)
  rintro e w5 ⟨rfl, b5, d5⟩
  have c5 := ((But.refl c W).drew).trans b5
  have p0 := c5.cell hM3 m1
  have p1 := c5.cell hM0 m4
  have p2 := c5.cell x0 m5
  have p3 := c5.cell x1 m5
  have HA5 := i' (c5.aw HGA.out m3)
  have HF5 := i' (c5.aw HFA.out m2)
  have HD5 := i' (c5.aw HDE.out m6)
  obtain ⟨p8, p9⟩ := HF5.out.cell 0 (by simp)
  simp only [Nat.zero_mul, Nat.zero_add, List.getElem_cons_zero] at p8 p9
  have p4 := (HA5.out.cell xv HXL.out).1
  have p5 := (HA5.out.cell xv HXL.out).2
  have p6 := HA5.out.free (xv * 2)
  have p7 := HA5.out.free (xv * 2 + 1)
  have G5 := i' (And.intro c5 d5)
  clear b5 d5 c5
  (try go_wp2_with fail)
  refine hK.out _ _ ?_ (fun hHeld => ?_)
  ·(try dsimp only)
   exact ⟨p0, p1, p2, p3, p8, p9⟩
  clear hK K
  (try simp only [Act.put, List.setIfInBounds_toArray, List.set_cons_zero, List.set_cons_succ])
  refine wpAnyH_take (i := 6) (oi := ?oi7) (v := ?v7) ?hi7 (by kernel_rfl) (by kernel_rfl) (by kernel_rfl) k'ed (Or.inl ⟨?hw7, ?hy7⟩) (by assumption) ?rest7
  case hi7 => simp only [List.getElem?_toArray, List.getElem?_cons_succ, List.getElem?_cons_zero]; rfl
  case hw7 => rfl
  case hy7 =>
   intro w hSw
   (try dsimp only at hSw)
   go_simp
   (try with_reducible rfl)
  (try simp only [Act.put, List.setIfInBounds_toArray, List.set_cons_zero, List.set_cons_succ])
  refine wpAnyH_ready (rs := [7]) (by kernel_rfl) (by simp) ?_
  refine AllReadyH.cons (o := ?oi8) ?hi8 ?rest8 AllReadyH.nil
  case hi8 => simp only [List.getElem?_toArray, List.getElem?_cons_succ, List.getElem?_cons_zero]; rfl
  intro K hK
  go_simp
  refine hK.out _ _ ?_ (fun hHeld => ?_)
  ·(try dsimp only)
   exact ⟨far2 (by simp only; omega) p0, far2 (by simp only; omega) p1, far2 (by simp only; omega) p2, far2 (by simp only; omega) p3, far2 (by simp only; omega) p8, far2 (by simp only; omega) p9⟩
  clear hK K
  (try simp only [Act.put, List.setIfInBounds_toArray, List.set_cons_zero, List.set_cons_succ])
  refine wpAnyH_done (by kernel_rfl) ?_ _
  refine k'ee ?_
  (try dsimp only [Exit.then])
  have HA6 := i' (HA5.out.set xv HXL.out d)
  have HF6 := i' ((HF5.out.other ⟨w.heap.size + 1 + 1, xv * 2, none⟩ (.bool (zb d)) (by simp only; omega)).other ⟨w.heap.size + 1 + 1, xv * 2 + 1, none⟩ (.string (zs d)) (by simp only; omega))
  have HD6 := i' ((HD5.out.other ⟨w.heap.size + 1 + 1, xv * 2, none⟩ (.bool (zb d)) (by simp only; omega)).other ⟨w.heap.size + 1 + 1, xv * 2 + 1, none⟩ (.string (zs d)) (by simp only; omega))
  have HC6 := i' ((G5.out.2.other ⟨w.heap.size + 1 + 1, xv * 2, none⟩ (.bool (zb d)) (by simp only; omega)).other ⟨w.heap.size + 1 + 1, xv * 2 + 1, none⟩ (.string (zs d)) (by simp only; omega))
  have HB6 := i' (((HBN.out.trans (Bn.of_but G5.out.1 HBN.out.size)).new (p := ⟨w.heap.size + 1 + 1, xv * 2, none⟩) (by simp only; omega) (.bool (zb d))).new (p := ⟨w.heap.size + 1 + 1, xv * 2 + 1, none⟩) (by simp only; omega) (.string (zs d)))
  have HW6 := i' (((Bk.of_but (n₀ := w.heap.size) (Bs := w1.heap.size + 1) G5.out.1 HBN.out.size hbs m7).new (p := ⟨w.heap.size + 1 + 1, xv * 2, none⟩) (by simp only; omega) (by simp only; omega) (.bool (zb d))).new (p := ⟨w.heap.size + 1 + 1, xv * 2 + 1, none⟩) (by simp only; omega) (by simp only; omega) (.string (zs d)))
  have HK6 := i' (((k'f3 (B := w2.heap.size) G5.out.1 HCK.out).trans ((KeepsOthers.setCell _ ⟨w.heap.size + 1 + 1, xv * 2, none⟩ (.bool (zb d))).from _)).trans ((KeepsOthers.setCell _ ⟨w.heap.size + 1 + 1, xv * 2 + 1, none⟩ (.string (zs d))).from _))
  have s0 := far2 (g := w.heap.size + 1 + 1) (o1 := xv * 2) (o2 := xv * 2 + 1) (u1 := .bool (zb d)) (u2 := .string (zs d)) (by simp only; omega) p0
  have s1 := far2 (g := w.heap.size + 1 + 1) (o1 := xv * 2) (o2 := xv * 2 + 1) (u1 := .bool (zb d)) (u2 := .string (zs d)) (by simp only; omega) p1
  have s2 := far2 (g := w.heap.size + 1 + 1) (o1 := xv * 2) (o2 := xv * 2 + 1) (u1 := .bool (zb d)) (u2 := .string (zs d)) (by simp only; omega) (G5.out.1.cell HBS.out m7)
  have hbs6 := World.block_lt_of_cell? _ _ s2
  simp only at hbs6
  obtain ⟨W6, hW6⟩ : ∃ W6 : World, W6 = (w5.setCell ⟨w.heap.size + 1 + 1, xv * 2, none⟩ (.bool (zb d))).setCell ⟨w.heap.size + 1 + 1, xv * 2 + 1, none⟩ (.string (zs d)) := ⟨_, rfl⟩
  rw [← hW6] at HA6 HF6 HD6 HC6 HB6 HW6 HK6 s0 s1 s2 hbs6 ⊢
  have HFin := i' (k'f7 p n pre x L den f en e d e1 f2 e2 (by rw [← HXV.out]; exact hxn) HN.out HLn.out HGO.out HSP.out.1 HSP.out.2.1 HSP.out.2.2.1 HSP.out.2.2.2 HPow.out HFit.out HPX.out)
  rw [← HXV.out] at HFin
  have HL6 : Hid ((L.set xv d).length = n) := by show _ = _; rw [List.length_set]; exact HLn.out
  have HTF : Hid (f2.natAbs < Top) := by rw [HSP.out.2.2.1]; exact k'ez _
  clear hW6 p0 p1 p2 p3 p4 p5 p6 p7 p8 p9 x0 x1 f0 f1 n0 n1 hM0 hM3 hHeld
  obtain ⟨f0, f1⟩ := HF6.out.cell 0 (by simp)
  obtain ⟨n0, n1⟩ := HD6.out.cell 0 (by simp)
  simp only [Nat.zero_mul, Nat.zero_add, List.getElem_cons_zero] at f0 f1 n0 n1
  rcases Nat.eq_zero_or_pos xv with hx0 | hx0
  ·have HG1 := i' (HFin.out.1 hx0)
   subst hx0
   gi_wp2
   exact ⟨HK6.out, HW6.out, ⟨_, _, _, HL6.out, HHF.out, HA6.out, HF6.out, HC6.out, HG1.out⟩, ⟨s1, s0, s2⟩, HD6.out, HB6.out⟩
  ·have hp : (0 : Int) < (xv : Int) := by omega
   gi_wp2_with (refine ⟨trivial, ?_⟩; gi_at_call 89; refine (CallsIn.inRound l (callsIn_wide.2 (HM2.out _ HC6.out))).mono ?_; rintro e w7 ⟨rfl, b7, d7⟩; have q0 := b7.cell f0 m2; have q1 := b7.cell f1 m2; have q2 := b7.frozen f0 (HF6.out.free 0) m2; have q3 := b7.frozen f1 (HF6.out.free 1) m2; have G7 := i' (And.intro b7 d7); clear b7 d7)
   have HG2 := HFin.out.2 hx0
   have HF7 := (G7.out.1.aw HF6.out m2).set 0 (by simp) f2
   simp only [Nat.zero_mul, Nat.zero_add, List.set_cons_zero] at HF7
   have hs7 := G7.out.1.size
   have hb6 := HB6.out.size
   exact ⟨((HK6.out.trans (k'f3 G7.out.1 HC6.out)).trans ((KeepsOthers.setCell _ _ _).from _)).trans ((KeepsOthers.setCell _ _ _).from _),
    ((HW6.out.trans (Bk.of_but G7.out.1 hb6 hbs6 m7)).new (p := ⟨w1.heap.size, 0, none⟩) (by simp only; omega) (by simp only; omega) _).new (p := ⟨w1.heap.size, 1, none⟩) (by simp only; omega) (by simp only; omega) _,
    ⟨_, _, _, HL6.out, HTF.out, ((G7.out.1.aw HA6.out m3).other ⟨w1.heap.size, 0, none⟩ _ (by simp only; omega)).other ⟨w1.heap.size, 1, none⟩ _ (by simp only; omega), HF7, (G7.out.2.other ⟨w1.heap.size, 0, none⟩ _ (by simp only; omega)).other ⟨w1.heap.size, 1, none⟩ _ (by simp only; omega), HG2⟩,
    ⟨far2 (by simp only; omega) (G7.out.1.cell s1 m4), far2 (by simp only; omega) (G7.out.1.cell s0 m1), far2 (by simp only; omega) (G7.out.1.cell s2 m7)⟩,
    ((G7.out.1.aw HD6.out m6).other ⟨w1.heap.size, 0, none⟩ _ (by simp only; omega)).other ⟨w1.heap.size, 1, none⟩ _ (by simp only; omega),
    ((HB6.out.trans (Bn.of_but G7.out.1 hb6)).new (p := ⟨w1.heap.size, 0, none⟩) (by simp only; omega) _).new (p := ⟨w1.heap.size, 1, none⟩) (by simp only; omega) _⟩
 case done =>
  rintro D xs W hD rfl ⟨⟨L, f, en, hL, hf, hG, hF, hCk, hgood⟩, ⟨hM0, hM3, -⟩, hDen, hBn⟩ hK
  obtain ⟨g1, g2, -⟩ := hgood _ _ rfl
  subst g1
  have hLe : L = Pl.lev p den := by
   have h5 : n = p.length := HN.out
   rw [g2, h5]; exact k'f6 p den
  have HLe := i' hLe
  have HG := i' hG
  have HCK := i' hCk
  have HBN := i' hBn
  have HKD := i' hK
  clear hgood hL hf hG hF hCk hDen hBn g2 hLe hM0
  gi_wp2
  refine ⟨by simp, .inl ⟨_, _, rfl, run_takeDeferred HKD.out, ?_⟩⟩
  have hgr := grownBy_putObj' W D (.deferred none)
  have hcl : ∀ r, some D = some r → ∃ o : Obj, W.heap[r]? = some o ∧ o.isCells = false := fun r e => by cases e; exact ⟨_, HKD.out, rfl⟩
  have hA9 := k'f0 HG.out hgr hcl
  rw [HLe.out] at hA9
  have h5 : n = p.length := HN.out
  have h6 := HZ2.out
  refine ⟨.slice (some ⟨w.heap.size + 1 + 1, 0, none⟩) n n, (by simp [results, Tryz.results133, go_sem]), some ⟨w.heap.size + 1 + 1, 0, none⟩, n, n, rfl, Rp.of_whole hA9 n n (by rw [Pl.lev_length]; exact h5.symm) (Nat.le_refl _) (by unfold maxLen; omega), fun _ => ⟨w.heap.size + 1 + 1, rfl, by omega, hA9⟩, ?_⟩
  exact (HBN.out.below HC.out HCK.out).trans (belowK_b (w := w) (Nat.le_refl _) W D _ _ (by omega) HKD.out rfl rfl)
 case stop =>
  rintro D c2 pre W _ _ h _
  exact h.elim
end Go.Proofs.YtepddegphdlbeaaGreat
namespace Go.Proofs.YtepddegphdlbeaaGreat
open Go.RowKit
theorem k'fa (a : Bool) (s : ByteArray) : 0 ≤ lenV a s ∧ lenV a s ≤ 65536 := by
 unfold lenV
 split
 ·rename_i h
  exact ⟨(k'4e s (k'41 h)).1, k'4f (k'41 h)⟩
 ·omega
theorem k'fb (L : List (Bool × ByteArray)) : 0 ≤ glb L ∧ glb L ≤ 65536 := by
 have : ∀ (L : List (Bool × ByteArray)) (m : Int), 0 ≤ m ∧ m ≤ 65536 → 0 ≤ L.foldl (fun m x => max m (lenV x.1 x.2)) m ∧ L.foldl (fun m x => max m (lenV x.1 x.2)) m ≤ 65536 := by
  intro L
  induction L with
  | nil => intro m h; exact h
  | cons x L ih => intro m h; have := k'fa x.1 x.2; rw [List.foldl_cons]; exact ih _ ⟨by omega, by omega⟩
 exact this L 0 (by omega)
def ckd (L1 L2 : List (Bool × ByteArray)) : Int :=
 if (vldP L1 && vldP L2) = true then (if L2.length = 0 then 3 else if (L1.length : Int) - L2.length + 1 > 0 ∧ glb L1 + ((L1.length : Int) - L2.length + 1) * (glb L2 + 1) > 65536 then 7 else 0) else 2
theorem k'fc {L : List (Bool × ByteArray)} (h : vldP L = true) : L.length ≤ 25 := by
 unfold vldP at h
 simp only [Bool.and_eq_true, decide_eq_true_eq] at h
 exact h.1
theorem k'fd (L1 L2 : List (Bool × ByteArray)) (v1 v2 : Value) (w : World) (h1 : Rw w v1 L1) (h2 : Rw w v2 L2) (z1 : Small L1) (z2 : Small L2) :
 Calls Tryz.prog 109 #[v1, v2] w (IPost (ckd L1 L2) w) := by
 have HV1 := i' (fun w' (hb : Below w.heap.size w w') => k'd6 L1 v1 w' (h1.below hb) z1)
 have HV2 := i' (fun w' (hb : Below w.heap.size w w') => k'd6 L2 v2 w' (h2.below hb) z2)
 have HD1 := i' (fun w' (hb : Below w.heap.size w w') => k'da L1 v1 w' (h1.below hb))
 have HD2 := i' (fun w' (hb : Below w.heap.size w w') => k'da L2 v2 w' (h2.below hb))
 have HG1 := i' (fun w' (hb : Below w.heap.size w w') => k'dc L1 v1 w' (h1.below hb) z1)
 have HG2 := i' (fun w' (hb : Below w.heap.size w w') => k'dc L2 v2 w' (h2.below hb) z2)
 have G1 := k'fb L1
 have G2 := k'fb L2
 obtain ⟨r, hr⟩ : ∃ r, r = ckd L1 L2 := ⟨_, rfl⟩
 rw [← hr]
 unfold ckd at hr
 have L1b := k'fc (L := L1)
 have L2b := k'fc (L := L2)
 obtain ⟨p1, b1, o1, c1, rfl, -, -, -, -⟩ := h1
 obtain ⟨p2, b2, o2, c2, rfl, -, -, -, -⟩ := h2
 clear z1 z2
 generalize vldP L1 = x1 at *
 generalize vldP L2 = x2 at *
 generalize glb L1 = g1 at *
 generalize glb L2 = g2 at *
 generalize L1.length = n1 at *
 generalize L2.length = n2 at *
 cases x1
 ·have HR : Hid (r = 2) := hr
  clear hr L1b L2b
  go_enter Tryz.func109, Tryz.ntmps109
  go_wp2_with fail
  refine (HV1.out _ (Below.refl _ _)).mono ?_
  rintro e w1 ⟨rfl, b1'⟩
  have B1 := i' b1'
  clear b1'
  go_wp2
  go_ret
  exact ⟨by rw [HR.out]; rfl, B1.out⟩
 have hn1 := L1b rfl
 clear L1b
 cases x2
 ·have HR : Hid (r = 2) := hr
  clear hr L2b
  go_enter Tryz.func109, Tryz.ntmps109
  go_wp2_with fail
  refine (HV1.out _ (Below.refl _ _)).mono ?_
  rintro e w1 ⟨rfl, b1'⟩
  have B1 := i' b1'
  clear b1'
  go_wp2_with fail
  refine (HV2.out _ B1.out).mono ?_
  rintro e w2 ⟨rfl, b2'⟩
  have B2 := i' (chain B1.out b2')
  clear b2'
  go_wp2
  go_ret
  exact ⟨by rw [HR.out]; rfl, B2.out⟩
 have hn2 := L2b rfl
 clear L2b
 rw [show (true && true) = true from rfl, if_pos rfl] at hr
 rcases Nat.eq_zero_or_pos n2 with h0 | h0
 ·subst h0
  have HR : Hid (r = 3) := hr
  clear hr
  go_enter Tryz.func109, Tryz.ntmps109
  go_wp2_with fail
  refine (HV1.out _ (Below.refl _ _)).mono ?_
  rintro e w1 ⟨rfl, b1'⟩
  have B1 := i' b1'
  clear b1'
  go_wp2_with fail
  refine (HV2.out _ B1.out).mono ?_
  rintro e w2 ⟨rfl, b2'⟩
  have B2 := i' (chain B1.out b2')
  clear b2'
  go_wp2
  go_ret
  exact ⟨by rw [HR.out]; rfl, B2.out⟩
 rw [if_neg (by omega)] at hr
 obtain ⟨st, hst⟩ : ∃ st : Int, st = (n1 : Int) - n2 + 1 := ⟨_, rfl⟩
 have hs1 : (IntKind.i64.wrap ((n1 : Int) - 1 - ((n2 : Int) - 1))) = st - 1 := by
  rw [show (n1 : Int) - 1 - ((n2 : Int) - 1) = st - 1 by omega]; exact IntWalk.i64_in _ (by omega)
 have hs2 : (IntKind.i64.wrap st) = st := IntWalk.i64_in _ (by omega)
 have hs3 : -30 ≤ st ∧ st ≤ 30 := by omega
 rw [← hst] at hr
 by_cases hp : 0 < st
 ·obtain ⟨m, hm⟩ : ∃ m : Int, m = st * (g2 + 1) := ⟨_, rfl⟩
  have hm1 : 0 ≤ m ∧ m ≤ 26 * 65537 := by
   have := Int.mul_le_mul (show st ≤ 26 by omega) (show g2 + 1 ≤ 65537 by omega) (by omega) (by omega)
   have := Int.mul_nonneg (show 0 ≤ st by omega) (show 0 ≤ g2 + 1 by omega)
   omega
  have hw1 : IntKind.i64.wrap (st * (g2 + 1)) = m := by rw [← hm]; exact IntWalk.i64_in _ (by omega)
  rw [← hm] at hr
  have HR : Hid (r = if g1 + m > 65536 then 7 else 0) := by
   show _ = _
   rw [hr]
   by_cases g : g1 + m > 65536
   ·rw [if_pos ⟨hp, g⟩, if_pos g]
   ·rw [if_neg (fun h => g h.2), if_neg g]
  clear hr hm hst
  go_enter Tryz.func109, Tryz.ntmps109
  go_wp2_with fail
  refine (HV1.out _ (Below.refl _ _)).mono ?_
  rintro e w1 ⟨rfl, b1'⟩
  have B1 := i' b1'
  clear b1'
  go_wp2_with fail
  refine (HV2.out _ B1.out).mono ?_
  rintro e w2 ⟨rfl, b2'⟩
  have B2 := i' (chain B1.out b2')
  clear b2'
  go_wp2_with fail
  refine (HD1.out _ B2.out).mono ?_
  rintro e w3 ⟨rfl, b3⟩
  have B3 := i' (chain B2.out b3)
  clear b3
  go_wp2_with fail
  refine (HD2.out _ B3.out).mono ?_
  rintro e w4 ⟨rfl, b4⟩
  have B4 := i' (chain B3.out b4)
  clear b4
  go_wp2_with fail
  refine (HG1.out _ B4.out).mono ?_
  rintro e w5 ⟨rfl, b5⟩
  have B5 := i' (chain B4.out b5)
  clear b5
  go_wp2_with fail
  refine (HG2.out _ B5.out).mono ?_
  rintro e w6 ⟨rfl, b6⟩
  have B6 := i' (chain B5.out b6)
  clear b6
  by_cases g : g1 + m > 65536
  ·rw [if_pos g] at HR
   go_wp2
   go_ret
   exact ⟨by rw [HR.out]; rfl, B6.out⟩
  ·rw [if_neg g] at HR
   go_wp2
   go_ret
   exact ⟨by rw [HR.out]; rfl, B6.out⟩
 ·rw [if_neg (fun h => hp h.1)] at hr
  have HR := i' hr
  clear hr hst
  go_enter Tryz.func109, Tryz.ntmps109
  go_wp2_with fail
  refine (HV1.out _ (Below.refl _ _)).mono ?_
  rintro e w1 ⟨rfl, b1'⟩
  have B1 := i' b1'
  clear b1'
  go_wp2_with fail
  refine (HV2.out _ B1.out).mono ?_
  rintro e w2 ⟨rfl, b2'⟩
  have B2 := i' (chain B1.out b2')
  clear b2'
  go_wp2_with fail
  refine (HD1.out _ B2.out).mono ?_
  rintro e w3 ⟨rfl, b3⟩
  have B3 := i' (chain B2.out b3)
  clear b3
  go_wp2_with fail
  refine (HD2.out _ B3.out).mono ?_
  rintro e w4 ⟨rfl, b4⟩
  have B4 := i' (chain B3.out b4)
  clear b4
  go_wp2
  go_ret
  exact ⟨by rw [HR.out]; rfl, B4.out⟩
def tlg (L : List (Bool × ByteArray)) (n : Int) : Bool := decide (0 < L.length ∧ glb L + ((L.length : Int) - 1) * n + 8 > 65536)
theorem k'fe (L : List (Bool × ByteArray)) (v : Value) (n : Int) (w : World) (h : Rw w v L) (z : Small L) (hl : L.length ≤ 25) (hn : 0 ≤ n ∧ n ≤ 100000) :
 Calls Tryz.prog 107 #[v, .int .i64 n] w (BPost (tlg L n) w) := by
 have HD := i' (fun w' (hb : Below w.heap.size w w') => k'da L v w' (h.below hb))
 have HG := i' (fun w' (hb : Below w.heap.size w w') => k'dc L v w' (h.below hb) z)
 have G := k'fb L
 obtain ⟨r, hr⟩ : ∃ r, r = tlg L n := ⟨_, rfl⟩
 rw [← hr]
 unfold tlg at hr
 obtain ⟨p, b, o, c, rfl, -, -, -, -⟩ := h
 clear z
 generalize glb L = g at *
 generalize L.length = k at *
 rcases Nat.eq_zero_or_pos k with h0 | h0
 ·subst h0
  have HR : Hid (r = false) := by show _ = _; rw [hr]; simp
  clear hr
  go_enter Tryz.func107, Tryz.ntmps107
  go_wp2
  go_ret
  exact ⟨by rw [HR.out]; rfl, Below.refl _ _⟩
 ·obtain ⟨m, hm⟩ : ∃ m : Int, m = ((k : Int) - 1) * n := ⟨_, rfl⟩
  have hm1 : 0 ≤ m ∧ m ≤ 24 * 100000 := by
   have := Int.mul_le_mul (show (k : Int) - 1 ≤ 24 by omega) hn.2 hn.1 (by omega)
   have := Int.mul_nonneg (show 0 ≤ (k : Int) - 1 by omega) hn.1
   omega
  have hw1 : IntKind.i64.wrap (((k : Int) - 1) * n) = m := by rw [← hm]; exact IntWalk.i64_in _ (by omega)
  rw [← hm] at hr
  clear hm
  by_cases g0 : g + m + 8 > 65536
  ·have HR : Hid (r = true) := by show _ = _; rw [hr]; exact decide_eq_true ⟨h0, g0⟩
   clear hr
   go_enter Tryz.func107, Tryz.ntmps107
   go_wp2_with fail
   refine (HG.out _ (Below.refl _ _)).mono ?_
   rintro e w5 ⟨rfl, b5⟩
   have B5 := i' b5
   clear b5
   go_wp2_with fail
   refine (HD.out _ B5.out).mono ?_
   rintro e w6 ⟨rfl, b6⟩
   have B6 := i' (chain B5.out b6)
   clear b6
   go_wp2
   go_ret
   exact ⟨by rw [HR.out]; rfl, B6.out⟩
  ·have HR : Hid (r = false) := by show _ = _; rw [hr]; exact decide_eq_false (fun h => g0 h.2)
   have hd0 : Hid (decide (65536 < g + m + 8) = false) := by show _ = _; rw [decide_eq_false_iff_not]; omega
   clear hr
   go_enter Tryz.func107, Tryz.ntmps107
   go_wp2_with fail
   refine (HG.out _ (Below.refl _ _)).mono ?_
   rintro e w5 ⟨rfl, b5⟩
   have B5 := i' b5
   clear b5
   go_wp2_with fail
   refine (HD.out _ B5.out).mono ?_
   rintro e w6 ⟨rfl, b6⟩
   have B6 := i' (chain B5.out b6)
   clear b6
   go_wp2
   go_ret
   exact ⟨by rw [HR.out, ← hd0.out]; rfl, B6.out⟩
theorem k'ff (m : Nat) (p r : List Int) (v : Value) (w : World) (h : Rp w v p) (hr : r.length = p.length) (hl : p.length ≤ 100)
 (hF : ∀ k wr (hk : k < p.length) (hk2 : k < r.length), Below w.heap.size w wr → Calls Tryz.prog 88 #[.int .i64 (k : Int), Z p[k], .pointer (some ⟨m, 0, none⟩)] wr (Ret (Z r[k]) wr)) :
 Calls Tryz.prog 87 #[v, .func (.func 88) #[] #[.pointer (some ⟨m, 0, none⟩)]] w (RpPost r w) := by
 obtain ⟨a, b, off, cap, rfl, h2, h3, h4, h5⟩ := h.open_
 have HCl := i' (fun w' (hb : Below w.heap.size w w') => k'eh p _ w' (h.below hb) hl)
 have HF := i' hF
 have HR := i' hr
 clear h2 h3 h4 h5 h hF hr
 obtain ⟨n, hn⟩ : ∃ n, n = p.length := ⟨_, rfl⟩
 rw [← hn] at hl ⊢
 rw [← hn] at HCl
 have HN := i' hn
 clear hn
 go_enter Tryz.func87, Tryz.ntmps87
 go_wp2_with fail
 refine (HCl.out _ (Below.refl _ _)).mono ?_
 rintro e w1 ⟨a1, n1, cap1, rfl, hr1, ho1, hb1⟩
 obtain rfl : n1 = n := by
  obtain ⟨_, _, _, _, e1, _⟩ := hr1.open_
  injection e1 with _ e2 _
  exact e2.trans HN.out.symm
 have HB1 := i' hb1
 have HO1 := i' ho1
 have HR1 := i' hr1
 clear hb1 ho1 hr1
 rcases Nat.eq_zero_or_pos n1 with h0 | h0
 ·subst h0
  have HZ : Hid (r = []) := List.eq_nil_of_length_eq_zero (by have h5 : 0 = p.length := HN.out; have h6 : r.length = p.length := HR.out; omega)
  have HE : Hid (p = []) := List.eq_nil_of_length_eq_zero HN.out.symm
  go_wp2
  go_loop [12] (fun i => i = .int .i64 0) (fun _ => 0)
  case atStart => rfl
  case round =>
   obtain rfl := hrel
   go_wp2
   go_ret
   exact ⟨_, rfl, by rw [HZ.out, ← HE.out]; exact HR1.out, HB1.out⟩
 ·have hp : p ≠ [] := by intro e; have h5 : n1 = p.length := HN.out; rw [e] at h5; simp at h5; omega
  obtain ⟨g, rfl, hg, haw⟩ := HO1.out hp
  have HA := i' haw
  have HG := i' hg
  have HR1' := HR1
  have hcap : n1 ≤ cap1 ∧ cap1 ≤ maxLen := by
   obtain ⟨_, _, _, _, e1, e2, e3, _⟩ := HR1.out.open_
   injection e1 with _ e4 e5
   subst e4 e5
   exact ⟨e2, e3⟩
  have HCap := i' hcap
  clear haw hg hp hcap HR1' HO1 HR1
  go_wp2
  go_loopw [6, 7, 12] (fun _ _ iv wr => ∃ (wz : World) (k : Nat), wz = wr ∧ k ≤ n1 ∧ iv = .int .i64 (k : Int) ∧ Hid (Aw wz g (r.take k ++ p.drop k)) ∧ Hid (Below w.heap.size w wz))
   (fun _ _ iv _ => n1 - (intOf iv).toNat)
  case atStart => exact ⟨w1, 0, rfl, Nat.zero_le _, rfl, by rw [List.take_zero, List.nil_append, List.drop_zero]; exact HA.out, HB1.out⟩
  case round =>
   clear HA HB1
   obtain ⟨wz, k, rfl, hk, rfl, haw, hbl⟩ := hrel
   by_cases hlt : k < n1
   ·have hkp : k < p.length := by have h5 : n1 = p.length := HN.out; omega
    have hkr : k < r.length := by have h5 : n1 = p.length := HN.out; have h6 : r.length = p.length := HR.out; omega
    have hkl : k < (r.take k ++ p.drop k).length := by simp; omega
    have hx : (r.take k ++ p.drop k)[k] = p[k] := by
     rw [List.getElem_append_right (by simp; omega)]
     have e : min k r.length = k := by omega
     simp [e]
    obtain ⟨c0, c1⟩ := haw.out.cell k hkl
    rw [hx] at c0 c1
    have HFk := i' (fun wr hb => HF.out k wr hkp hkr hb)
    have hset : Hid ((r.take k ++ p.drop k).set k r[k] = r.take (k + 1) ++ p.drop (k + 1)) := by
     show _ = _
     have e : (r.take k).length = k := by simp; omega
     rw [List.set_append_right _ _ (by omega), e, Nat.sub_self, List.drop_eq_getElem_cons hkp, List.set_cons_zero, List.take_succ_eq_append_getElem hkr, List.append_assoc]
     rfl
    have hglt := haw.out.lt
    have u1 : ¬ g = wz.heap.size := by omega
    have u2 : ¬ wz.heap.size = g := by omega
    obtain ⟨wi, hwi⟩ : ∃ wi : World, wi = wz.alloc (.cells #[.bool (zb p[k]), .string (zs p[k])] 44) := ⟨_, rfl⟩
    have hAi : Hid (Aw wi g (r.take k ++ p.drop k)) := by rw [hwi]; exact haw.out.alloc _
    have hBi : Hid (Below w.heap.size w wi) := by rw [hwi]; exact hbl.out.alloc hbl.out.size _
    have HL2 := i' hkl
    clear hx hkl haw hbl
    generalize p[k] = pk at *
    generalize r[k] = rk at *
    clear hkp hkr
    go_wp2_with fail
    rw [← hwi]
    clear hwi
    refine (HFk.out _ hBi.out).mono ?_
    rintro e w5 ⟨rfl, hb5⟩
    have HA5 := i' (hAi.out.below hb5)
    have HB5 := i' (chain hBi.out hb5)
    obtain ⟨e0, e1⟩ := HA5.out.cell k HL2.out
    have f0 := HA5.out.free (k * 2)
    have f1 := HA5.out.free (k * 2 + 1)
    have HA6 := i' (HA5.out.set k HL2.out rk)
    rw [hset.out] at HA6
    have HB6 := i' ((HB5.out.setCell (p := ⟨g, k * 2, none⟩) HG.out (.bool (zb rk))).setCell (p := ⟨g, k * 2 + 1, none⟩) HG.out (.string (zs rk)))
    clear hb5
    go_wp2
    go_roundw
    case rel => exact ⟨_, k + 1, rfl, by omega, by go_num, HA6.out, HB6.out⟩
    case measure => simp [intOf]; omega
   ·obtain rfl : k = n1 := by omega
    have HRp : Hid (Rp wz (.slice (some ⟨g, 0, none⟩) k cap1) r) := by
     have h1 := haw.out
     have h5 : k = p.length := HN.out
     have h6 : r.length = p.length := HR.out
     rw [List.take_of_length_le (by omega), List.drop_of_length_le (by omega), List.append_nil] at h1
     exact Rp.of_whole h1 _ _ (by omega) HCap.out.1 HCap.out.2
    go_wp2
    go_ret
    exact ⟨_, rfl, HRp.out, hbl.out⟩
theorem k'fg (m1 m2 : Nat) (p r : List Int) (v : Value) (w : World) (h : Rp w v p) (hr : r.length = p.length) (hl : p.length ≤ 100)
 (hF : ∀ k wr (hk : k < p.length) (hk2 : k < r.length), Below w.heap.size w wr → Calls Tryz.prog 128 #[.int .i64 (k : Int), Z p[k], .pointer (some ⟨m1, 0, none⟩), .pointer (some ⟨m2, 0, none⟩)] wr (Ret (Z r[k]) wr)) :
 Calls Tryz.prog 87 #[v, .func (.func 128) #[] #[.pointer (some ⟨m1, 0, none⟩), .pointer (some ⟨m2, 0, none⟩)]] w (RpPost r w) := by
 obtain ⟨a, b, off, cap, rfl, h2, h3, h4, h5⟩ := h.open_
 have HCl := i' (fun w' (hb : Below w.heap.size w w') => k'eh p _ w' (h.below hb) hl)
 have HF := i' hF
 have HR := i' hr
 clear h2 h3 h4 h5 h hF hr
 obtain ⟨n, hn⟩ : ∃ n, n = p.length := ⟨_, rfl⟩
 rw [← hn] at hl ⊢
 rw [← hn] at HCl
 have HN := i' hn
 clear hn
 go_enter Tryz.func87, Tryz.ntmps87
 go_wp2_with fail
 refine (HCl.out _ (Below.refl _ _)).mono ?_
 rintro e w1 ⟨a1, n1, cap1, rfl, hr1, ho1, hb1⟩
 obtain rfl : n1 = n := by
  obtain ⟨_, _, _, _, e1, _⟩ := hr1.open_
  injection e1 with _ e2 _
  exact e2.trans HN.out.symm
 have HB1 := i' hb1
 have HO1 := i' ho1
 have HR1 := i' hr1
 clear hb1 ho1 hr1
 rcases Nat.eq_zero_or_pos n1 with h0 | h0
 ·subst h0
  have HZ : Hid (r = []) := List.eq_nil_of_length_eq_zero (by have h5 : 0 = p.length := HN.out; have h6 : r.length = p.length := HR.out; omega)
  have HE : Hid (p = []) := List.eq_nil_of_length_eq_zero HN.out.symm
  go_wp2
  go_loop [12] (fun i => i = .int .i64 0) (fun _ => 0)
  case atStart => rfl
  case round =>
   obtain rfl := hrel
   go_wp2
   go_ret
   exact ⟨_, rfl, by rw [HZ.out, ← HE.out]; exact HR1.out, HB1.out⟩
 ·have hp : p ≠ [] := by intro e; have h5 : n1 = p.length := HN.out; rw [e] at h5; simp at h5; omega
  obtain ⟨g, rfl, hg, haw⟩ := HO1.out hp
  have HA := i' haw
  have HG := i' hg
  have HR1' := HR1
  have hcap : n1 ≤ cap1 ∧ cap1 ≤ maxLen := by
   obtain ⟨_, _, _, _, e1, e2, e3, _⟩ := HR1.out.open_
   injection e1 with _ e4 e5
   subst e4 e5
   exact ⟨e2, e3⟩
  have HCap := i' hcap
  clear haw hg hp hcap HR1' HO1 HR1
  go_wp2
  go_loopw [6, 7, 12] (fun _ _ iv wr => ∃ (wz : World) (k : Nat), wz = wr ∧ k ≤ n1 ∧ iv = .int .i64 (k : Int) ∧ Hid (Aw wz g (r.take k ++ p.drop k)) ∧ Hid (Below w.heap.size w wz))
   (fun _ _ iv _ => n1 - (intOf iv).toNat)
  case atStart => exact ⟨w1, 0, rfl, Nat.zero_le _, rfl, by rw [List.take_zero, List.nil_append, List.drop_zero]; exact HA.out, HB1.out⟩
  case round =>
   clear HA HB1
   obtain ⟨wz, k, rfl, hk, rfl, haw, hbl⟩ := hrel
   by_cases hlt : k < n1
   ·have hkp : k < p.length := by have h5 : n1 = p.length := HN.out; omega
    have hkr : k < r.length := by have h5 : n1 = p.length := HN.out; have h6 : r.length = p.length := HR.out; omega
    have hkl : k < (r.take k ++ p.drop k).length := by simp; omega
    have hx : (r.take k ++ p.drop k)[k] = p[k] := by
     rw [List.getElem_append_right (by simp; omega)]
     have e : min k r.length = k := by omega
     simp [e]
    obtain ⟨c0, c1⟩ := haw.out.cell k hkl
    rw [hx] at c0 c1
    have HFk := i' (fun wr hb => HF.out k wr hkp hkr hb)
    have hset : Hid ((r.take k ++ p.drop k).set k r[k] = r.take (k + 1) ++ p.drop (k + 1)) := by
     show _ = _
     have e : (r.take k).length = k := by simp; omega
     rw [List.set_append_right _ _ (by omega), e, Nat.sub_self, List.drop_eq_getElem_cons hkp, List.set_cons_zero, List.take_succ_eq_append_getElem hkr, List.append_assoc]
     rfl
    have hglt := haw.out.lt
    have u1 : ¬ g = wz.heap.size := by omega
    have u2 : ¬ wz.heap.size = g := by omega
    obtain ⟨wi, hwi⟩ : ∃ wi : World, wi = wz.alloc (.cells #[.bool (zb p[k]), .string (zs p[k])] 44) := ⟨_, rfl⟩
    have hAi : Hid (Aw wi g (r.take k ++ p.drop k)) := by rw [hwi]; exact haw.out.alloc _
    have hBi : Hid (Below w.heap.size w wi) := by rw [hwi]; exact hbl.out.alloc hbl.out.size _
    have HL2 := i' hkl
    clear hx hkl haw hbl
    generalize p[k] = pk at *
    generalize r[k] = rk at *
    clear hkp hkr
    go_wp2_with fail
    rw [← hwi]
    clear hwi
    refine (HFk.out _ hBi.out).mono ?_
    rintro e w5 ⟨rfl, hb5⟩
    have HA5 := i' (hAi.out.below hb5)
    have HB5 := i' (chain hBi.out hb5)
    obtain ⟨e0, e1⟩ := HA5.out.cell k HL2.out
    have f0 := HA5.out.free (k * 2)
    have f1 := HA5.out.free (k * 2 + 1)
    have HA6 := i' (HA5.out.set k HL2.out rk)
    rw [hset.out] at HA6
    have HB6 := i' ((HB5.out.setCell (p := ⟨g, k * 2, none⟩) HG.out (.bool (zb rk))).setCell (p := ⟨g, k * 2 + 1, none⟩) HG.out (.string (zs rk)))
    clear hb5
    go_wp2
    go_roundw
    case rel => exact ⟨_, k + 1, rfl, by omega, by go_num, HA6.out, HB6.out⟩
    case measure => simp [intOf]; omega
   ·obtain rfl : k = n1 := by omega
    have HRp : Hid (Rp wz (.slice (some ⟨g, 0, none⟩) k cap1) r) := by
     have h1 := haw.out
     have h5 : k = p.length := HN.out
     have h6 : r.length = p.length := HR.out
     rw [List.take_of_length_le (by omega), List.drop_of_length_le (by omega), List.append_nil] at h1
     exact Rp.of_whole h1 _ _ (by omega) HCap.out.1 HCap.out.2
    go_wp2
    go_ret
    exact ⟨_, rfl, HRp.out, hbl.out⟩
theorem k'fh (c : Nat) (x y e : Int) (w : World) (hc : Ck w c e) (hx : x.natAbs < Top) (hy : y.natAbs < Top) (h0 : y ≠ 0) (hm : x % y = 0) :
 Calls Tryz.prog 129 #[.pointer (some ⟨c, 0, none⟩), Z x, Z y] w (KPost (Z (x / y)) c e w) := by
 have hq : (x / y).natAbs < Top := Nat.lt_of_le_of_lt (Int.natAbs_ediv_le_natAbs x y) hx
 have hr : (x % y).natAbs < Top := by
  have h1 := Int.emod_nonneg x h0
  have h2 := Int.emod_lt x h0
  omega
 have hl := hc.lt
 have HC := i' hc
 have HQ := i' (fun w => k'bz x y w hx hy h0)
 have HS := i' (fun w => k'c0 (x % y) w hr)
 have hs : (x % y).sign = 0 := by rw [hm]; rfl
 have n1 : ¬ (w.heap.size + 1 + 1 = c) := by omega
 clear hc hx hy h0 hm hq hr
 generalize x / y = q at *
 generalize x % y = r at *
 unfold Z at *
 generalize zb x = bx at *
 generalize zs x = sx at *
 generalize zb y = yb at *
 generalize zs y = ys at *
 generalize zb q = bq at *
 generalize zs q = sq at *
 generalize zb r = br at *
 generalize zs r = sr at *
 generalize r.sign = sgn at *
 subst hs
 go_enter Tryz.func129, Tryz.ntmps129
 go_wp2_with fail
 obtain ⟨w0, hw0⟩ : ∃ w0 : World, w0 = ((w.alloc (.cells #[.bool bx, .string sx] 44)).alloc (.cells #[.bool yb, .string ys] 44)).alloc (.cells #[.bool false, .string ⟨#[]⟩] 44) := ⟨_, rfl⟩
 have hb0 : Hid (Below w.heap.size w w0) := by rw [hw0]; exact (((Below.refl _ _).alloc (Nat.le_refl _) _).alloc (by simp) _).alloc (by simp; omega) _
 have HC0 : Hid (Ck w0 c e) := by rw [hw0]; exact ((HC.out.alloc _).alloc _).alloc _
 have k4 : w0.cell? ⟨w.heap.size + 1 + 1, 0, none⟩ = some (.bool false) := by rw [hw0]; simp [go_sem]
 have k5 : w0.cell? ⟨w.heap.size + 1 + 1, 1, none⟩ = some (.string ⟨#[]⟩) := by rw [hw0]; simp [go_sem]
 have k6 : w0.frozen? ⟨w.heap.size + 1 + 1, 0, none⟩ = false := by rw [hw0]; simp [go_sem]
 have k7 : w0.frozen? ⟨w.heap.size + 1 + 1, 1, none⟩ = false := by rw [hw0]; simp [go_sem]
 rw [← hw0]
 have KK := i' (And.intro k4 (And.intro k5 (And.intro k6 k7)))
 clear k4 k5 k6 k7 hw0
 refine (HQ.out _).mono ?_
 rintro en wa ⟨rfl, hba⟩
 have HBA := i' hba
 clear hba
 go_wp2_with fail
 obtain ⟨w2, hw2⟩ : ∃ w2 : World, w2 = (wa.alloc (.cells #[.bool bq, .string sq] 44)).alloc (.cells #[.bool br, .string sr] 44) := ⟨_, rfl⟩
 have hb2 : Hid (Below wa.heap.size wa w2) := by rw [hw2]; exact ((Below.refl _ _).alloc (Nat.le_refl _) _).alloc (by simp) _
 have q0 : w2.cell? ⟨wa.heap.size, 0, none⟩ = some (.bool bq) := by rw [hw2]; simp [go_sem]
 have q1 : w2.cell? ⟨wa.heap.size, 1, none⟩ = some (.string sq) := by rw [hw2]; simp [go_sem]
 have QQ := i' (And.intro q0 q1)
 rw [← hw2]
 have HB2 := i' (chain HBA.out hb2.out)
 clear q0 q1 hw2 hb2 HBA
 refine (HS.out _).mono ?_
 rintro en w3 ⟨rfl, hb3⟩
 have q0 := keep1 hb3 QQ.out.1
 have q1 := keep1 hb3 QQ.out.2
 have HB3 := i' (chain HB2.out hb3)
 clear hb3
 go_wp2_with fail
 refine (k'cp c bq sq _ e _ (HC0.out.below HB3.out)).mono ?_
 rintro en wb ⟨rfl, hk1, hk2⟩
 rw [← k'cy e] at hk2
 have k4 := hk1.cell (keep1 HB3.out KK.out.1) n1
 have k5 := hk1.cell (keep1 HB3.out KK.out.2.1) n1
 have k6 := hk1.frozen (keep1 HB3.out KK.out.1) (keepf HB3.out KK.out.1 KK.out.2.2.1) n1
 have k7 := hk1.frozen (keep1 HB3.out KK.out.2.1) (keepf HB3.out KK.out.2.1 KK.out.2.2.2) n1
 have n2 : c ≠ w.heap.size + 1 + 1 := by omega
 have HZ := i' (((((But.of_below (chain hb0.out HB3.out)).trans hk1).new (p := ⟨w.heap.size + 1 + 1, 0, none⟩) (by simp; omega) (.bool bq)).new (p := ⟨w.heap.size + 1 + 1, 1, none⟩) (by simp; omega) (.string sq)))
 have HY := i' ((hk2.other ⟨w.heap.size + 1 + 1, 0, none⟩ (.bool bq) n2).other ⟨w.heap.size + 1 + 1, 1, none⟩ (.string sq) n2)
 clear hk1 hk2 n2 q0 q1
 go_wp2
 exact bodyPost_ret (v := .agg #[.bool bq, .string sq]) (by simp [results, Tryz.results129, go_sem, k4, k5]) rfl ⟨rfl, HZ.out, HY.out⟩
theorem k'fi (c : Nat) (x y e e2 : Int) (w : World) (he : Hid (e2 = if e = 0 then 10 else e)) (hc : Ck w c e) (hx : x.natAbs < Top) (hy : y.natAbs < Top) (h0 : y ≠ 0) (hm : x % y ≠ 0) :
 Calls Tryz.prog 129 #[.pointer (some ⟨c, 0, none⟩), Z x, Z y] w (KPost (Z (x / y)) c e2 w) := by
 have hq : (x / y).natAbs < Top := Nat.lt_of_le_of_lt (Int.natAbs_ediv_le_natAbs x y) hx
 have hr : (x % y).natAbs < Top := by
  have h1 := Int.emod_nonneg x h0
  have h2 := Int.emod_lt x h0
  omega
 have hl := hc.lt
 have HC := i' hc
 have HQ := i' (fun w => k'bz x y w hx hy h0)
 have HS := i' (fun w => k'c0 (x % y) w hr)
 have hs : ((x % y).sign != 0) = true := by simpa [Int.sign_eq_zero_iff_zero] using hm
 have n1 : ¬ (w.heap.size + 1 + 1 = c) := by omega
 clear hc hx hy h0 hm hq hr
 generalize x / y = q at *
 generalize x % y = r at *
 unfold Z at *
 generalize zb x = bx at *
 generalize zs x = sx at *
 generalize zb y = yb at *
 generalize zs y = ys at *
 generalize zb q = bq at *
 generalize zs q = sq at *
 generalize zb r = br at *
 generalize zs r = sr at *
 generalize r.sign = sgn at *
 go_enter Tryz.func129, Tryz.ntmps129
 go_wp2_with fail
 obtain ⟨w0, hw0⟩ : ∃ w0 : World, w0 = ((w.alloc (.cells #[.bool bx, .string sx] 44)).alloc (.cells #[.bool yb, .string ys] 44)).alloc (.cells #[.bool false, .string ⟨#[]⟩] 44) := ⟨_, rfl⟩
 have hb0 : Hid (Below w.heap.size w w0) := by rw [hw0]; exact (((Below.refl _ _).alloc (Nat.le_refl _) _).alloc (by simp) _).alloc (by simp; omega) _
 have HC0 : Hid (Ck w0 c e) := by rw [hw0]; exact ((HC.out.alloc _).alloc _).alloc _
 have k4 : w0.cell? ⟨w.heap.size + 1 + 1, 0, none⟩ = some (.bool false) := by rw [hw0]; simp [go_sem]
 have k5 : w0.cell? ⟨w.heap.size + 1 + 1, 1, none⟩ = some (.string ⟨#[]⟩) := by rw [hw0]; simp [go_sem]
 have k6 : w0.frozen? ⟨w.heap.size + 1 + 1, 0, none⟩ = false := by rw [hw0]; simp [go_sem]
 have k7 : w0.frozen? ⟨w.heap.size + 1 + 1, 1, none⟩ = false := by rw [hw0]; simp [go_sem]
 rw [← hw0]
 have KK := i' (And.intro k4 (And.intro k5 (And.intro k6 k7)))
 clear k4 k5 k6 k7 hw0
 refine (HQ.out _).mono ?_
 rintro en wa ⟨rfl, hba⟩
 have HBA := i' hba
 clear hba
 go_wp2_with fail
 obtain ⟨w2, hw2⟩ : ∃ w2 : World, w2 = (wa.alloc (.cells #[.bool bq, .string sq] 44)).alloc (.cells #[.bool br, .string sr] 44) := ⟨_, rfl⟩
 have hb2 : Hid (Below wa.heap.size wa w2) := by rw [hw2]; exact ((Below.refl _ _).alloc (Nat.le_refl _) _).alloc (by simp) _
 have q0 : w2.cell? ⟨wa.heap.size, 0, none⟩ = some (.bool bq) := by rw [hw2]; simp [go_sem]
 have q1 : w2.cell? ⟨wa.heap.size, 1, none⟩ = some (.string sq) := by rw [hw2]; simp [go_sem]
 have QQ := i' (And.intro q0 q1)
 rw [← hw2]
 have HB2 := i' (chain HBA.out hb2.out)
 clear q0 q1 hw2 hb2 HBA
 refine (HS.out _).mono ?_
 rintro en w3 ⟨rfl, hb3⟩
 have q0 := keep1 hb3 QQ.out.1
 have q1 := keep1 hb3 QQ.out.2
 have HB3 := i' (chain HB2.out hb3)
 clear hb3
 go_wp2_with fail
 refine (k'cp c bq sq _ e _ (HC0.out.below HB3.out)).mono ?_
 rintro en wb ⟨rfl, hk1, hk2⟩
 rw [← he.out] at hk2
 have k4 := hk1.cell (keep1 HB3.out KK.out.1) n1
 have k5 := hk1.cell (keep1 HB3.out KK.out.2.1) n1
 have k6 := hk1.frozen (keep1 HB3.out KK.out.1) (keepf HB3.out KK.out.1 KK.out.2.2.1) n1
 have k7 := hk1.frozen (keep1 HB3.out KK.out.2.1) (keepf HB3.out KK.out.2.1 KK.out.2.2.2) n1
 have n2 : c ≠ w.heap.size + 1 + 1 := by omega
 have HZ := i' (((((But.of_below (chain hb0.out HB3.out)).trans hk1).new (p := ⟨w.heap.size + 1 + 1, 0, none⟩) (by simp; omega) (.bool bq)).new (p := ⟨w.heap.size + 1 + 1, 1, none⟩) (by simp; omega) (.string sq)))
 have HY := i' ((hk2.other ⟨w.heap.size + 1 + 1, 0, none⟩ (.bool bq) n2).other ⟨w.heap.size + 1 + 1, 1, none⟩ (.string sq) n2)
 clear hk1 hk2 n2 q0 q1
 go_wp2
 exact bodyPost_ret (v := .agg #[.bool bq, .string sq]) (by simp [results, Tryz.results129, go_sem, k4, k5]) rfl ⟨rfl, HZ.out, HY.out⟩
theorem k'fj (c : Nat) (x y e : Int) (w : World) (hc : Ck w c e) (hx : x.natAbs < Top) (hy : y.natAbs < Top) (h0 : y ≠ 0) (hm : x % y = 0) :
 Calls Tryz.prog 129 #[.pointer (some ⟨c, 0, none⟩), Z x, Z y] w (Ret (Z (x / y)) w) := (k'fh c x y e w hc hx hy h0 hm).mono (k'cx hc)
theorem k'fk (x y : Int) (w : World) (hx : x.natAbs < Top) (hy : y.natAbs < Top) : Calls Tryz.prog 127 #[Z x, Z y] w (Ret (.tuple #[Z (Nat.gcd x.natAbs y.natAbs : Nat), .int .i64 0]) w) := by
 have h := gcd_z (zvt hx) (zvt hy) w
 rw [sgzz, sgzz] at h
 exact h
theorem k'fl (l : List Int) (x : Int) : Pl.cont (l ++ [x]) = Nat.gcd (Pl.cont l) x.natAbs := by simp [Pl.cont]
theorem k'fm {l : List Int} (h : ∀ a ∈ l, a.natAbs < Top) : Pl.cont l < Top := by
 by_cases e : l = []
 ·subst e; exact Nat.lt_of_lt_of_le W0 W_Top
 ·refine Nat.lt_of_le_of_lt (Pl.cont_le e) ?_
  have : ∀ (l : List Int), (∀ a ∈ l, a.natAbs < Top) → Pl.mx l < Top := by
   intro l
   induction l with
   | nil => intro _; exact Nat.lt_of_lt_of_le W0 W_Top
   | cons b l ih =>
    intro h
    have h1 := ih fun a ha => h a (List.mem_cons_of_mem _ ha)
    have h2 := h b (List.mem_cons_self ..)
    have e : Pl.mx (b :: l) = max b.natAbs (Pl.mx l) := rfl
    omega
  exact this l h
theorem k'fn (c : Nat) (p : List Int) (v : Value) (e : Int) (w : World) (h : Rp w v p) (hc : Ck w c e) (ht : ∀ a ∈ p, a.natAbs < Top) :
 Calls Tryz.prog 91 #[.pointer (some ⟨c, 0, none⟩), v] w (Ret (Z (Pl.cont p : Nat)) w) := by
 have hl := h.len
 obtain ⟨a, b, off, cap, rfl, h2, h3, h4, h5⟩ := h.open_
 have H4 := i' h4
 have H5 := i' h5
 have HG := i' (fun k (hk : k < p.length) w => k'fk (Pl.cont (p.take k) : Nat) p[k] w (by rw [Int.natAbs_natCast]; exact k'fm fun a ha => ht a (List.mem_of_mem_take ha)) (ht _ (List.getElem_mem hk)))
 have HC := i' hc
 have hcl := hc.lt
 rw [k'cc] at hl
 clear h h2 h3 h4 h5 ht hc
 obtain ⟨n, hn⟩ : ∃ n, n = p.length := ⟨_, rfl⟩
 rw [← hn] at hl ⊢
 have HN := i' hn
 have HT : Hid (Pl.cont (p.take n) = Pl.cont p) := by show _ = _; rw [hn, List.take_length]
 clear hn
 generalize Pl.cont p = res at *
 go_enter Tryz.func91, Tryz.ntmps91
 go_wp2
 obtain ⟨w0, hw0⟩ : ∃ w0 : World, w0 = (w.alloc (.cells #[.bool false, .string ⟨#[]⟩] 44)).alloc (.cells #[.bool false, .string ⟨#[]⟩] 44) := ⟨_, rfl⟩
 have HB0 : Hid (Below w.heap.size w w0) := by rw [hw0]; exact ((Below.refl _ _).alloc (Nat.le_refl _) _).alloc (by simp) _
 have HC0 : Hid (Ck w0 c e) := by rw [hw0]; exact (HC.out.alloc _).alloc _
 have HA0 : Hid (Aw w0 (w.heap.size + 1) [0]) := by
  rw [hw0]
  have := Aw.made (w.alloc (.cells #[.bool false, .string ⟨#[]⟩] 44)) [0]
  rw [World.size_alloc] at this
  exact this
 have HR0 : Hid (Aw w0 w.heap.size [0]) := by
  rw [hw0]
  exact (Aw.made w [0]).alloc _
 rw [← hw0]
 clear hw0
 go_loopw [7, 10] (fun _ iv wr => ∃ (wz : World) (k : Nat), wz = wr ∧ k ≤ n ∧ iv = .int .i64 (k : Int) ∧ Hid (Aw wz (w.heap.size + 1) [(Pl.cont (p.take k) : Nat)]) ∧ Hid (Aw wz w.heap.size [0]) ∧ Hid (Below w.heap.size w wz))
  (fun _ iv _ => n - (intOf iv).toNat)
 case atStart => exact ⟨w0, 0, rfl, Nat.zero_le _, rfl, HA0.out, HR0.out, HB0.out⟩
 case round =>
  clear HA0 HR0 HB0 HC0
  obtain ⟨wz, k, rfl, hk, rfl, haw, har, hbl⟩ := hrel
  have hgl := haw.out.lt
  by_cases hlt : k < n
  ·have hkp : k < p.length := by have h5 : n = p.length := HN.out; omega
   obtain rfl := H4.out (by intro e; rw [e] at hkp; exact absurd hkp (Nat.not_lt_zero _))
   have HGk := i' (HG.out k hkp)
   have hst : Hid (Nat.gcd (Pl.cont (p.take k)) p[k].natAbs = Pl.cont (p.take (k + 1))) := by
    show _ = _
    rw [List.take_succ_eq_append_getElem hkp, k'fl]
   rw [Int.natAbs_natCast, hst.out] at HGk
   have c0 := keep1 hbl.out (H5.out k hkp).1
   have c1 := keep1 hbl.out (H5.out k hkp).2
   have hblt := World.block_lt_of_cell? wz _ c0
   simp only at hblt
   have u1 : ¬ b = wz.heap.size := by omega
   have u2 : ¬ wz.heap.size = b := by omega
   have u3 : ¬ w.heap.size + 1 = wz.heap.size := by omega
   have u4 : ¬ wz.heap.size = w.heap.size + 1 := by omega
   obtain ⟨d0, d1⟩ := haw.out.cell 0 (by simp)
   simp only [Nat.zero_mul, Nat.zero_add, List.getElem_cons_zero] at d0 d1
   obtain ⟨wi, hwi⟩ : ∃ wi : World, wi = wz.alloc (.cells #[.bool (zb p[k]), .string (zs p[k])] 44) := ⟨_, rfl⟩
   have hAi : Hid (Aw wi (w.heap.size + 1) [(Pl.cont (p.take k) : Nat)]) := by rw [hwi]; exact haw.out.alloc _
   have hRi : Hid (Aw wi w.heap.size [0]) := by rw [hwi]; exact har.out.alloc _
   have hBi : Hid (Below w.heap.size w wi) := by rw [hwi]; exact hbl.out.alloc hbl.out.size _
   clear haw har hbl hst
   generalize (Pl.cont (p.take k) : Int) = x at *
   generalize p[k] = pk at *
   obtain ⟨y, hy⟩ : ∃ y : Int, y = ((Pl.cont (p.take (k + 1)) : Nat) : Int) := ⟨_, rfl⟩
   rw [← hy] at HGk
   have HY := i' hy
   clear hy
   unfold Z at HGk
   go_wp2_with fail
   rw [← hwi]
   clear hwi
   refine (HGk.out _).mono ?_
   rintro en w5 ⟨rfl, hb5⟩
   have HA5 := i' (hAi.out.below hb5)
   have HR5 := i' (hRi.out.below hb5)
   have HB5 := i' (chain hBi.out hb5)
   clear hb5 hAi hRi hBi
   go_wp2_with fail
   refine (k'cp c _ _ 0 e _ (HC.out.below HB5.out)).mono ?_
   rintro en w6 ⟨rfl, hk6, hk7⟩
   rw [← k'cy e] at hk7
   have hb6 := hk6.below (HC.out.below HB5.out) hk7
   have HA6 := i' (HA5.out.below hb6)
   have HR6 := i' (HR5.out.below hb6)
   have HB6 := i' (chain HB5.out hb6)
   obtain ⟨e0, e1⟩ := HA6.out.cell 0 (by simp)
   simp only [Nat.zero_mul, Nat.zero_add, List.getElem_cons_zero] at e0 e1
   have f0 := HA6.out.free 0
   have f1 := HA6.out.free 1
   have HA7 := HA6.out.set 0 (by simp) y
   simp only [Nat.zero_mul, Nat.zero_add, List.set_cons_zero] at HA7
   have HA8 := i' HA7
   have HR8 := i' ((HR6.out.other ⟨w.heap.size + 1, 0, none⟩ (.bool (zb y)) (by simp)).other ⟨w.heap.size + 1, 1, none⟩ (.string (zs y)) (by simp))
   have HB8 := i' ((HB6.out.setCell (p := ⟨w.heap.size + 1, 0, none⟩) (by simp) (.bool (zb y))).setCell (p := ⟨w.heap.size + 1, 1, none⟩) (by simp) (.string (zs y)))
   clear HA7 hk6 hk7 hb6
   go_wp2
   go_roundw
   case rel => exact ⟨_, k + 1, rfl, by omega, by go_num, by rw [← HY.out]; exact HA8.out, HR8.out, HB8.out⟩
   case measure => simp [intOf]; omega
  ·obtain rfl : k = n := by omega
   obtain ⟨d0, d1⟩ := haw.out.cell 0 (by simp)
   simp only [Nat.zero_mul, Nat.zero_add, List.getElem_cons_zero, HT.out] at d0 d1
   obtain ⟨e0, e1⟩ := har.out.cell 0 (by simp)
   simp only [Nat.zero_mul, Nat.zero_add, List.getElem_cons_zero] at e0 e1
   have f0 := har.out.free 0
   have f1 := har.out.free 1
   have HB8 := i' ((hbl.out.setCell (p := ⟨w.heap.size, 0, none⟩) (Nat.le_refl _) (.bool (zb res))).setCell (p := ⟨w.heap.size, 1, none⟩) (Nat.le_refl _) (.string (zs res)))
   go_wp2
   exact bodyPost_ret (v := .agg #[.bool (zb res), .string (zs res)]) (by simp [results, Tryz.results91, go_sem, e0, e1]) rfl ⟨rfl, HB8.out⟩
theorem k'fo (c m1 m2 : Nat) (k x g e : Int) (w : World) (hc : Ck w c e) (h1 : w.cell? ⟨m1, 0, none⟩ = some (.pointer (some ⟨c, 0, none⟩))) (h2 : w.cell? ⟨m2, 0, none⟩ = some (.bool (zb g))) (h3 : w.cell? ⟨m2, 1, none⟩ = some (.string (zs g)))
 (hx : x.natAbs < Top) (hg : g.natAbs < Top) (h0 : g ≠ 0) (hm : x % g = 0) :
 Calls Tryz.prog 128 #[.int .i64 k, Z x, .pointer (some ⟨m1, 0, none⟩), .pointer (some ⟨m2, 0, none⟩)] w (Ret (Z (x / g)) w) := by
 have HD := i' (fun w hc => k'fj c x g e w hc hx hg h0 hm)
 have hl1 := World.block_lt_of_cell? w _ h1
 have hl2 := World.block_lt_of_cell? w _ h2
 simp only at hl1 hl2
 obtain ⟨w0, hw0⟩ : ∃ w0 : World, w0 = (w.alloc (.cells #[.bool (zb x), .string (zs x)] 44)).alloc (.cells #[.bool false, .string ⟨#[]⟩] 44) := ⟨_, rfl⟩
 have HB0 : Hid (Below w.heap.size w w0) := by rw [hw0]; exact ((Below.refl _ _).alloc (Nat.le_refl _) _).alloc (by simp) _
 have HC0 : Hid (Ck w0 c e) := by rw [hw0]; exact (hc.alloc _).alloc _
 have k4 : w0.cell? ⟨w.heap.size + 1, 0, none⟩ = some (.bool false) := by rw [hw0]; simp [go_sem]
 have k5 : w0.cell? ⟨w.heap.size + 1, 1, none⟩ = some (.string ⟨#[]⟩) := by rw [hw0]; simp [go_sem]
 have k6 : w0.frozen? ⟨w.heap.size + 1, 0, none⟩ = false := by rw [hw0]; simp [go_sem]
 have k7 : w0.frozen? ⟨w.heap.size + 1, 1, none⟩ = false := by rw [hw0]; simp [go_sem]
 have KK := i' (And.intro k4 (And.intro k5 (And.intro k6 k7)))
 have u1 : ¬ m1 = w.heap.size := by omega
 have u2 : ¬ w.heap.size = m1 := by omega
 have u3 : ¬ m2 = w.heap.size := by omega
 have u4 : ¬ w.heap.size = m2 := by omega
 have u5 : ¬ m1 = w.heap.size + 1 := by omega
 have u6 : ¬ w.heap.size + 1 = m1 := by omega
 have u7 : ¬ m2 = w.heap.size + 1 := by omega
 have u8 : ¬ w.heap.size + 1 = m2 := by omega
 clear hc hx hg h0 hm k4 k5 k6 k7
 unfold Z at HD ⊢
 generalize x / g = d at *
 generalize zb x = xb at *
 generalize zs x = xs at *
 generalize zb g = gb at *
 generalize zs g = gs at *
 generalize zb d = db at *
 generalize zs d = ds at *
 go_enter Tryz.func128, Tryz.ntmps128
 go_wp2_with fail
 rw [← hw0]
 clear hw0
 refine (HD.out _ HC0.out).mono ?_
 rintro en w1 ⟨rfl, hb1⟩
 have k4 := keep1 hb1 KK.out.1
 have k5 := keep1 hb1 KK.out.2.1
 have k6 := keepf hb1 KK.out.1 KK.out.2.2.1
 have k7 := keepf hb1 KK.out.2.1 KK.out.2.2.2
 have HZ := i' (((chain HB0.out hb1).setCell (p := ⟨w.heap.size + 1, 0, none⟩) (by simp) (.bool db)).setCell (p := ⟨w.heap.size + 1, 1, none⟩) (by simp) (.string ds))
 clear hb1
 go_wp2
 exact bodyPost_ret (v := .agg #[.bool db, .string ds]) (by simp [results, Tryz.results128, go_sem, k4, k5]) rfl ⟨rfl, HZ.out⟩
theorem k'fp (c : Nat) (p : List Int) (v : Value) (e : Int) (w : World) (h : Rp w v p) (hc : Ck w c e) (hn : Pl.Nrm p) (hl : p.length ≤ 100) (ht : ∀ a ∈ p, a.natAbs < Top) :
 Calls Tryz.prog 92 #[.pointer (some ⟨c, 0, none⟩), v] w (RpPost (Pl.prim p) w) := by
 obtain ⟨w0, hw0⟩ : ∃ w0 : World, w0 = w.alloc (.cells #[.pointer (some ⟨c, 0, none⟩)] 94) := ⟨_, rfl⟩
 have HB0 : Hid (Below w.heap.size w w0) := by rw [hw0]; exact (Below.refl _ _).alloc (Nat.le_refl _) _
 have HC0 : Hid (Ck w0 c e) := by rw [hw0]; exact hc.alloc _
 have k1 : Hid (w0.cell? ⟨w.heap.size, 0, none⟩ = some (.pointer (some ⟨c, 0, none⟩))) := by show _ = _; rw [hw0]; simp [go_sem]
 have HSz : Hid (w0.heap.size = w.heap.size + 1) := by show _ = _; rw [hw0]; simp
 have HCo := i' (k'fn c p v e w0 (h.below HB0.out) HC0.out ht)
 have HCh := i' (fun m2 w' hr hF => k'fg w.heap.size m2 p (Pl.prim p) v w' hr (Pl.prim_length p) hl hF)
 have HP1 := i' (fun m2 k wr (hk : k < p.length) (hk2 : k < (Pl.prim p).length) hc h1 h2 h3 => k'fo c w.heap.size m2 (k : Int) p[k] (Pl.cont p : Nat) e wr hc h1 h2 h3 (ht _ (List.getElem_mem hk))
  (by rw [Int.natAbs_natCast]; exact k'fm ht) (by have := Pl.cont_pos hn (by intro e0; rw [e0] at hk; simp at hk); omega) (Int.emod_eq_zero_of_dvd (Pl.cont_dvd (List.getElem_mem hk))))
 have HR := i' h
 have HE : Hid (∀ k (hk : k < p.length) (hk2 : k < (Pl.prim p).length), (Pl.prim p)[k] = p[k] / ((Pl.cont p : Nat) : Int)) := by intro k hk hk2; simp [Pl.prim]
 have HCH := i' hc
 obtain ⟨a, b, off, cap, hv, _⟩ := h.open_
 have HV := i' hv
 clear h hc hn ht hv
 go_enter Tryz.func92, Tryz.ntmps92
 go_wp2_with fail
 rw [← hw0]
 clear hw0
 refine HCo.out.mono ?_
 rintro en w1 ⟨rfl, hb1⟩
 have HB1 := i' (chain HB0.out hb1)
 have hk1 := keep1 hb1 k1.out
 have HK1 := i' hk1
 have HC1 := i' (HC0.out.below hb1)
 clear hb1 hk1 HCo
 generalize ((Pl.cont p : Nat) : Int) = g at *
 go_wp2_with fail
 obtain ⟨w2, hw2⟩ : ∃ w2 : World, w2 = w1.alloc (.cells #[.bool (zb g), .string (zs g)] 44) := ⟨_, rfl⟩
 have HB2 : Hid (Below w1.heap.size w1 w2) := by rw [hw2]; exact (Below.refl _ _).alloc (Nat.le_refl _) _
 have q0 : Hid (w2.cell? ⟨w1.heap.size, 0, none⟩ = some (.bool (zb g))) := by show _ = _; rw [hw2]; simp [go_sem]
 have q1 : Hid (w2.cell? ⟨w1.heap.size, 1, none⟩ = some (.string (zs g))) := by show _ = _; rw [hw2]; simp [go_sem]
 rw [← hw2]
 clear hw2
 have HB3 := i' (chain HB1.out HB2.out)
 refine (HCh.out w1.heap.size w2 (HR.out.below HB3.out) ?_).mono ?_
 ·intro k wr hk hk2 hbr
  rw [HE.out k hk hk2]
  exact HP1.out w1.heap.size k wr hk hk2 ((HC1.out.below HB2.out).below hbr) (keep1 hbr (keep1 HB2.out HK1.out)) (keep1 hbr q0.out) (keep1 hbr q1.out)
 rintro en w3 ⟨v3, rfl, hr3, hb3⟩
 have HR3 := i' hr3
 have HB4 := i' (chain HB3.out hb3)
 clear hr3 hb3
 go_wp2
 go_ret
 exact ⟨v3, rfl, HR3.out, HB4.out⟩
end Go.Proofs.YtepddegphdlbeaaGreat
