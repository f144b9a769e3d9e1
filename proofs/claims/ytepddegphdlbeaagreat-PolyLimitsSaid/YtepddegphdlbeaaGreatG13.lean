/- What the theorem leans on, part G13. -/
import Derived.Test.YtepddegphdlbeaaGreatG10
import Derived.Test.YtepddegphdlbeaaGreatG9
import Derived.RangeFuncNested
import Derived.RangeFuncBound
import Derived.RangeFuncCalls
import Derived.RangeFuncLeaves
import Derived.Shelf.Abstract
import Derived.Shelf.RegionOpen
import Derived.WalkKit
import Derived.OwnWalkIn
import Derived.TacticsInMore
import Derived.LoopNIn
import Derived.LoopIn
import Derived.Test.YtepddegphdlbeaaGreatG8
import Derived.Test.YtepddegphdlbeaaGreatG7
import Derived.Test.YtepddegphdlbeaaGreatG6
import Derived.Test.YtepddegphdlbeaaGreatG4
import Derived.Test.YtepddegphdlbeaaGreatG3
import Derived.Test.YtepddegphdlbeaaGreatG2
import Derived.Test.YtepddegphdlbeaaGreatG1
import Derived.Test.YtepddegphdlbeaaGreatG0
import Derived.Test.YtepddegphdlbeaaGreatProg
import Derived.WalkSpells
import Derived.WalkLawsBesides
import Derived.Lib.Hide
import Derived.Deep.QuietTactic
import Derived.BigQuiet
import Derived.Shelf.Small.Bits
import Derived.Shelf.Small.Wraps
import Derived.Shelf.Strconv.Itoa0
import Derived.Shelf.Bits.Mul64
import Derived.Ground.Names2Prog
import Derived.Shelf.Slices.SearchI
import Derived.Shelf.Spec.BitsCarry
import Derived.Deep.LoopGhost
import Derived.Deep.RegionHeld3
import Derived.Deep.DeepCutAuto
import Derived.Test.YtepddegphdlbeaaGreatG5
import Derived.Laws.AppendOwnNone
import Derived.Below
import Derived.OrdersIn
import Derived.Deep.RegionHeld
import Derived.Maps.AppendAt
import Derived.Lib.SliceRun
import Derived.IntWalk
import Derived.Test.YtepddegphdlbeaaGreatG11
import Derived.Test.YtepddegphdlbeaaGreatG12
import Derived.Laws.StructEq
set_option maxRecDepth 100000
set_option maxHeartbeats 16000000
set_option linter.all false
namespace Go.Proofs.YtepddegphdlbeaaGreat
open Go.RowKit Go.Shelf
attribute [local go_sem] Oper.semAt_some
def hor (L : List Int) (x : Int) (k : Nat) : Int := Pl.ev (L.drop (L.length - k)) x
theorem k'iu (L : List Int) (x : Int) : hor L x 0 = 0 := by simp [hor, Pl.ev]
theorem k'iv (L : List Int) (x : Int) (k : Nat) (h : k < L.length) : hor L x (k + 1) = hor L x k * x + Pl.cf L (L.length - 1 - k) := by
 unfold hor
 rw [List.drop_eq_getElem_cons (by omega : L.length - (k + 1) < L.length), Pl.ev, ← Pl.cf_lt (by omega), show L.length - (k + 1) + 1 = L.length - k by omega, show L.length - (k + 1) = L.length - 1 - k by omega, Int.mul_comm x]; omega
theorem k'iw (L : List Int) (x : Int) : hor L x L.length = Pl.ev L x := by simp [hor]
def VlI (L : List Int) (c M0 Sb n₀ Bs : Nat) (sv : Value) (num e : Int) (w : World) (pre : List (Fin L.length)) (W : World) : Prop :=
 (∃ (s en : Int), s.natAbs < Top ∧ Aw W Sb [s] ∧ Ck W c en ∧ ∀ k h, pre = dn L.length k h → en = e ∧ s = hor L num k) ∧
 (W.cell? ⟨M0, 0, none⟩ = some (.pointer (some ⟨c, 0, none⟩)) ∧ W.cell? ⟨M0 + 1, 0, none⟩ = some (.bool (zb num)) ∧ W.cell? ⟨M0 + 1, 1, none⟩ = some (.string (zs num)) ∧ W.cell? ⟨Bs, 0, none⟩ = some sv) ∧ Aw W (M0 + 1 + 1) [0] ∧ Bn c n₀ w W
theorem k'ix (L : List Int) (c M0 Sb n₀ Bs B : Nat) (sv : Value) (num e : Int) (w : World) (hn : n₀ ≤ w.heap.size) (hB : n₀ ≤ B) : OwnFrom B (VlI L c M0 Sb n₀ Bs sv num e w) := by
 rintro pre W W' row ⟨⟨s, en, h2, h4, h5, h6⟩, ⟨h7, h8, h11, h12⟩, h9, h10⟩ hg hr
 have hr' : ∀ r, row = some r → ∃ o : Obj, W.heap[r]? = some o ∧ o.isCells = false := fun r e => (hr r e).2
 exact ⟨⟨s, en, h2, k'f0 h4 hg hr', k'f1 h5 hg hr', h6⟩, ⟨cell_kept h7 hg hr', cell_kept h8 hg hr', cell_kept h11 hg hr', cell_kept h12 hg hr'⟩, k'f0 h9 hg hr', k'e2 (β := Unit) hn hB () W W' row h10 hg hr⟩
structure Kv (c n₀ Bs bL n : Nat) (W W' : World) : Prop where
 bk : Bk c n₀ Bs W W'
 row : 0 < n → W'.heap[bL]? = W.heap[bL]?
theorem Kv.refl (c n₀ Bs bL n : Nat) (W : World) : Kv c n₀ Bs bL n W W := ⟨Bk.refl _ _ _ _, fun _ => rfl⟩
theorem kv_t {c n₀ Bs bL n : Nat} : ∀ {A B C : World}, Kv c n₀ Bs bL n A B → Kv c n₀ Bs bL n B C → Kv c n₀ Bs bL n A C := fun h k => ⟨h.bk.trans k.bk, fun h0 => (k.row h0).trans (h.row h0)⟩
theorem kv_b {c n₀ Bs bL n : Nat} {w : World} (hn : n₀ ≤ w.heap.size) (hB : Bs < w.heap.size) (hL : 0 < n → bL < w.heap.size) : ∀ (W : World) (l : Nat) (o o' : Obj), w.heap.size ≤ l → W.heap[l]? = some o → o.isCells = false → o.isWalk = false → Kv c n₀ Bs bL n W (W.putObj l o') :=
 fun W l o o' hl h1 h2 h3 => ⟨bk_b hn hB W l o o' hl h1 h2 h3, fun h0 => World.putObj_heap_other (by have := hL h0; omega)⟩
theorem Kv.of_but {c n₀ Bs bL n : Nat} {w w' : World} (h : But c w w') (hn : n₀ ≤ w.heap.size) (hB : Bs < w.heap.size) (hc : Bs ≠ c) (hL : 0 < n → bL < w.heap.size ∧ bL ≠ c) : Kv c n₀ Bs bL n w w' := ⟨Bk.of_but h hn hB hc, fun h0 => h.block bL (hL h0).1 (hL h0).2⟩
theorem Kv.new {c n₀ Bs bL n : Nat} {a b : World} (h : Kv c n₀ Bs bL n a b) {p : Addr} (hp : n₀ ≤ p.block) (hB : Bs ≠ p.block) (hL : 0 < n → bL ≠ p.block) (v : Value) : Kv c n₀ Bs bL n a (b.setCell p v) := ⟨h.bk.new hp hB v, fun h0 => (Below.heap_setCell _ _ _ _ (hL h0)).trans (h.row h0)⟩
theorem Kv.alloc {c n₀ Bs bL n : Nat} {a b : World} (h : Kv c n₀ Bs bL n a b) (hn : n₀ ≤ b.heap.size) (hB : Bs < b.heap.size) (hL : 0 < n → bL < b.heap.size) (o : Obj) : Kv c n₀ Bs bL n a (b.alloc o) := ⟨h.bk.alloc hn hB o, fun h0 => (Below.heap_alloc _ _ _ (hL h0)).trans (h.row h0)⟩
theorem k'iy {px : Int} (L : List Int) (pre : List (Fin L.length)) (x : Fin L.length) (num s en e m e1 s2 e2 : Int)
 (hgood : ∀ k h, pre = dn L.length k h → en = e ∧ s = hor L num k)
 (hm : m = clip (s * num)) (he1 : e1 = er en (s * num)) (hs2 : s2 = clip (m + px)) (he2 : e2 = er e1 (m + px)) (hpx : px = Pl.cf L x.val)
 (hh : ∀ k, k ≤ L.length → (hor L num k).natAbs < Top) (hmm : ∀ k, k < L.length → (hor L num k * num).natAbs < Top) :
 ∀ k h, pre ++ [x] = dn L.length k h → e2 = e ∧ s2 = hor L num k := by
 intro k h hk
 obtain ⟨k', h', rfl, h1, h2⟩ := k'f4 hk
 obtain ⟨g1, g2⟩ := hgood k' h' h1
 have hk' : k' < L.length := by omega
 have f1 : (s * num).natAbs < Top := by rw [g2]; exact hmm k' hk'
 have e3 : m + px = hor L num (k' + 1) := by rw [hm, k'ct f1, hpx, h2, g2, k'iv _ _ _ hk']
 have f2 : (m + px).natAbs < Top := by rw [e3]; exact hh _ (by omega)
 exact ⟨by rw [he2, er_ok _ f2, he1, er_ok _ f1, g1], by rw [hs2, k'ct f2, e3]⟩
theorem k'iz (c : Nat) (p : List Int) (v : Value) (num den e : Int) (w : World) (h : Rp w v p) (hc : Ck w c e) (hl : p.length ≤ 50) (ht : ∀ a ∈ p, a.natAbs < Top) (hd : den.natAbs < Top) (hn : num.natAbs < Top)
 (hpow : ∀ j, j ≤ p.length - 1 → (den ^ j).natAbs < Top) (hfit : ∀ i j, j ≤ p.length - 1 → (Pl.cf p i * den ^ j).natAbs < Top)
 (hh : ∀ k, k ≤ p.length → (hor (Pl.lev p den) num k).natAbs < Top) (hm : ∀ k, k < p.length → (hor (Pl.lev p den) num k * num).natAbs < Top) :
 Calls Tryz.prog 100 #[.pointer (some ⟨c, 0, none⟩), v, .agg #[.bool (zb num), .string (zs num), .bool (zb den), .string (zs den)]] w (Ret (Z (Pl.ev (Pl.lev p den) num)) w) := by
 have HLv := i' (fun w' (hb : Below w.heap.size w w') => k'f9 c p v den e w' (h.below hb) (hc.below hb) hl ht hd hpow hfit)
 obtain ⟨a, b, off, cap, rfl, h2, h3, h4, h5⟩ := h.open_
 obtain ⟨L, hL⟩ : ∃ L, L = Pl.lev p den := ⟨_, rfl⟩
 have hLl : L.length = p.length := by rw [hL, Pl.lev_length]
 have HLt : Hid (∀ x ∈ L, x.natAbs < Top) := by
  intro x hx
  obtain ⟨i, hi, rfl⟩ := List.mem_iff_getElem.1 hx
  rw [← Pl.cf_lt hi, hL, Pl.cf_lev]
  exact hfit i _ (by omega)
 rw [← hL] at HLv hh hm ⊢
 rw [← hLl] at hh hm
 obtain ⟨n, hnp⟩ : ∃ n, n = p.length := ⟨_, rfl⟩
 rw [← hnp] at hl ⊢
 have HN : Hid (n = L.length) := hnp.trans hLl.symm
 rw [← hnp] at HLv
 have HHh := i' hh
 have HHm := i' hm
 have HC := i' hc
 have HNu := i' hn
 clear h h2 h3 h4 h5 hc ht hd hn hpow hfit hh hm hL hLl hnp
 refine (callsIn_wide (n := 5)).1 ?_
 refine callsIn_of_wp_marks Tryz.func100 rfl trivial ?_ rfl
 simp only [Tryz.ntmps100, List.size_toArray, List.length_cons, List.length_nil, Nat.reduceAdd, Nat.reduceSub, Array.replicate_succ, Array.replicate_zero, List.push_toArray, List.append_toArray, List.nil_append, List.cons_append]
 gi_wp2_with fail
 obtain ⟨W4, hW4⟩ : ∃ W4 : World, W4 = (((w.alloc (.cells #[.pointer (some ⟨c, 0, none⟩)] 94)).alloc (.cells #[.bool (zb num), .string (zs num), .bool (zb den), .string (zs den)] 59)).alloc (.cells #[.bool false, .string ⟨#[]⟩] 44)).alloc (.cells #[.bool false, .string ⟨#[]⟩] 44) := ⟨_, rfl⟩
 have hs4 : W4.heap.size = w.heap.size + 4 := by rw [hW4]; simp
 have t0 : W4.cell? ⟨w.heap.size, 0, none⟩ = some (.pointer (some ⟨c, 0, none⟩)) := by rw [hW4]; simp [go_sem]
 have t1 : W4.cell? ⟨w.heap.size + 1, 0, none⟩ = some (.bool (zb num)) := by rw [hW4]; simp [go_sem]
 have t2 : W4.cell? ⟨w.heap.size + 1, 1, none⟩ = some (.string (zs num)) := by rw [hW4]; simp [go_sem]
 have t3 : Aw W4 (w.heap.size + 1 + 1) [0] := by
  rw [hW4]
  have h5 := (Aw.made ((w.alloc (.cells #[.pointer (some ⟨c, 0, none⟩)] 94)).alloc (.cells #[.bool (zb num), .string (zs num), .bool (zb den), .string (zs den)] 59)) [0]).alloc (.cells #[.bool false, .string ⟨#[]⟩] 44)
  rw [World.size_alloc, World.size_alloc] at h5
  exact h5
 have t4 : Aw W4 (w.heap.size + 1 + 1 + 1) [0] := by
  rw [hW4]
  have h5 := Aw.made (((w.alloc (.cells #[.pointer (some ⟨c, 0, none⟩)] 94)).alloc (.cells #[.bool (zb num), .string (zs num), .bool (zb den), .string (zs den)] 59)).alloc (.cells #[.bool false, .string ⟨#[]⟩] 44)) [0]
  rw [World.size_alloc, World.size_alloc, World.size_alloc] at h5
  exact h5
 have t5 : Below w.heap.size w W4 := by rw [hW4]; exact ((((Below.refl _ _).alloc (Nat.le_refl _) _).alloc (by simp) _).alloc (by simp; omega) _).alloc (by simp; omega) _
 have T := i' (And.intro t0 (And.intro t1 (And.intro t2 (And.intro t3 (And.intro t4 t5)))))
 rw [← hW4]
 clear hW4 t0 t1 t2 t3 t4 t5
 refine ⟨trivial, ?_⟩
 refine (callsIn_wide.2 (HLv.out W4 T.out.2.2.2.2.2)).mono ?_
 rintro e0 w1 ⟨a2, n2, cap2, rfl, hr2, ho2, b1⟩
 obtain rfl : n2 = n := by
  obtain ⟨_, _, _, _, e1, _⟩ := hr2.open_
  injection e1 with _ e2 _
  exact e2.trans HN.out.symm
 have hs1 := b1.size
 obtain ⟨bL, hbL⟩ : ∃ bL, Hid ((0 < n2 → a2 = some ⟨bL, 0, none⟩) ∧ (0 < n2 → w.heap.size + 4 ≤ bL ∧ bL < w1.heap.size) ∧ (∀ j (hj : j < L.length), w1.cell? ⟨bL, 0 + j * 2, none⟩ = some (.bool (zb L[j])) ∧ w1.cell? ⟨bL, 0 + j * 2 + 1, none⟩ = some (.string (zs L[j])))) := by
  by_cases h0 : L = []
  ·have h1 : n2 = L.length := HN.out
   rw [h0] at h1
   exact ⟨0, fun h => absurd h (by simp at h1; omega), fun h => absurd h (by simp at h1; omega), fun j hj => by rw [h0] at hj; simp at hj⟩
  ·obtain ⟨g, rfl, h2, h3⟩ := ho2 h0
   exact ⟨g, fun _ => rfl, fun _ => ⟨by omega, h3.lt⟩, fun j hj => by rw [Nat.zero_add]; exact h3.cell j hj⟩
 have B1 := i' b1
 clear hr2 ho2 b1
 gi_wp2_with fail
 refine ⟨trivial, ?_⟩
 refine (k'e5 Fence.wide _ trivial rfl a2 n2 cap2 _).mono ?_
 rintro e3 w2 ⟨rfl, hw2⟩
 have HZ2 : Hid (w2.heap.size = w1.heap.size + 1) := by show _ = _; rw [hw2]; simp
 have HB2 : Hid (Below w1.heap.size w1 w2) := by rw [hw2]; exact (Below.refl _ _).alloc (Nat.le_refl _) _
 have HS2 : Hid (w2.cell? ⟨w1.heap.size, 0, none⟩ = some (.slice a2 n2 cap2)) := by show _ = _; rw [hw2]; simp [go_sem]
 have HI2 : Hid (VlI L c w.heap.size (w.heap.size + 1 + 1 + 1) w.heap.size w1.heap.size (.slice a2 n2 cap2) num e w [] w2) := by
  have hb := T.out.2.2.2.2.2.trans ((chain B1.out HB2.out).mono T.out.2.2.2.2.2.size)
  refine ⟨⟨0, e, Nat.lt_of_lt_of_le W0 W_Top, (T.out.2.2.2.2.1.below B1.out).below HB2.out, HC.out.below hb, ?_⟩, ⟨keep1 HB2.out (keep1 B1.out T.out.1), keep1 HB2.out (keep1 B1.out T.out.2.1), keep1 HB2.out (keep1 B1.out T.out.2.2.1), HS2.out⟩, (T.out.2.2.2.1.below B1.out).below HB2.out, Bn.of_below hb⟩
  intro k h5 h6
  have hk0 : k = 0 := by have h7 := congrArg List.length h6; rw [k'e3] at h7; simpa using h7.symm
  subst hk0
  exact ⟨rfl, (k'iu L num).symm⟩
 have HCc := i' HC.out.lt
 have HbC : Hid (0 < n2 → bL ≠ c) := fun h0 => by have := (hbL.out.2.1 h0).1; have := HCc.out; omega
 clear hw2
 gi_wp2
 refine wpIn_rangeFunc_ownH rfl (show 1 ≤ 5 by decide) (gf := 145) (lb := #[.pointer (some ⟨w1.heap.size, 0, none⟩)]) rfl trivial (enters_of Tryz.func145 (by kernel_rfl) rfl)
  (k'e6 (Kv c w.heap.size w1.heap.size bL n2) (Kv.refl _ _ _ _ _) kv_t Fence.wide 4 trivial rfl (by decide) w1.heap.size bL 0 n2 cap2 a2 L (by rw [← HN.out]; omega) w2 HN.out (by have h5 := HZ2.out; omega) HS2.out hbL.out.1
   (fun j hj => ⟨keep1 HB2.out (hbL.out.2.2 j hj).1, keep1 HB2.out (hbL.out.2.2 j hj).2⟩)
   (fun W W' hk a' ha' => by
    rcases ha' with ha' | ⟨h0, ha'⟩
    ·exact World.cell?_of_block (by rw [ha']; exact hk.bk.box)
    ·exact World.cell?_of_block (by rw [ha']; exact hk.row h0)))
  kv_t (kv_b (by have h5 := HZ2.out; omega) (by have h5 := HZ2.out; omega) (fun h0 => by have h5 := HZ2.out; have := (hbL.out.2.1 h0).2; omega)) (Below.refl _ _) (fun _ => rfl)
  (VlI L c w.heap.size (w.heap.size + 1 + 1 + 1) w.heap.size w1.heap.size (.slice a2 n2 cap2) num e w)
  (fun _ _ _ => False)
  (k'ix _ _ _ _ _ _ _ _ _ _ _ (Nat.le_refl _) (by have h5 := HZ2.out; omega))
  (fun _ _ _ _ _ hs _ _ => hs)
  HI2.out
  (fun x a' W => ∃ Bx, (w.heap.size + 1 + 1 + 1 < Bx ∧ w1.heap.size < Bx) ∧ (Aw W Bx [L[x.val]] ∧ (0 < n2 → bL < W.heap.size ∧ bL ≠ Bx)) ∧ a' = { tmps := #[.pointer (some ⟨c, 0, none⟩), .slice a n2 cap, .agg #[.bool (zb num), .string (zs num), .bool (zb den), .string (zs den)], .pointer (some ⟨w.heap.size, 0, none⟩), undef, .pointer (some ⟨w.heap.size + 1, 0, none⟩), .pointer (some ⟨w.heap.size + 1 + 1, 0, none⟩), .pointer (some ⟨w.heap.size + 1 + 1 + 1, 0, none⟩), undef, .pointer (some ⟨Bx, 0, none⟩), .pointer (some ⟨c, 0, none⟩), .slice a n2 cap, .pointer (some ⟨w.heap.size + 1, 2, none⟩), .agg #[.bool (zb den), .string (zs den)], .slice a2 n2 cap2, .func (.func 145) #[] #[.pointer (some ⟨w1.heap.size, 0, none⟩)], .int .i64 (x.val : Int), Z L[x.val], undef, undef, undef, undef, undef, undef, undef, undef, undef], defers := [] })
  (fun x a' _ X Y row hs hg hr => by obtain ⟨Bx, h1, ⟨h2, h4⟩, h3⟩ := hs; exact ⟨Bx, h1, ⟨k'f0 h2 hg (fun r e => (hr r e).2), fun h0 => ⟨Nat.lt_of_lt_of_le (h4 h0).1 hg.size, (h4 h0).2⟩⟩, h3⟩)
  ?assign ?body ?done ?stop
 case assign =>
  rintro l pre x W K hI hK
  unfold encw
  have hI2 := (k'ix L c w.heap.size (w.heap.size + 1 + 1 + 1) w.heap.size w1.heap.size w.heap.size (.slice a2 n2 cap2) num e w (Nat.le_refl _) (Nat.le_refl _)).alloc (.cells #[.bool (zb L[x.val]), .string (zs L[x.val])] 44) hI
  obtain ⟨⟨s, en, _, hF, _, _⟩, ⟨_, _, _, hBs⟩, _, hB⟩ := hI
  have hl1 := hF.lt
  have hl3 := World.block_lt_of_cell? W _ hBs
  simp only at hl3
  have hlL : 0 < n2 → bL < W.heap.size := fun h0 => by have := (hbL.out.2.1 h0).2; omega
  gi_wp2
  exact hK _ _ ((KeepsOthers.alloc _ _).from _) ((Kv.refl _ _ _ _ _ _).alloc hB.size hl3 hlL _) hI2 ⟨W.heap.size, ⟨hl1, hl3⟩, ⟨Aw.made W [L[x.val]], fun h0 => ⟨by simp; have := hlL h0; omega, by have := hlL h0; omega⟩⟩, rfl⟩
 case body =>
  rintro l pre x a' W hl ⟨r, hr⟩ hI ⟨Bx, ⟨hBx1, hBx2⟩, ⟨bX, hbLW⟩, rfl⟩ hlt
  obtain ⟨⟨s, en, hs, hS, hCk, hgood⟩, ⟨hM0, hN0, hN1, hBsc⟩, hRes, hBn⟩ := hI
  have hcw := HC.out.lt
  have hn0 : 0 < n2 := by have := x.isLt; have h5 : n2 = L.length := HN.out; omega
  have hbLx := hbLW hn0
  have hbL2 := hbL.out.2.1 hn0
  have hpx : (L[x.val]).natAbs < Top := HLt.out _ (List.getElem_mem x.isLt)
  have HM1 := i' (fun w' hc => k'ey c s num en w' hc hs HNu.out)
  obtain ⟨m, hm⟩ : ∃ m, m = clip (s * num) := ⟨_, rfl⟩
  obtain ⟨e1, he1⟩ : ∃ e1, e1 = er en (s * num) := ⟨_, rfl⟩
  rw [← hm, ← he1] at HM1
  have HM2 := i' (fun w' hc => k'cv c m L[x.val] e1 w' hc (by rw [hm]; exact k'ez _) hpx)
  obtain ⟨s2, hs2⟩ : ∃ s2, s2 = clip (m + L[x.val]) := ⟨_, rfl⟩
  obtain ⟨e2, he2⟩ : ∃ e2, e2 = er e1 (m + L[x.val]) := ⟨_, rfl⟩
  rw [← hs2, ← he2] at HM2
  have HFin := i' (k'iy L pre x num s en e m e1 s2 e2 hgood hm he1 hs2 he2 (Pl.cf_lt x.isLt).symm HHh.out HHm.out)
  have HTF : Hid (s2.natAbs < Top) := by rw [hs2]; exact k'ez _
  have hbs := World.block_lt_of_cell? W _ hBsc
  simp only at hbs
  have HBS := i' hBsc
  have HSA := i' hS
  have HCK := i' hCk
  have HBN := i' hBn
  have HRE := i' hRes
  have HBX := i' bX
  clear hm he1 hs2 he2 hgood hs hS hCk hBn hRes bX hpx hBsc hbLW
  obtain ⟨xv, hxv⟩ : ∃ xv, xv = x.val := ⟨_, rfl⟩
  obtain ⟨x0, x1⟩ := HBX.out.cell 0 (by simp)
  obtain ⟨f0, f1⟩ := HSA.out.cell 0 (by simp)
  simp only [Nat.zero_mul, Nat.zero_add, List.getElem_cons_zero] at x0 x1 f0 f1
  unfold Z at HM1 HM2
  generalize L[x.val] = px at *
  rw [← hxv]
  clear hxv
  have hmx : Tryz.prog.follows .mixedOrders = true := by kernel_rfl
  have m1 : w.heap.size + 1 + 1 + 1 ≠ c := by omega
  have m3 : w.heap.size + 1 + 1 ≠ c := by omega
  have m4 : w.heap.size ≠ c := by omega
  have m5 : Bx ≠ c := by omega
  have m6 : w.heap.size + 1 ≠ c := by omega
  have m7 : w1.heap.size ≠ c := by omega
  gi_wp2
  refine k'ec (S := (fun W' => W'.cell? ⟨w.heap.size, 0, none⟩ = some (.pointer (some ⟨c, 0, none⟩)) ∧ W'.cell? ⟨w.heap.size + 1, 0, none⟩ = some (.bool (zb num)) ∧ W'.cell? ⟨w.heap.size + 1, 1, none⟩ = some (.string (zs num)) ∧ W'.cell? ⟨Bx, 0, none⟩ = some (.bool (zb px)) ∧ W'.cell? ⟨Bx, 1, none⟩ = some (.string (zs px)))) hmx (by intro i o ho c; match i, ho with | 0, h | 1, h | 2, h | 3, h | 4, h | 5, h | 6, h | 7, h | 8, h => (injection h with h; subst h; exact fun e => by cases e) | k + 9, h => exact absurd h (by simp)) ?_ (fun hHeld => ?_)
  ·exact ⟨hM0, hN0, hN1, x0, x1⟩
  refine wpAnyH_take (i := 0) (oi := ?oi1) (v := ?v1) ?hi1 (by kernel_rfl) (by kernel_rfl) (by kernel_rfl) k'ed (Or.inl ⟨?hw1, ?hy1⟩) (by assumption) ?rest1
  case hi1 => simp only [List.getElem?_toArray, List.getElem?_cons_succ, List.getElem?_cons_zero]; rfl
  case hw1 => rfl
  case hy1 =>
   intro w hSw
   (try dsimp only at hSw)
   go_simp
   (try with_reducible rfl)
  (try simp only [Act.put, List.setIfInBounds_toArray, List.set_cons_zero, List.set_cons_succ])
  refine wpAnyH_take (i := 1) (oi := ?oi2) (v := ?v2) ?hi2 (by kernel_rfl) (by kernel_rfl) (by kernel_rfl) k'ed (Or.inl ⟨?hw2, ?hy2⟩) (by assumption) ?rest2
  case hi2 => simp only [List.getElem?_toArray, List.getElem?_cons_succ, List.getElem?_cons_zero]; rfl
  case hw2 => rfl
  case hy2 =>
   intro w hSw
   (try dsimp only at hSw)
   go_simp
   (try with_reducible rfl)
  (try simp only [Act.put, List.setIfInBounds_toArray, List.set_cons_zero, List.set_cons_succ])
  refine wpAnyH_take (i := 3) (oi := ?oi4) (v := ?v4) ?hi4 (by kernel_rfl) (by kernel_rfl) (by kernel_rfl) k'ed (Or.inl ⟨?hw4, ?hy4⟩) (by assumption) ?rest4
  case hi4 => simp only [List.getElem?_toArray, List.getElem?_cons_succ, List.getElem?_cons_zero]; rfl
  case hw4 => rfl
  case hy4 =>
   intro w hSw
   (try dsimp only at hSw)
   go_simp
   (try with_reducible rfl)
  (try simp only [Act.put, List.setIfInBounds_toArray, List.set_cons_zero, List.set_cons_succ])
  refine wpAnyH_take (i := 4) (oi := ?oi5) (v := ?v5) ?hi5 (by kernel_rfl) (by kernel_rfl) (by kernel_rfl) k'ed (Or.inl ⟨?hw5, ?hy5⟩) (by assumption) ?rest5
  case hi5 => simp only [List.getElem?_toArray, List.getElem?_cons_succ, List.getElem?_cons_zero]; rfl
  case hw5 => rfl
  case hy5 =>
   intro w hSw
   (try dsimp only at hSw)
   go_simp
   (try with_reducible rfl)
  (try simp only [Act.put, List.setIfInBounds_toArray, List.set_cons_zero, List.set_cons_succ])
  refine wpAnyH_take (i := 6) (oi := ?oi6) (v := ?v6) ?hi6 (by kernel_rfl) (by kernel_rfl) (by kernel_rfl) k'ed (Or.inl ⟨?hw6, ?hy6⟩) (by assumption) ?rest6
  case hi6 => simp only [List.getElem?_toArray, List.getElem?_cons_succ, List.getElem?_cons_zero]; rfl
  case hw6 => rfl
  case hy6 =>
   intro w hSw
   (try dsimp only at hSw)
   go_simp
   (try with_reducible rfl)
  (try simp only [Act.put, List.setIfInBounds_toArray, List.set_cons_zero, List.set_cons_succ])
  refine wpAnyH_ready (rs := [2]) (by kernel_rfl) (by simp) ?_
  refine AllReadyH.cons (o := ?oi3) ?hi3 ?rest3 AllReadyH.nil
  case hi3 => simp only [List.getElem?_toArray, List.getElem?_cons_succ, List.getElem?_cons_zero]; rfl
  intro K hK
  go_simp
  refine hK.out _ _ ?_ (fun hHeld => ?_)
  ·(try dsimp only)
   exact ⟨hM0, hN0, hN1, x0, x1⟩
  clear hK K
  (try simp only [Act.put, List.setIfInBounds_toArray, List.set_cons_zero, List.set_cons_succ])
  refine wpAnyH_ready (rs := [5]) (by kernel_rfl) (by simp) ?_
  refine AllReadyH.cons (o := ?oi7) ?hi7 ?rest7 AllReadyH.nil
  case hi7 => simp only [List.getElem?_toArray, List.getElem?_cons_succ, List.getElem?_cons_zero]; rfl
  intro K hK
  go_simp
  (with_reducible refine (HM1.out _ (by exact HCK.out.drew)).mono ?_)
  rintro e0 w5 ⟨rfl, b5, d5⟩
  have c5 := ((But.refl c W).drew).trans b5
  have p0 := c5.cell hM0 m4
  have p1 := c5.cell f0 m1
  have p2 := c5.cell f1 m1
  have p3 := c5.cell hN0 m6
  have p4 := c5.cell hN1 m6
  have p5 := c5.cell x0 m5
  have p6 := c5.cell x1 m5
  have G5 := i' (And.intro c5 d5)
  clear b5 d5 c5
  (try go_wp2_with fail)
  refine hK.out _ _ ?_ (fun hHeld => ?_)
  ·(try dsimp only)
   exact ⟨p0, p3, p4, p5, p6⟩
  clear hK K
  (try simp only [Act.put, List.setIfInBounds_toArray, List.set_cons_zero, List.set_cons_succ])
  clear p0 p1 p2 p3 p4 p5 p6
  refine wpAnyH_ready (rs := [7]) (by kernel_rfl) (by simp) ?_
  refine AllReadyH.cons (o := ?oi8) ?hi8 ?rest8 AllReadyH.nil
  case hi8 => simp only [List.getElem?_toArray, List.getElem?_cons_succ, List.getElem?_cons_zero]; rfl
  intro K hK
  go_simp
  (with_reducible refine (HM2.out _ G5.out.2).mono ?_)
  rintro e0 w6 ⟨rfl, b6, d6⟩
  have c6 := G5.out.1.trans b6
  have p0 := c6.cell hM0 m4
  have p1 := c6.cell f0 m1
  have p2 := c6.cell f1 m1
  have p3 := c6.cell hN0 m6
  have p4 := c6.cell hN1 m6
  have p5 := c6.cell x0 m5
  have p6 := c6.cell x1 m5
  have HS6 := i' (c6.aw HSA.out m1)
  have p7 := HS6.out.free 0
  have p8 := HS6.out.free 1
  have G6 := i' (And.intro c6 d6)
  clear b6 d6 c6
  (try go_wp2_with fail)
  refine hK.out _ _ ?_ (fun hHeld => ?_)
  ·(try dsimp only)
   exact ⟨p0, p3, p4, p5, p6⟩
  clear hK K
  (try simp only [Act.put, List.setIfInBounds_toArray, List.set_cons_zero, List.set_cons_succ])
  refine wpAnyH_ready (rs := [8]) (by kernel_rfl) (by simp) ?_
  refine AllReadyH.cons (o := ?oi9) ?hi9 ?rest9 AllReadyH.nil
  case hi9 => simp only [List.getElem?_toArray, List.getElem?_cons_succ, List.getElem?_cons_zero]; rfl
  intro K hK
  go_simp
  refine hK.out _ _ ?_ (fun hHeld => ?_)
  ·(try dsimp only)
   exact ⟨far2 (by simp only; omega) p0, far2 (by simp only; omega) p3, far2 (by simp only; omega) p4, far2 (by simp only; omega) p5, far2 (by simp only; omega) p6⟩
  clear hK K
  (try simp only [Act.put, List.setIfInBounds_toArray, List.set_cons_zero, List.set_cons_succ])
  refine wpAnyH_done (by kernel_rfl) ?_ _
  refine k'ee ?_
  (try dsimp only [Exit.then])
  have hb7 := HBN.out.size
  have HS7 := ((HS6.out).set 0 (by simp) s2)
  simp only [Nat.zero_mul, Nat.zero_add, List.set_cons_zero] at HS7
  gi_wp2
  exact ⟨((k'f3 (B := w2.heap.size) G6.out.1 HCK.out).trans ((KeepsOthers.setCell _ _ _).from _)).trans ((KeepsOthers.setCell _ _ _).from _),
   ((Kv.of_but G6.out.1 hb7 hbs m7 (fun _ => ⟨hbLx.1, by omega⟩)).new (p := ⟨w.heap.size + 1 + 1 + 1, 0, none⟩) (by simp only; omega) (by simp only; omega) (fun _ => by simp only; omega) _).new (p := ⟨w.heap.size + 1 + 1 + 1, 1, none⟩) (by simp only; omega) (by simp only; omega) (fun _ => by simp only; omega) _,
   ⟨_, _, HTF.out, HS7, (G6.out.2.other ⟨w.heap.size + 1 + 1 + 1, 0, none⟩ _ (by simp only; omega)).other ⟨w.heap.size + 1 + 1 + 1, 1, none⟩ _ (by simp only; omega), HFin.out⟩,
   ⟨far2 (by simp only; omega) (G6.out.1.cell hM0 m4), far2 (by simp only; omega) (G6.out.1.cell hN0 m6), far2 (by simp only; omega) (G6.out.1.cell hN1 m6), far2 (by simp only; omega) (G6.out.1.cell HBS.out m7)⟩,
   ((G6.out.1.aw HRE.out m3).other ⟨w.heap.size + 1 + 1 + 1, 0, none⟩ _ (by simp only; omega)).other ⟨w.heap.size + 1 + 1 + 1, 1, none⟩ _ (by simp only; omega),
   ((HBN.out.trans (Bn.of_but G6.out.1 hb7)).new (p := ⟨w.heap.size + 1 + 1 + 1, 0, none⟩) (by simp only; omega) _).new (p := ⟨w.heap.size + 1 + 1 + 1, 1, none⟩) (by simp only; omega) _⟩
 case done =>
  rintro D xs W hD rfl ⟨⟨s, en, hs, hS, hCk, hgood⟩, ⟨hM0, hN0, hN1, hBsc⟩, hRes, hBn⟩ hK
  obtain ⟨g1, g2⟩ := hgood _ _ rfl
  subst g1
  rw [k'iw] at g2
  obtain ⟨f0, f1⟩ := hS.cell 0 (by simp)
  obtain ⟨r0, r1⟩ := hRes.cell 0 (by simp)
  have r2 := hRes.free 0
  have r3 := hRes.free 1
  simp only [Nat.zero_mul, Nat.zero_add, List.getElem_cons_zero] at f0 f1 r0 r1
  rw [g2] at f0 f1
  have HCK := i' hCk
  have HBN := i' hBn
  have HKD := i' hK
  have HR := i' hRes
  clear hgood hs hS hCk hBn g2 hM0 hN0 hN1 hBsc hRes
  generalize Pl.ev L num = res at *
  gi_wp2
  have HR8 := HR.out.set 0 (by simp) res
  simp only [Nat.zero_mul, Nat.zero_add, List.set_cons_zero] at HR8
  have hK8 : ((W.setCell ⟨w.heap.size + 1 + 1, 0, none⟩ (.bool (zb res))).setCell ⟨w.heap.size + 1 + 1, 1, none⟩ (.string (zs res))).heap[D]? = some (.deferred (some [])) :=
   ((KeepsOthers.setCell _ _ _).trans (KeepsOthers.setCell _ _ _)).same D _ HKD.out rfl
  refine ⟨by simp, .inl ⟨_, _, rfl, run_takeDeferred hK8, ?_⟩⟩
  have hgr := grownBy_putObj' ((W.setCell ⟨w.heap.size + 1 + 1, 0, none⟩ (.bool (zb res))).setCell ⟨w.heap.size + 1 + 1, 1, none⟩ (.string (zs res))) D (.deferred none)
  have hA9 := k'f0 HR8 hgr (fun r e => by cases e; exact ⟨_, hK8, rfl⟩)
  obtain ⟨y0, y1⟩ := hA9.cell 0 (by simp)
  simp only [Nat.zero_mul, Nat.zero_add, List.getElem_cons_zero] at y0 y1
  have h6 := HZ2.out
  refine ⟨Z res, (by simp [results, Tryz.results100, go_sem, y0, y1]), rfl, ?_⟩
  exact ((((HBN.out.below HC.out HCK.out).setCell (p := ⟨w.heap.size + 1 + 1, 0, none⟩) (by simp only; omega) _).setCell (p := ⟨w.heap.size + 1 + 1, 1, none⟩) (by simp only; omega) _)).trans (belowK_b (w := w) (Nat.le_refl _) _ D _ _ (by omega) hK8 rfl rfl)
 case stop =>
  rintro D c2 pre W _ _ h _
  exact h.elim
end Go.Proofs.YtepddegphdlbeaaGreat
namespace Go.Proofs.YtepddegphdlbeaaGreat
open Go.RowKit
abbrev R (num den : Int) : Value := rat (zb num) (zs num) (zb den) (zs den)
def Rb (w : World) (g : Nat) (num den : Int) : Prop := w.cell? ⟨g, 0, none⟩ = some (.bool (zb num)) ∧ w.cell? ⟨g, 1, none⟩ = some (.string (zs num)) ∧ w.cell? ⟨g, 2, none⟩ = some (.bool (zb den)) ∧ w.cell? ⟨g, 3, none⟩ = some (.string (zs den))
theorem Rb.below {w w' : World} {g : Nat} {num den : Int} (h : Rb w g num den) (hb : Below w.heap.size w w') : Rb w' g num den := ⟨keep1 hb h.1, keep1 hb h.2.1, keep1 hb h.2.2.1, keep1 hb h.2.2.2⟩
theorem Rb.alloc {w : World} {g : Nat} {num den : Int} (h : Rb w g num den) (o : Obj) : Rb (w.alloc o) g num den := h.below ((Below.refl _ _).alloc (Nat.le_refl _) o)
theorem Rb.made (w : World) (num den : Int) : Rb (w.alloc (.cells #[.bool (zb num), .string (zs num), .bool (zb den), .string (zs den)] 59)) w.heap.size num den := ⟨by simp [go_sem], by simp [go_sem], by simp [go_sem], by simp [go_sem]⟩
theorem k'j2 (p : List Int) (x den : Int) (M X : Nat) (hM : Pl.mx p ≤ M) (hx : x.natAbs ≤ X) (hd : den.natAbs ≤ X) :
 ∀ k, k < p.length → (hor (Pl.lev p den) x k * x).natAbs ≤ k * (M * X ^ k) ∧ (hor (Pl.lev p den) x (k + 1)).natAbs ≤ (k + 1) * (M * X ^ k) := by
 intro k
 induction k with
 | zero =>
  intro hk
  refine ⟨by rw [k'iu]; simp, ?_⟩
  rw [k'iv _ _ _ (by rw [Pl.lev_length]; exact hk), k'iu, Pl.cf_lev, Pl.lev_length]
  have h1 := Pl.mx_cf p (p.length - 1)
  simp only [Nat.sub_zero, Nat.sub_self, Int.pow_zero, Int.mul_one, Int.zero_mul, Int.zero_add, Nat.pow_zero, Nat.mul_one, Nat.zero_add, Nat.one_mul]
  omega
 | succ k ih =>
  intro hk
  have h1 := (ih (by omega)).2
  have h2 : (hor (Pl.lev p den) x (k + 1) * x).natAbs ≤ (k + 1) * (M * X ^ (k + 1)) := by
   rw [Int.natAbs_mul]
   refine Nat.le_trans (Nat.mul_le_mul h1 hx) ?_
   rw [Nat.pow_succ, Nat.mul_assoc, Nat.mul_assoc]
   exact Nat.le_refl _
  refine ⟨h2, ?_⟩
  rw [k'iv _ _ _ (by rw [Pl.lev_length]; exact hk), Pl.cf_lev, Pl.lev_length]
  have h3 : (Pl.cf p (p.length - 1 - (k + 1)) * den ^ (p.length - 1 - (p.length - 1 - (k + 1)))).natAbs ≤ M * X ^ (k + 1) := by
   rw [show p.length - 1 - (p.length - 1 - (k + 1)) = k + 1 by omega, Int.natAbs_mul, Int.natAbs_pow]
   exact Nat.mul_le_mul (Nat.le_trans (Pl.mx_cf p _) hM) (Nat.pow_le_pow_left hd _)
  have h4 := Int.natAbs_add_le (hor (Pl.lev p den) x (k + 1) * x) (Pl.cf p (p.length - 1 - (k + 1)) * den ^ (p.length - 1 - (p.length - 1 - (k + 1))))
  have h5 : (k + 1 + 1) * (M * X ^ (k + 1)) = (k + 1) * (M * X ^ (k + 1)) + M * X ^ (k + 1) := by rw [Nat.succ_mul]
  omega
theorem k'j3 (num den : Int) (hn : num.natAbs < Top) (hd : den.natAbs < Top) : num.natAbs < 2 ^ (glb [(zb num, zs num), (zb den, zs den)]).toNat ∧ den.natAbs < 2 ^ (glb [(zb num, zs num), (zb den, zs den)]).toNat := by
 have h1 := k'fw (p := [num, den]) (by intro a ha; simp at ha; rcases ha with rfl | rfl <;> assumption)
 have h2 := Pl.mx_mem (p := [num, den]) (a := num) (by simp)
 have h3 := Pl.mx_mem (p := [num, den]) (a := den) (by simp)
 exact ⟨Nat.lt_of_le_of_lt h2 h1, Nat.lt_of_le_of_lt h3 h1⟩
theorem k'j4 {a : Nat} (h : a ≤ 65536) : 2 ^ a ≤ Top := by
 unfold Top
 exact Nat.pow_le_pow_right (by decide) (by rw [k'3m]; exact h)
theorem k'j5 {p : List Int} (hp : VP p) (num den : Int) (hn : num.natAbs < Top) (hd : den.natAbs < Top) (ht : tlg (zl p) (glb [(zb num, zs num), (zb den, zs den)]) = false) :
 (∀ j, j ≤ p.length - 1 → (den ^ j).natAbs < Top) ∧ (∀ i j, j ≤ p.length - 1 → (Pl.cf p i * den ^ j).natAbs < Top) ∧ (∀ k, k ≤ p.length → (hor (Pl.lev p den) num k).natAbs < Top) ∧ (∀ k, k < p.length → (hor (Pl.lev p den) num k * num).natAbs < Top) := by
 obtain ⟨a1, a2⟩ := k'j3 num den hn hd
 have a3 := k'fw hp.top
 have g1 := k'fb (zl p)
 have g2 := k'fb [(zb num, zs num), (zb den, zs den)]
 unfold tlg at ht
 rw [decide_eq_false_iff_not, k'cc] at ht
 obtain ⟨gp, hgp⟩ : ∃ n : Nat, glb (zl p) = n := ⟨(glb (zl p)).toNat, by omega⟩
 obtain ⟨g, hg⟩ : ∃ n : Nat, glb [(zb num, zs num), (zb den, zs den)] = n := ⟨(glb [(zb num, zs num), (zb den, zs den)]).toNat, by omega⟩
 rw [hgp, hg] at ht
 rw [hgp, Int.toNat_natCast] at a3
 rw [hg, Int.toNat_natCast] at a1 a2
 have hl := hp.len
 have h0 : 0 < Top := Nat.lt_of_lt_of_le W0 W_Top
 have h1T : 1 < Top := Nat.lt_of_lt_of_le (by decide) (k'j4 (a := 1) (by omega))
 rcases Nat.eq_zero_or_pos p.length with hz | hz
 ·have e := List.eq_nil_of_length_eq_zero hz
  subst e
  refine ⟨fun j hj => ?_, fun i j hj => ?_, fun k hk => ?_, fun k hk => absurd hk (by simp)⟩
  ·obtain rfl : j = 0 := by simpa using hj
   simpa using h1T
  ·rw [Pl.cf_ge (by simp)]; simpa using h0
  ·obtain rfl : k = 0 := by simpa using hk
   rw [k'iu]; simpa using h0
 ·obtain ⟨n, hn1⟩ : ∃ n, p.length = n + 1 := ⟨p.length - 1, by omega⟩
  have hb : gp + n * g + 8 ≤ 65536 := by
   have h3 : ¬ ((gp : Int) + ((p.length : Int) - 1) * (g : Int) + 8 > 65536) := fun h => ht ⟨hz, h⟩
   have h4 : ((n * g : Nat) : Int) = ((p.length : Int) - 1) * (g : Int) := by rw [hn1]; push_cast; rw [Int.add_sub_cancel]
   omega
  have hpw : ∀ j, j ≤ n → (2 ^ g) ^ j ≤ 2 ^ (n * g) := fun j hj => by
   rw [← Nat.pow_mul]
   exact Nat.pow_le_pow_right (by decide) (by rw [Nat.mul_comm g]; exact Nat.mul_le_mul_right _ hj)
  have hMX : ∀ j, j ≤ n → 2 ^ gp * (2 ^ g) ^ j ≤ 2 ^ (gp + n * g) := fun j hj => by
   rw [Nat.pow_add]; exact Nat.mul_le_mul_left _ (hpw j hj)
  have hbig : 25 * 2 ^ (gp + n * g) < Top := by
   refine Nat.lt_of_lt_of_le ?_ (k'j4 hb)
   rw [Nat.pow_add _ _ 8]
   have := Nat.pow_pos (a := 2) (n := gp + n * g) (by decide)
   omega
  have hone : 1 ≤ 2 ^ gp := Nat.pow_pos (by decide)
  have hh := k'j2 p num den (2 ^ gp) (2 ^ g) (by omega) (by omega) (by omega)
  refine ⟨fun j hj => ?_, fun i j hj => ?_, fun k hk => ?_, fun k hk => ?_⟩
  ·rw [Int.natAbs_pow]
   have h1 := Nat.pow_le_pow_left (Nat.le_of_lt a2) j
   have h2 := hMX j (by omega)
   have h3 : (2 ^ g) ^ j ≤ 2 ^ gp * (2 ^ g) ^ j := Nat.le_mul_of_pos_left _ hone
   omega
  ·rw [Int.natAbs_mul, Int.natAbs_pow]
   have h1 := Nat.mul_le_mul (Nat.le_trans (Pl.mx_cf p i) (Nat.le_of_lt a3)) (Nat.pow_le_pow_left (Nat.le_of_lt a2) j)
   have h2 := hMX j (by omega)
   omega
  ·rcases Nat.eq_zero_or_pos k with h5 | h5
   ·subst h5; rw [k'iu]; simpa using h0
   ·obtain ⟨m, rfl⟩ : ∃ m, k = m + 1 := ⟨k - 1, by omega⟩
    have h1 := (hh m (by omega)).2
    have h2 := Nat.mul_le_mul (show m + 1 ≤ 25 by omega) (hMX m (by omega))
    omega
  ·have h1 := (hh k hk).1
   have h2 := Nat.mul_le_mul (show k ≤ 25 by omega) (hMX k (by omega))
   omega
theorem k'j6 {p : List Int} {num den : Int} (hp : VP p) (hn : num.natAbs < Top) (hd : den.natAbs < Top) (h : ckv (zl p) (zb num) (zs num) (zb den) (zs den) = 0) : tlg (zl p) (glb [(zb num, zs num), (zb den, zs den)]) = false := by
 unfold ckv at h
 rw [hp.ok] at h
 split at h
 ·split at h
  ·omega
  ·next h1 => simpa using h1
 ·omega
def evl (p : List Int) (num den : Int) : Int := Pl.ev (Pl.lev p den) num
theorem k'j7 {p : List Int} {v : Value} {num den : Int} (c : Nat) (w : World) (h : Rp w v p) (hp : VP p) (hn : num.natAbs < Top) (hd : den.natAbs < Top) (ht : ckv (zl p) (zb num) (zs num) (zb den) (zs den) = 0) (hc : Ck w c 0) :
 Calls Tryz.prog 100 #[.pointer (some ⟨c, 0, none⟩), v, .agg #[.bool (zb num), .string (zs num), .bool (zb den), .string (zs den)]] w (Ret (Z (evl p num den)) w) := by
 obtain ⟨f1, f2, f3, f4⟩ := k'j5 hp num den hn hd (k'j6 hp hn hd ht)
 exact k'iz c p v num den 0 w h hc (by have := hp.len; omega) hp.top hd hn f1 f2 f3 f4
theorem k'j8 (p : List Int) (v : Value) (num den : Int) (w : World) (h : Rp w v p) (hp : VP p) (hn : num.natAbs < Top) (hd : den.natAbs < Top) (ht : ckv (zl p) (zb num) (zs num) (zb den) (zs den) = 0) :
 Calls Tryz.prog 42 #[v, R num den] w (Ret (.tuple #[Z (evl p num den), .int .i64 0]) w) := by
 obtain ⟨w0, hw0⟩ : ∃ w0 : World, w0 = (w.alloc (.cells #[.bool (zb num), .string (zs num), .bool (zb den), .string (zs den)] 59)).alloc (.cells #[.bool false, .string ⟨#[]⟩] 44) := ⟨_, rfl⟩
 have HA0 : Hid (Aw w0 (w.heap.size + 1) [0]) := by
  show Aw _ _ _
  rw [hw0]
  have h5 := Aw.made (w.alloc (.cells #[.bool (zb num), .string (zs num), .bool (zb den), .string (zs den)] 59)) [0]
  rw [World.size_alloc] at h5
  exact h5
 have HR0 : Hid (Rb w0 w.heap.size num den) := by show Rb _ _ _ _; rw [hw0]; exact (Rb.made w num den).alloc _
 have B0 : Hid (Below w.heap.size w w0) := by show Below _ _ _; rw [hw0]; exact ((Below.refl _ _).alloc (Nat.le_refl _) _).alloc (by simp) _
 have HD := i' (k'ir (zl p) v (zb num) (zb den) (zs num) (zs den) w0 (h.below B0.out) (k'd7 hp.top) (Nat.le_trans (k'5t hn) (by decide)) (Nat.le_trans (k'5t hd) (by decide)))
 rw [ht] at HD
 have HV := i' (fun c w' (hb : Below w.heap.size w w') hck => k'j7 (num := num) (den := den) c w' (h.below hb) hp hn hd ht hck)
 generalize evl p num den = r at *
 unfold R
 unfold rat at HD ⊢
 clear h hp hn hd ht
 obtain ⟨c0, c1, c2, c3⟩ := HR0.out
 go_enter Tryz.func42, Tryz.ntmps42
 go_wp2_with fail
 rw [← hw0]
 clear hw0
 refine HD.out.mono ?_
 rintro en w1 ⟨rfl, b1⟩
 have HA1 := i' (HA0.out.below b1)
 have HR1 := i' (HR0.out.below b1)
 have b1 := chain B0.out b1
 obtain ⟨w2, hw2⟩ : ∃ w2 : World, w2 = w1.alloc (.cells #[.int .i64 0] 96) := ⟨_, rfl⟩
 have HK : Hid (Ck w2 w1.heap.size 0) := by show Ck _ _ _; rw [hw2]; exact heap_alloc_new w1 _
 have B2 : Hid (Below w.heap.size w w2) := by show Below _ _ _; rw [hw2]; exact b1.alloc b1.size _
 have HA2 : Hid (Aw w2 (w.heap.size + 1) [0]) := by rw [hw2]; exact HA1.out.alloc _
 have HR2 : Hid (Rb w2 w.heap.size num den) := by rw [hw2]; exact HR1.out.alloc _
 clear b1 c0 c1 c2 c3
 go_upto_region 5 with (fail)
 rw [← hw2]
 clear hw2
 obtain ⟨c0, c1, c2, c3⟩ := HR2.out
 go_wp2_with fail
 clear c0 c1 c2 c3
 refine (HV.out _ _ B2.out HK.out).mono ?_
 rintro en w3 ⟨rfl, b3⟩
 have HK3 := i' (HK.out.below b3)
 have B3 := i' (chain B2.out b3)
 have HA3 := i' (HA2.out.below b3)
 clear b3
 unfold Z
 go_wp2_with fail
 refine (k'e0 _ _ _ _ HK3.out).mono ?_
 rintro en w4 ⟨rfl, b4⟩
 have B4 := i' (chain B3.out b4)
 have HA4 := i' (HA3.out.below b4)
 clear b4
 obtain ⟨e0, e1⟩ := HA4.out.cell 0 (by simp)
 simp only [Nat.zero_mul, Nat.zero_add, List.getElem_cons_zero] at e0 e1
 have f0 := HA4.out.free 0
 have f1 := HA4.out.free 1
 have HB8 := i' ((B4.out.setCell (p := ⟨w.heap.size + 1, 0, none⟩) (by simp) (.bool (zb r))).setCell (p := ⟨w.heap.size + 1, 1, none⟩) (by simp) (.string (zs r)))
 go_wp2
 exact bodyPost_ret (v := .tuple #[.agg #[.bool (zb r), .string (zs r)], .int .i64 0]) (by simp [results, Tryz.results42, go_sem, e0, e1]) rfl ⟨rfl, HB8.out⟩
theorem k'j9 (p : List Int) (v : Value) (num den : Int) (w : World) (h : Rp w v p) (hp : VP p) (hn : num.natAbs < Top) (hd : den.natAbs < Top) (ht : ckv (zl p) (zb num) (zs num) (zb den) (zs den) = 0) (hr : (evl p num den).natAbs < Top) :
 Calls Tryz.prog 44 #[v, R num den] w (Ret (.tuple #[.int .i64 (Int.sign (evl p num den)), .int .i64 0]) w) := by
 obtain ⟨w0, hw0⟩ : ∃ w0 : World, w0 = w.alloc (.cells #[.bool (zb num), .string (zs num), .bool (zb den), .string (zs den)] 59) := ⟨_, rfl⟩
 have HR0 : Hid (Rb w0 w.heap.size num den) := by show Rb _ _ _ _; rw [hw0]; exact Rb.made w num den
 have B0 : Hid (Below w.heap.size w w0) := by show Below _ _ _; rw [hw0]; exact (Below.refl _ _).alloc (Nat.le_refl _) _
 have HD := i' (k'ir (zl p) v (zb num) (zb den) (zs num) (zs den) w0 (h.below B0.out) (k'd7 hp.top) (Nat.le_trans (k'5t hn) (by decide)) (Nat.le_trans (k'5t hd) (by decide)))
 rw [ht] at HD
 have HV := i' (fun c w' (hb : Below w.heap.size w w') hck => k'j7 (num := num) (den := den) c w' (h.below hb) hp hn hd ht hck)
 have HSg := i' (fun w => k'4k (zb (evl p num den)) (zs (evl p num den)) w (Nat.le_trans (k'5t hr) (by decide)))
 rw [sgV_z hr] at HSg
 generalize evl p num den = r at *
 generalize Int.sign r = sg at *
 unfold R
 unfold rat at HD ⊢
 clear h hp hn hd ht hr
 obtain ⟨c0, c1, c2, c3⟩ := HR0.out
 go_enter Tryz.func44, Tryz.ntmps44
 go_wp2_with fail
 rw [← hw0]
 clear hw0
 refine HD.out.mono ?_
 rintro en w1 ⟨rfl, b1⟩
 have HR1 := i' (HR0.out.below b1)
 have b1 := chain B0.out b1
 obtain ⟨w2, hw2⟩ : ∃ w2 : World, w2 = w1.alloc (.cells #[.int .i64 0] 96) := ⟨_, rfl⟩
 have HK : Hid (Ck w2 w1.heap.size 0) := by show Ck _ _ _; rw [hw2]; exact heap_alloc_new w1 _
 have B2 : Hid (Below w.heap.size w w2) := by show Below _ _ _; rw [hw2]; exact b1.alloc b1.size _
 have HR2 : Hid (Rb w2 w.heap.size num den) := by rw [hw2]; exact HR1.out.alloc _
 clear b1 c0 c1 c2 c3
 go_upto_region 5 with (fail)
 rw [← hw2]
 clear hw2
 obtain ⟨c0, c1, c2, c3⟩ := HR2.out
 go_wp2_with fail
 clear c0 c1 c2 c3
 refine (HV.out _ _ B2.out HK.out).mono ?_
 rintro en w3 ⟨rfl, b3⟩
 have HK3 := i' (HK.out.below b3)
 have B3 := i' (chain B2.out b3)
 clear b3
 unfold Z
 go_wp2_with fail
 refine (HSg.out _).mono ?_
 rintro en w4 ⟨rfl, b4⟩
 have HK4 := i' (HK3.out.below b4)
 have B4 := i' (chain B3.out b4)
 clear b4
 go_wp2_with fail
 refine (k'e1 _ _ _ HK4.out).mono ?_
 rintro en w5 ⟨rfl, b5⟩
 have B5 := i' (chain B4.out b5)
 clear b5
 go_wp2
 go_ret2
 exact ⟨rfl, B5.out⟩
def CutS (x1 x2 s1 s2 : Value) (B : Nat) (wb wx : World) (g7 g8 : Nat) : Prop := (B ≤ g7 ∧ B ≤ g8) ∧ ZC x1 s1 wx g7 ∧ ZC x2 s2 wx g8 ∧ Below B wb wx
section
variable {x1 x2 e1 e2 x0 y0 x0' y0' : Value} {B : Nat} {wb w3 : World} {t : TypeId} {g g' : Nat}
theorem CutS.s1 (b : Below B wb w3) (hB : B ≤ w3.heap.size) : CutS x1 x2 e1 e2 B wb ((w3.alloc (.cells #[x1, e1] t)).alloc (.cells #[x2, e2] t)) w3.heap.size (w3.heap.size + 1) :=
 ⟨⟨hB, by omega⟩, (ZC.new rfl).alloc _, ZC.new (by simp), (b.alloc hB _).alloc (by simp; omega) _⟩
theorem CutS.s2 (b : Below B wb w3) (hB : B ≤ w3.heap.size) : CutS x1 x2 e1 e2 B wb ((w3.alloc (.cells #[x2, e2] t)).alloc (.cells #[x1, e1] t)) (w3.heap.size + 1) w3.heap.size :=
 ⟨⟨by omega, hB⟩, ZC.new (by simp), (ZC.new rfl).alloc _, (b.alloc hB _).alloc (by simp; omega) _⟩
theorem CutS.s3 (z : ZC x0 y0 w3 g) (hg : B ≤ g) (b : Below B wb w3) (hB : B ≤ w3.heap.size) : CutS x1 x2 e1 e2 B wb (((w3.setCell ⟨g, 0, none⟩ x1).setCell ⟨g, 1, none⟩ e1).alloc (.cells #[x2, e2] t)) g w3.heap.size :=
 ⟨⟨hg, hB⟩, z.set.alloc _, ZC.new (by simp), (k'5c b hg _ _).alloc (by simpa using hB) _⟩
theorem CutS.s4 (z : ZC x0 y0 w3 g) (hg : B ≤ g) (b : Below B wb w3) (hB : B ≤ w3.heap.size) : CutS x1 x2 e1 e2 B wb (((w3.setCell ⟨g, 0, none⟩ x2).setCell ⟨g, 1, none⟩ e2).alloc (.cells #[x1, e1] t)) w3.heap.size g :=
 ⟨⟨hB, hg⟩, ZC.new (by simp), z.set.alloc _, (k'5c b hg _ _).alloc (by simpa using hB) _⟩
theorem CutS.s5 (z : ZC x0 y0 w3 g) (hg : B ≤ g) (z' : ZC x0' y0' w3 g') (hg' : B ≤ g') (hn : ¬ g = g') (b : Below B wb w3) :
 CutS x1 x2 e1 e2 B wb ((((w3.setCell ⟨g, 0, none⟩ x1).setCell ⟨g, 1, none⟩ e1).setCell ⟨g', 0, none⟩ x2).setCell ⟨g', 1, none⟩ e2) g g' :=
 have zz := z'.other (u := x1) (v := e1) (fun e => hn e.symm)
 ⟨⟨hg, hg'⟩, z.set.other hn, zz.set, k'5c (k'5c b hg _ _) hg' _ _⟩
end
theorem k'ja (x y : Int) (hx : x.natAbs < Top) (hy : y.natAbs < Top) (h0 : y ≠ 0) (w : World) : Calls Tryz.prog 102 #[Z x, Z y] w (Ret (.tuple #[R (x / lg x y) (y / lg x y), .int .i64 0]) w) := by
 have h := k'5j (zb x) (zb y) (zs x) (zs y) _ _ w (k'hp (bv (zs x)) (bv (zs y)) (by rw [bv_zs]; exact hx) (by rw [bv_zs]; exact hy) (by rw [bv_zs]; omega)) (k'5s hx) (k'5s hy) (by rw [bv_zs]; omega)
 rw [bv_zs, bv_zs] at h
 obtain ⟨⟨e1, e2⟩, e3, e4⟩ := low_z x y h0
 unfold RPost at h
 rw [e1, e2, e3, e4] at h
 exact h
theorem k'jb (p : List Int) (v : Value) (num den : Int) (w : World) (h : Rp w v p) (hp : VP p) (hn : num.natAbs < Top) (hd : den.natAbs < Top) (ht : ckv (zl p) (zb num) (zs num) (zb den) (zs den) = 0) (hd0 : den ≠ 0) (hr : (evl p num den).natAbs < Top) (hpw : ∀ j, j ≤ p.length - 1 → (den ^ j).natAbs < Top) :
 Calls Tryz.prog 43 #[v, R num den] w (Ret (.tuple #[R (evl p num den / lg (evl p num den) (den ^ (p.length - 1))) (den ^ (p.length - 1) / lg (evl p num den) (den ^ (p.length - 1))), .int .i64 0]) w) := by
 obtain ⟨w0, hw0⟩ : ∃ w0 : World, w0 = (w.alloc (.cells #[.bool (zb num), .string (zs num), .bool (zb den), .string (zs den)] 59)).alloc (.cells #[.bool false, .string ⟨#[]⟩, .bool false, .string ⟨#[]⟩] 59) := ⟨_, rfl⟩
 have HR0 : Hid (Rb w0 w.heap.size num den) := by show Rb _ _ _ _; rw [hw0]; exact (Rb.made w num den).alloc _
 have I4 : Hid (ZC4 (.bool false) (.string ⟨#[]⟩) (.bool false) (.string ⟨#[]⟩) w0 (w.heap.size + 1)) := by
  show ZC4 _ _ _ _ _ _
  rw [hw0]
  have := ZC4.made0 (x := .bool false) (y := .string ⟨#[]⟩) (z := .bool false) (u := .string ⟨#[]⟩) (t := 59) (w.alloc (.cells #[.bool (zb num), .string (zs num), .bool (zb den), .string (zs den)] 59))
  simpa using this
 have B0 : Hid (Below w.heap.size w w0) := by show Below _ _ _; rw [hw0]; exact ((Below.refl _ _).alloc (Nat.le_refl _) _).alloc (by simp) _
 have HD := i' (k'ir (zl p) v (zb num) (zb den) (zs num) (zs den) w0 (h.below B0.out) (k'd7 hp.top) (Nat.le_trans (k'5t hn) (by decide)) (Nat.le_trans (k'5t hd) (by decide)))
 rw [ht] at HD
 have HV := i' (fun c w' (hb : Below w.heap.size w w') hck => k'j7 (num := num) (den := den) c w' (h.below hb) hp hn hd ht hck)
 have hl := hp.len
 have HDg := i' (fun w' (hb : Below w.heap.size w w') => k'da (zl p) v w' (h.below hb))
 rw [k'cc] at HDg
 have HPw := i' (fun c w' (hck : Ck w' c 0) => k'it c den ((p.length : Int) - 1) (p.length - 1) 0 w' hck hd (by omega) (by omega) hpw)
 have HRt := i' (fun w => k'ja (evl p num den) (den ^ (p.length - 1)) hr (hpw _ (Nat.le_refl _)) (Int.pow_ne_zero hd0) w)
 generalize evl p num den / lg (evl p num den) (den ^ (p.length - 1)) = qn at *
 generalize den ^ (p.length - 1) / lg (evl p num den) (den ^ (p.length - 1)) = qd at *
 generalize evl p num den = rn at *
 generalize den ^ (p.length - 1) = rd at *
 obtain ⟨a0, b0, o0, c0', rfl, -⟩ := h.open_
 generalize p.length = n1 at *
 unfold Z at HV HPw HRt
 unfold R at HRt ⊢
 unfold rat at HD HRt ⊢
 unfold Rb at HR0
 generalize zb num = an at *
 generalize zs num = sn at *
 generalize zb den = ad at *
 generalize zs den = sd at *
 generalize zb rn = vn at *
 generalize zs rn = tn at *
 generalize zb rd = vd at *
 generalize zs rd = td at *
 clear h hp hn hd ht hd0 hr hpw
 obtain ⟨c0, c1, c2, c3⟩ := HR0.out
 go_enter Tryz.func43, Tryz.ntmps43
 go_wp2_with fail
 rw [← hw0]
 clear hw0
 refine HD.out.mono ?_
 rintro en w1 ⟨rfl, b1⟩
 have B1 := i' (chain B0.out b1)
 have E1 := i' b1
 obtain ⟨y0, hy0⟩ : ∃ y0 : World, y0 = w1.alloc (.cells #[.int .i64 0] 96) := ⟨_, rfl⟩
 have HK : Hid (Ck y0 w1.heap.size 0) := by show Ck _ _ _; rw [hy0]; exact heap_alloc_new w1 _
 have HB : Hid (Below w.heap.size w y0) := by show Below _ _ _; rw [hy0]; exact B1.out.alloc B1.out.size _
 have E2 : Hid (Below w0.heap.size w0 y0) := by rw [hy0]; exact E1.out.alloc E1.out.size _
 clear b1 c0 c1 c2 c3
 go_upto_region 5 with (fail)
 rw [← hy0]
 clear hy0
 have c0 := keep1 E2.out HR0.out.1
 have c1 := keep1 E2.out HR0.out.2.1
 have c2 := keep1 E2.out HR0.out.2.2.1
 have c3 := keep1 E2.out HR0.out.2.2.2
 have hgw : w.heap.size < y0.heap.size := World.block_lt_of_cell? y0 _ c0
 have hgw2 : ¬ w.heap.size = y0.heap.size := Nat.ne_of_lt hgw
 have hgw3 : ¬ w.heap.size = y0.heap.size + 1 := Nat.ne_of_lt (Nat.lt_succ_of_lt hgw)
 have hgw4 : ¬ y0.heap.size = w.heap.size := fun e => hgw2 e.symm
 have hgw5 : ¬ y0.heap.size + 1 = w.heap.size := fun e => hgw3 e.symm
 have HV := i' (fun w' (hb : Below y0.heap.size y0 w') => HV.out w1.heap.size w' (chain HB.out hb) (HK.out.below hb))
 have HDg := i' (fun w' (hb : Below y0.heap.size y0 w') => HDg.out w' (chain HB.out hb))
 have HPw := i' (fun w' (hb : Below y0.heap.size y0 w') => HPw.out w1.heap.size w' (HK.out.below hb))
 go_cut [8, 9] (fun sa sb wx => ∃ (ga gb : Nat), sa = .pointer (some ⟨ga, 0, none⟩) ∧ sb = .pointer (some ⟨gb, 0, none⟩) ∧ Hid (CutS (.bool vn) (.bool vd) (.string tn) (.string td) y0.heap.size y0 wx ga gb))
 case first =>
  rename_i J0 K0 hRJ hMK
  go_region_held3 (fun W' => W'.cell? ⟨w.heap.size, 0, none⟩ = some (.bool an) ∧ W'.cell? ⟨w.heap.size, 1, none⟩ = some (.string sn) ∧ W'.cell? ⟨w.heap.size, 2, none⟩ = some (.bool ad) ∧ W'.cell? ⟨w.heap.size, 3, none⟩ = some (.string sd)) (go_keep)
   (first
    | (go_at_call 100; (with_reducible refine (HV.out _ (by first | exact Below.refl _ _ | exact (Below.refl _ _).drew | exact k'56 _ _ | exact k'57 _ _ _ | exact (k'56 _ _).drew | exact (k'57 _ _ _).drew)).mono ?_); rintro e y1 ⟨rfl, b9⟩; (try (have b9 := k'5b b9)); have dd : Below y0.heap.size y0 y1 := chain (by first | exact Below.refl _ _ | exact (Below.refl _ _).drew | exact k'56 _ _ | exact k'57 _ _ _ | exact (k'56 _ _).drew | exact (k'57 _ _ _).drew) b9; have D1 : Below y0.heap.size y0 y1 := dd; have p0 := keep1 D1 c0; have p1 := keep1 D1 c1; have p2 := keep1 D1 c2; have p3 := keep1 D1 c3; have n1a : ¬ w.heap.size = y1.heap.size := Nat.ne_of_lt (Nat.lt_of_lt_of_le hgw D1.size); have n1b : ¬ w.heap.size = y1.heap.size + 1 := Nat.ne_of_lt (Nat.lt_succ_of_lt (Nat.lt_of_lt_of_le hgw D1.size)); have n1c : ¬ y1.heap.size = w.heap.size := fun e => n1a e.symm; have n1d : ¬ y1.heap.size + 1 = w.heap.size := fun e => n1b e.symm; (try (have A0 := i' (ZC.made (g := y0.heap.size) rfl b9); obtain ⟨A0a, A0b, A0c, A0d⟩ := A0.out)); (try (have A0 := i' (ZC.made1 (g := y0.heap.size) rfl b9); have B0 := i' (ZC.made (g := y0.heap.size + 1) (by simp) b9); obtain ⟨A0a, A0b, A0c, A0d⟩ := A0.out; obtain ⟨B0a, B0b, B0c, B0d⟩ := B0.out)); (try (have L01 := i' (k'58 (g := y0.heap.size) rfl b9); obtain ⟨l01x, l01y, l01z⟩ := L01.out)); (try (have MM := i' (k'59 (g := y0.heap.size) rfl b9); have L01 := i' MM.out.1; have M01 := i' MM.out.2; clear MM; obtain ⟨l01x, l01y, l01z⟩ := L01.out; obtain ⟨m01x, m01y, m01z⟩ := M01.out)); clear b9 dd)
    | (go_at_call 67; (with_reducible refine (HDg.out _ (chain D1 (by first | exact Below.refl _ _ | exact (Below.refl _ _).drew | exact k'56 _ _ | exact k'57 _ _ _ | exact (k'56 _ _).drew | exact (k'57 _ _ _).drew))).mono ?_); rintro e y2 ⟨rfl, b9⟩; (try (have b9 := k'5b b9)); have dd : Below y1.heap.size y1 y2 := chain (by first | exact Below.refl _ _ | exact (Below.refl _ _).drew | exact k'56 _ _ | exact k'57 _ _ _ | exact (k'56 _ _).drew | exact (k'57 _ _ _).drew) b9; have D2 : Below y0.heap.size y0 y2 := chain D1 dd; have p0 := keep1 D2 c0; have p1 := keep1 D2 c1; have p2 := keep1 D2 c2; have p3 := keep1 D2 c3; have n2a : ¬ w.heap.size = y2.heap.size := Nat.ne_of_lt (Nat.lt_of_lt_of_le hgw D2.size); have n2b : ¬ w.heap.size = y2.heap.size + 1 := Nat.ne_of_lt (Nat.lt_succ_of_lt (Nat.lt_of_lt_of_le hgw D2.size)); have n2c : ¬ y2.heap.size = w.heap.size := fun e => n2a e.symm; have n2d : ¬ y2.heap.size + 1 = w.heap.size := fun e => n2b e.symm; (try (have A1 := i' (ZC.made (g := y1.heap.size) rfl b9); obtain ⟨A1a, A1b, A1c, A1d⟩ := A1.out)); (try (have A1 := i' (ZC.made1 (g := y1.heap.size) rfl b9); have B1 := i' (ZC.made (g := y1.heap.size + 1) (by simp) b9); obtain ⟨A1a, A1b, A1c, A1d⟩ := A1.out; obtain ⟨B1a, B1b, B1c, B1d⟩ := B1.out)); (try (have A0 := i' (A0.out.next dd); obtain ⟨A0a, A0b, A0c, A0d⟩ := A0.out)); (try (have B0 := i' (B0.out.next dd); obtain ⟨B0a, B0b, B0c, B0d⟩ := B0.out)); (try (have L02 := i' (k'5a L01.out dd.size); obtain ⟨l02x, l02y, l02z⟩ := L02.out)); (try (have M02 := i' (k'5a M01.out dd.size); obtain ⟨m02x, m02y, m02z⟩ := M02.out)); (try (have L12 := i' (k'58 (g := y1.heap.size) rfl b9); obtain ⟨l12x, l12y, l12z⟩ := L12.out)); (try (have MM := i' (k'59 (g := y1.heap.size) rfl b9); have L12 := i' MM.out.1; have M12 := i' MM.out.2; clear MM; obtain ⟨l12x, l12y, l12z⟩ := L12.out; obtain ⟨m12x, m12y, m12z⟩ := M12.out)); clear b9 dd)
    | (go_at_call 101; (with_reducible refine (HPw.out _ (chain D2 (by first | exact Below.refl _ _ | exact (Below.refl _ _).drew | exact k'56 _ _ | exact k'57 _ _ _ | exact (k'56 _ _).drew | exact (k'57 _ _ _).drew))).mono ?_); rintro e y3 ⟨rfl, b9⟩; (try (have b9 := k'5b b9)); have dd : Below y2.heap.size y2 y3 := chain (by first | exact Below.refl _ _ | exact (Below.refl _ _).drew | exact k'56 _ _ | exact k'57 _ _ _ | exact (k'56 _ _).drew | exact (k'57 _ _ _).drew) b9; have D3 : Below y0.heap.size y0 y3 := chain D2 dd; have p0 := keep1 D3 c0; have p1 := keep1 D3 c1; have p2 := keep1 D3 c2; have p3 := keep1 D3 c3; have n3a : ¬ w.heap.size = y3.heap.size := Nat.ne_of_lt (Nat.lt_of_lt_of_le hgw D3.size); have n3b : ¬ w.heap.size = y3.heap.size + 1 := Nat.ne_of_lt (Nat.lt_succ_of_lt (Nat.lt_of_lt_of_le hgw D3.size)); have n3c : ¬ y3.heap.size = w.heap.size := fun e => n3a e.symm; have n3d : ¬ y3.heap.size + 1 = w.heap.size := fun e => n3b e.symm; (try (have A2 := i' (ZC.made (g := y2.heap.size) rfl b9); obtain ⟨A2a, A2b, A2c, A2d⟩ := A2.out)); (try (have A2 := i' (ZC.made1 (g := y2.heap.size) rfl b9); have B2 := i' (ZC.made (g := y2.heap.size + 1) (by simp) b9); obtain ⟨A2a, A2b, A2c, A2d⟩ := A2.out; obtain ⟨B2a, B2b, B2c, B2d⟩ := B2.out)); (try (have A0 := i' (A0.out.next dd); obtain ⟨A0a, A0b, A0c, A0d⟩ := A0.out)); (try (have B0 := i' (B0.out.next dd); obtain ⟨B0a, B0b, B0c, B0d⟩ := B0.out)); (try (have A1 := i' (A1.out.next dd); obtain ⟨A1a, A1b, A1c, A1d⟩ := A1.out)); (try (have B1 := i' (B1.out.next dd); obtain ⟨B1a, B1b, B1c, B1d⟩ := B1.out)); (try (have L03 := i' (k'5a L02.out dd.size); obtain ⟨l03x, l03y, l03z⟩ := L03.out)); (try (have M03 := i' (k'5a M02.out dd.size); obtain ⟨m03x, m03y, m03z⟩ := M03.out)); (try (have L13 := i' (k'5a L12.out dd.size); obtain ⟨l13x, l13y, l13z⟩ := L13.out)); (try (have M13 := i' (k'5a M12.out dd.size); obtain ⟨m13x, m13y, m13z⟩ := M13.out)); (try (have L23 := i' (k'58 (g := y2.heap.size) rfl b9); obtain ⟨l23x, l23y, l23z⟩ := L23.out)); (try (have MM := i' (k'59 (g := y2.heap.size) rfl b9); have L23 := i' MM.out.1; have M23 := i' MM.out.2; clear MM; obtain ⟨l23x, l23y, l23z⟩ := L23.out; obtain ⟨m23x, m23y, m23z⟩ := M23.out)); clear b9 dd)
    | fail)
  all_goals
   refine hMK _ _ (Met.intro (hRJ _ _ ?_))
   (repeat apply Exists.intro)
   refine ⟨?_, rfl⟩
   refine ⟨_, _, rfl, rfl, ?_⟩
   show CutS (.bool vn) (.bool vd) (.string tn) (.string td) y0.heap.size y0 _ _ _
   have sA0 : y0.heap.size ≤ y0.heap.size := Nat.le_refl _
   have sB0 : y0.heap.size ≤ y0.heap.size + 1 := Nat.le_succ_of_le sA0
   have n0 : ¬ y0.heap.size = y0.heap.size + 1 := Nat.ne_of_lt (Nat.lt_succ_self _)
   have m0 : ¬ y0.heap.size + 1 = y0.heap.size := fun e => n0 e.symm
   have sA1 : y0.heap.size ≤ y1.heap.size := D1.size
   have sB1 : y0.heap.size ≤ y1.heap.size + 1 := Nat.le_succ_of_le sA1
   have n1 : ¬ y1.heap.size = y1.heap.size + 1 := Nat.ne_of_lt (Nat.lt_succ_self _)
   have m1 : ¬ y1.heap.size + 1 = y1.heap.size := fun e => n1 e.symm
   have sA2 : y0.heap.size ≤ y2.heap.size := D2.size
   have sB2 : y0.heap.size ≤ y2.heap.size + 1 := Nat.le_succ_of_le sA2
   have n2 : ¬ y2.heap.size = y2.heap.size + 1 := Nat.ne_of_lt (Nat.lt_succ_self _)
   have m2 : ¬ y2.heap.size + 1 = y2.heap.size := fun e => n2 e.symm
   have sA3 : y0.heap.size ≤ y3.heap.size := D3.size
   first
    | with_reducible exact CutS.s1 D3 sA3
    | with_reducible exact CutS.s2 D3 sA3
    | with_reducible exact CutS.s3 A0.out sA0 D3 sA3
    | with_reducible exact CutS.s4 A0.out sA0 D3 sA3
    | with_reducible exact CutS.s3 B0.out sB0 D3 sA3
    | with_reducible exact CutS.s4 B0.out sB0 D3 sA3
    | with_reducible exact CutS.s3 A1.out sA1 D3 sA3
    | with_reducible exact CutS.s4 A1.out sA1 D3 sA3
    | with_reducible exact CutS.s3 B1.out sB1 D3 sA3
    | with_reducible exact CutS.s4 B1.out sB1 D3 sA3
    | with_reducible exact CutS.s3 A2.out sA2 D3 sA3
    | with_reducible exact CutS.s4 A2.out sA2 D3 sA3
    | with_reducible exact CutS.s3 B2.out sB2 D3 sA3
    | with_reducible exact CutS.s4 B2.out sB2 D3 sA3
    | with_reducible exact CutS.s5 A0.out sA0 B0.out sB0 n0 D3
    | with_reducible exact CutS.s5 B0.out sB0 A0.out sA0 m0 D3
    | with_reducible exact CutS.s5 A1.out sA1 B1.out sB1 n1 D3
    | with_reducible exact CutS.s5 B1.out sB1 A1.out sA1 m1 D3
    | with_reducible exact CutS.s5 A2.out sA2 B2.out sB2 n2 D3
    | with_reducible exact CutS.s5 B2.out sB2 A2.out sA2 m2 D3
    | with_reducible exact CutS.s5 A0.out sA0 A1.out sA1 l01x D3
    | with_reducible exact CutS.s5 A1.out sA1 A0.out sA0 l01y D3
    | with_reducible exact CutS.s5 A0.out sA0 A2.out sA2 l02x D3
    | with_reducible exact CutS.s5 A2.out sA2 A0.out sA0 l02y D3
    | with_reducible exact CutS.s5 A1.out sA1 A2.out sA2 l12x D3
    | with_reducible exact CutS.s5 A2.out sA2 A1.out sA1 l12y D3
    | fail
 obtain ⟨ga, gb, rfl, rfl, hcut⟩ := hcut
 obtain ⟨_, Ta, Tb, bxx⟩ := hcut.out
 have HKc := i' (HK.out.below bxx)
 have Bc := i' (chain HB.out bxx)
 have Ec := i' (chain E2.out bxx)
 obtain ⟨ta0, ta1, -, -⟩ := Ta
 obtain ⟨tb0, tb1, -, -⟩ := Tb
 have kc := HKc.out.cell
 clear bxx hcut c0 c1 c2 c3 hgw hgw2 hgw3 hgw4 hgw5 HV HDg HPw
 go_wp2_with fail
 refine (HRt.out _).mono ?_
 rintro en w6 ⟨rfl, b6⟩
 have B6 := i' (chain Bc.out b6)
 have Q3 := I4.out.next (chain Ec.out b6)
 obtain ⟨⟨m0, m1, m2, m3⟩, m4, m5, m6, m7⟩ := Q3
 have HZ := i' (k'5g B6.out (g := w.heap.size + 1) (by omega) (.bool (zb qn)) (.string (zs qn)) (.bool (zb qd)) (.string (zs qd)))
 clear b6 ta0 ta1 tb0 tb1 kc
 go_wp2
 exact bodyPost_ret (v := .tuple #[.agg #[.bool (zb qn), .string (zs qn), .bool (zb qd), .string (zs qd)], .int .i64 0]) (by simp [results, Tryz.results43, go_sem, m0, m1, m2, m3]) rfl ⟨rfl, HZ.out⟩
theorem k'jc (z : Int) (w : World) (h1 : -9223372036854775808 ≤ z) (h2 : z ≤ 9223372036854775807) : Calls Tryz.prog 63 #[.int .i64 z] w (ZPost z w) := by
 have HN := i' (fun w => k'8f z w h1 h2)
 have hl : (Nm.dg D9 z.natAbs).length ≤ 1000000 := by
  refine Nat.le_trans (Nm.len_le_of_val (k := 3) D92 (Nm.nrm_dg D92 _) ?_) (by decide)
  rw [Nm.val_dg D92]
  unfold D9
  omega
 have HT : Hid (∀ v w, Rz w v z → Calls Tryz.prog 39 #[iV z v] w fun e w' => e = .returned (.agg #[.bool (zb z), .string (zs z)]) ∧ Below w.heap.size w w') := fun v w h => by
  have := k'7y z v w h hl
  unfold ToPost at this
  rwa [wz_eq] at this
 unfold iV at HT
 obtain ⟨w0, hw0⟩ : ∃ w0 : World, w0 = w.alloc (.cells #[.bool false, .string ⟨#[]⟩] 44) := ⟨_, rfl⟩
 have hb0 : Hid (Below w.heap.size w w0) := by rw [hw0]; exact k'56 _ _
 have I3 : Hid (ZC (.bool false) (.string ⟨#[]⟩) w0 w.heap.size) := by rw [hw0]; exact ZC.new rfl
 have Hw0 := i' hw0
 clear hw0 hl
 go_enter Tryz.func63, Tryz.ntmps63
 go_wp2_with fail
 rw [← Hw0.out]
 refine (HN.out _).mono ?_
 rintro e wa ⟨v1, rfl, r1, ba⟩
 have BA := i' ba
 have R1 := i' r1
 unfold iV
 clear ba r1
 go_wp2_with fail
 refine (HT.out _ _ R1.out).mono ?_
 rintro e wb ⟨rfl, bb⟩
 have c := chain BA.out bb
 obtain ⟨m0, m1, m2, m3⟩ := I3.out.next c
 have HZ := i' (k'5c (chain hb0.out c) (Nat.le_refl w.heap.size) (.bool (zb z)) (.string (zs z)))
 clear bb c
 go_wp2
 exact bodyPost_ret (v := .agg #[.bool (zb z), .string (zs z)]) (by simp [results, Tryz.results63, go_sem, m0, m1]) rfl ⟨rfl, HZ.out⟩
theorem k'jd (x y : Int) (w : World) (h1 : -9223372036854775808 ≤ x) (h2 : x ≤ 9223372036854775807) (h3 : -9223372036854775808 ≤ y) (h4 : y ≤ 9223372036854775807) : Calls Tryz.prog 66 #[.int .i64 x, .int .i64 y] w (QZPost x y w) := by
 have HX := i' (fun w => k'jc x w h1 h2)
 have HY := i' (fun w => k'jc y w h3 h4)
 unfold ZPost at HX HY
 unfold QZPost
 generalize zb x = xb at *
 generalize zs x = xs at *
 generalize zb y = yb at *
 generalize zs y = ys at *
 obtain ⟨w0, hw0⟩ : ∃ w0 : World, w0 = w.alloc (.cells #[.bool false, .string ⟨#[]⟩, .bool false, .string ⟨#[]⟩] 59) := ⟨_, rfl⟩
 have hb0 : Hid (Below w.heap.size w w0) := by rw [hw0]; exact k'56 _ _
 have I3 : Hid (ZC4 (.bool false) (.string ⟨#[]⟩) (.bool false) (.string ⟨#[]⟩) w0 w.heap.size) := by rw [hw0]; exact ZC4.made0 w
 have Hw0 := i' hw0
 clear hw0
 go_enter Tryz.func66, Tryz.ntmps66
 go_wp2_with fail
 rw [← Hw0.out]
 refine (HX.out _).mono ?_
 rintro e wa ⟨rfl, ba⟩
 have BA := i' ba
 clear ba
 go_wp2_with fail
 refine (HY.out _).mono ?_
 rintro e wb ⟨rfl, bb⟩
 have c := chain BA.out bb
 obtain ⟨⟨m0, m1, m2, m3⟩, m4, m5, m6, m7⟩ := I3.out.next c
 have HZ := i' (k'5g (chain hb0.out c) (Nat.le_refl w.heap.size) (.bool xb) (.string xs) (.bool yb) (.string ys))
 clear bb c
 go_wp2
 exact bodyPost_ret (v := .agg #[.bool xb, .string xs, .bool yb, .string ys]) (by simp [results, Tryz.results66, go_sem, m0, m1, m2, m3]) rfl ⟨rfl, HZ.out⟩
theorem k'je {z : Int} (h : -9223372036854775808 ≤ z ∧ z ≤ 9223372036854775807) : z.natAbs < Top :=
 (k'hr (k := 60) rfl h.1 h.2).top (by decide)
theorem k'jf {z : Int} (h : -9223372036854775808 ≤ z ∧ z ≤ 9223372036854775807) : (Nm.dg D9 z.natAbs).length ≤ 1000000 :=
 (k'hr (k := 60) rfl h.1 h.2).len (by decide)
theorem k'jg {L : List Int} {a : Int} (h : a ∈ Pl.trim L) : a ∈ L := by
 obtain ⟨k, hk, rfl⟩ := List.mem_iff_getElem.1 h
 have h1 : k < L.length := Nat.lt_of_lt_of_le hk (Pl.trim_length L)
 rw [← Pl.cf_lt hk, Pl.cf_trim, Pl.cf_lt h1]
 exact List.getElem_mem h1
theorem k'jh {p : List Int} : decide (zl p = zl p) = true := by simp
theorem p_any (L : List Int) (v : Value) (w : World) (h : Rn w v L) (hl : L.length ≤ 1000) (ht : ∀ a ∈ L, -9223372036854775808 ≤ a ∧ a ≤ 9223372036854775807) : Calls Tryz.prog 65 #[v] w (RpPost (Pl.trim L) w) := by
 have HN := i' (k'ik L v w h hl ht)
 have HT := i' (fun v w' (h' : RP w' v (Pl.trim L)) => k'ih (Pl.trim L) v w' h' (Nat.le_trans (Pl.trim_length _) hl) (fun a ha => k'jf (ht a (k'jg ha))))
 obtain ⟨a, b, off, cap, rfl, -, -⟩ := h
 generalize Pl.trim L = T at *
 clear ht
 go_enter Tryz.func65, Tryz.ntmps65
 go_wp2_with fail
 refine HN.out.mono ?_
 rintro e w1 ⟨v1, rfl, r1, b1⟩
 have R1 := i' r1
 have B1 := i' b1
 clear r1 b1
 go_wp2_with fail
 refine (HT.out _ _ R1.out).mono ?_
 rintro e w2 ⟨v2, rfl, r2, b2⟩
 have R2 := i' r2
 have B2 := i' (chain B1.out b2)
 clear r2 b2
 go_wp2
 go_ret
 exact ⟨_, rfl, R2.out, B2.out⟩
theorem k'ji (L : List Int) (v vl : Value) (w : World) (hv : Rp w v (Pl.trim L)) (h : Rn w vl L) (hl : L.length ≤ 1000) (ht : ∀ a ∈ L, -9223372036854775808 ≤ a ∧ a ≤ 9223372036854775807) : Calls Tryz.prog 64 #[v, .int .i64 0, vl] w (BPost true w) := by
 have HP := i' (p_any L vl w h hl ht)
 have HS := i' (fun v2 w' (hb : Below w.heap.size w w') (h2 : Rp w' v2 (Pl.trim L)) => k'iq (zl (Pl.trim L)) (zl (Pl.trim L)) v v2 w' (hv.below hb) h2)
 rw [k'jh] at HS
 obtain ⟨a, b, off, cap, rfl, -, -⟩ := h
 obtain ⟨a1, b1, o1, c1, rfl, -, -, -, -⟩ := hv.open_
 generalize hT : Pl.trim L = T at *
 generalize hTl : T.length = tl at *
 clear ht hv hT hTl
 go_enter Tryz.func64, Tryz.ntmps64
 go_wp2_with fail
 refine HP.out.mono ?_
 rintro e w1 ⟨v1, rfl, r1, b1⟩
 have R1 := i' r1
 have B1 := i' b1
 clear r1 b1
 go_wp2_with fail
 refine (HS.out _ _ B1.out R1.out).mono ?_
 rintro e w2 ⟨rfl, b2⟩
 have B2 := i' (chain B1.out b2)
 clear b2
 go_wp2
 go_ret
 exact ⟨rfl, B2.out⟩
end Go.Proofs.YtepddegphdlbeaaGreat
