/- What the theorem leans on, part G12. -/
import Derived.Test.YtepddegphdlbeaaGreatG11
import Derived.Test.YtepddegphdlbeaaGreatG9
import Derived.Test.YtepddegphdlbeaaGreatG8
import Derived.Test.YtepddegphdlbeaaGreatG7
import Derived.Test.YtepddegphdlbeaaGreatG6
import Derived.Test.YtepddegphdlbeaaGreatG4
import Derived.Test.YtepddegphdlbeaaGreatG3
import Derived.Test.YtepddegphdlbeaaGreatG2
import Derived.Test.YtepddegphdlbeaaGreatG1
import Derived.Test.YtepddegphdlbeaaGreatG0
import Derived.Test.YtepddegphdlbeaaGreatProg
import Derived.WalkKit
import Derived.WalkSpells
import Derived.WalkLawsBesides
import Derived.Lib.Hide
import Derived.Deep.QuietTactic
import Derived.BigQuiet
import Derived.Shelf.Small.Bits
import Derived.Shelf.Small.Wraps
import Derived.Shelf.Strconv.Itoa0
import Derived.Shelf.Bits.Mul64
import Derived.Ground.Names2Prog
import Derived.Shelf.Slices.SearchI
import Derived.Shelf.Spec.BitsCarry
import Derived.Deep.LoopGhost
import Derived.Deep.RegionHeld3
import Derived.Deep.DeepCutAuto
import Derived.Test.YtepddegphdlbeaaGreatG5
import Derived.Laws.AppendOwnNone
import Derived.Below
import Derived.Maps.AppendAt
import Derived.Lib.SliceRun
import Derived.IntWalk
import Derived.Test.YtepddegphdlbeaaGreatG10
import Derived.RangeFuncNested
import Derived.RangeFuncBound
import Derived.RangeFuncCalls
import Derived.RangeFuncLeaves
import Derived.Shelf.Abstract
import Derived.Shelf.RegionOpen
import Derived.OwnWalkIn
import Derived.TacticsInMore
import Derived.LoopNIn
import Derived.LoopIn
import Derived.OrdersIn
import Derived.Deep.RegionHeld
import Derived.Laws.StructEq
set_option maxRecDepth 100000
set_option maxHeartbeats 16000000
set_option linter.all false
namespace Go.Proofs.YtepddegphdlbeaaGreat
open Go.RowKit
def MulPost2 (p q : List Int) (c : Nat) (e : Int) (w : World) (en : Ending) (w' : World) : Prop := ∃ (r : List Int) (v : Value) (e2 : Int), en = .returned v ∧ Rp w' v r ∧ But c w w' ∧ Ck w' c e2 ∧ r.length = (if p = [] ∨ q = [] then 0 else p.length + q.length - 1) ∧ (∀ a ∈ r, a.natAbs < Top) ∧ (Pl.sm p * Pl.mx q < Top → r = Pl.mul p q ∧ e2 = e)
theorem k'gr (p q L : List Int) (n i j : Nat) (en e x m d e1 e2 : Int) (hL : L.length = n) (hij : i + j < n) (hi : i < p.length) (hx : x = Pl.cf L (i + j)) (hm : m = clip (Pl.cf p i * Pl.cf q j)) (he1 : e1 = er en (Pl.cf p i * Pl.cf q j)) (hd : d = clip (x + m)) (he2 : e2 = er e1 (x + m))
 (hg : Pl.sm p * Pl.mx q < Top → L = inL p q n i j ∧ en = e) : Pl.sm p * Pl.mx q < Top → L.set (i + j) d = inL p q n i (j + 1) ∧ e2 = e := by
 intro hb
 obtain ⟨g1, g2⟩ := hg hb
 obtain ⟨b1, b2, b3⟩ := k'gp p q i j hi
 have hx2 : x = Pl.conv p q i (i + j) := by
  rw [hx, g1, Pl.cf_lt (by rw [k'gj]; exact hij), k'gk, if_neg (by omega)]; omega
 have f1 : (Pl.cf p i * Pl.cf q j).natAbs < Top := by omega
 rw [k'ct f1] at hm
 rw [er_ok _ f1] at he1
 have f2 : (x + m).natAbs < Top := by rw [hx2, hm]; omega
 rw [k'ct f2] at hd
 rw [er_ok _ f2] at he2
 refine ⟨?_, by rw [he2, he1, g2]⟩
 rw [hd, hx2, hm, g1]
 exact k'gm p q n i j hij
theorem k'gs {L : List Int} (h : ∀ a ∈ L, a.natAbs < Top) (k : Nat) (d : Int) (hd : d.natAbs < Top) : ∀ a ∈ L.set k d, a.natAbs < Top := by
 intro a ha
 rcases List.mem_or_eq_of_mem_set ha with h1 | h1
 ·exact h a h1
 ·rw [h1]; exact hd
theorem k'gt (c : Nat) (p q : List Int) (v1 v2 : Value) (e : Int) (w : World) (h1 : Rp w v1 p) (h2 : Rp w v2 q) (hc : Ck w c e) (hp0 : p ≠ []) (hq0 : q ≠ []) (hl1 : p.length ≤ 50) (hl2 : q.length ≤ 50)
 (ht1 : ∀ a ∈ p, a.natAbs < Top) (ht2 : ∀ a ∈ q, a.natAbs < Top) :
 Calls Tryz.prog 81 #[.pointer (some ⟨c, 0, none⟩), v1, v2] w (MulPost2 p q c e w) := by
 obtain ⟨a1, b1, o1, c1, rfl, _, _, h14, h15⟩ := h1.open_
 obtain ⟨a2, b2, o2, c2, rfl, _, _, h24, h25⟩ := h2.open_
 obtain rfl := h14 hp0
 obtain rfl := h24 hq0
 have H15 := i' h15
 have H25 := i' h25
 have HC := i' hc
 have HT1 := i' (fun i (hi : i < p.length) => show (Pl.cf p i).natAbs < Top by rw [Pl.cf_lt hi]; exact ht1 _ (List.getElem_mem hi))
 have HT2 := i' (fun j (hj : j < q.length) => show (Pl.cf q j).natAbs < Top by rw [Pl.cf_lt hj]; exact ht2 _ (List.getElem_mem hj))
 have HPQ : Hid (¬ (p = [] ∨ q = [])) := by rintro (h | h) <;> contradiction
 have hpl := List.length_pos_iff.2 hp0
 have hql := List.length_pos_iff.2 hq0
 have HEnd := i' (k'go p q hp0 hq0)
 have hcl := hc.lt
 clear h1 h2 h14 h24 h15 h25 hc ht1 ht2 hp0 hq0
 obtain ⟨n1, hn1⟩ : ∃ n, n = p.length := ⟨_, rfl⟩
 obtain ⟨n2, hn2⟩ : ∃ n, n = q.length := ⟨_, rfl⟩
 obtain ⟨n, hn⟩ : ∃ n, n = p.length + q.length - 1 := ⟨_, rfl⟩
 rw [← hn] at HEnd
 rw [← hn1] at hl1 hpl ⊢
 rw [← hn2] at hl2 hql ⊢
 have hnn : n + 1 = n1 + n2 := by omega
 have hk : ∀ w, (Instr.makeSlice 23 (.int .i64 ((n1 : Int) + n2 - 1)) (.int .i64 ((n1 : Int) + n2 - 1))).run Tryz.prog w = .ok (.slice (some ⟨w.heap.size, 0, none⟩) n n) (w.alloc (.cells (wv (List.replicate n 0)).toArray 44)) := fun w => by
  rw [show ((n1 : Int) + n2 - 1) = (n : Int) by omega]
  exact k'cm n w (by omega)
 have HNN := i' hnn
 have HN1 := i' hn1
 have HN2 := i' hn2
 have z1 : ((n1 : Int) == 0) = false := by simp; omega
 have z2 : ((n2 : Int) == 0) = false := by simp; omega
 clear hn1 hn2 hn hnn
 go_enter Tryz.func81, Tryz.ntmps81
 go_wp2
 clear hk
 go_loopw [29] (fun iv wr => ∃ (wz : World) (i : Nat) (L : List Int) (en : Int), wz = wr ∧ i ≤ n1 ∧ iv = .int .i64 (i : Int) ∧ Hid (Aw wz w.heap.size L) ∧ Hid (But c w wz) ∧ Hid (Ck wz c en) ∧ Hid (L.length = n) ∧ Hid (∀ a ∈ L, a.natAbs < Top) ∧ Hid (Pl.sm p * Pl.mx q < Top → L = inL p q n i 0 ∧ en = e))
  (fun iv _ => n1 - (intOf iv).toNat)
 case atStart =>
  refine ⟨_, 0, List.replicate n 0, e, rfl, Nat.zero_le _, rfl, Aw.made w _, But.of_below ((Below.refl _ _).alloc (Nat.le_refl _) _), HC.out.alloc _, List.length_replicate, ?_, fun _ => ⟨(k'gl p q n).symm, rfl⟩⟩
  intro a ha
  rw [List.eq_of_mem_replicate ha]
  exact Nat.lt_of_lt_of_le W0 W_Top
 case round =>
  obtain ⟨wz, i, L0, en0, rfl, hi, rfl, haw, hbut0, hck, hll, htl, hgd⟩ := hrel
  have hc0w := HC.out
  by_cases hlt : i < n1
  ·have hip : i < p.length := by have h5 : n1 = p.length := HN1.out; omega
   have hc0 := (H15.out i hip).1
   have hc1 := (H15.out i hip).2
   rw [← Pl.cf_lt hip] at hc0 hc1
   have x0 := hbut0.out.cell hc0 (hc0w.ne hc0)
   have x1 := hbut0.out.cell hc1 (hc0w.ne hc0)
   have hb1 := World.block_lt_of_cell? w _ hc0
   simp only at hb1
   have hgl := haw.out.lt
   have u1 : ¬ b1 = wz.heap.size := by omega
   have u2 : ¬ wz.heap.size = b1 := by omega
   obtain ⟨w1, hw1⟩ : ∃ w1 : World, w1 = wz.alloc (.cells #[.bool (zb (Pl.cf p i)), .string (zs (Pl.cf p i))] 44) := ⟨_, rfl⟩
   have HA1 : Hid (Aw w1 w.heap.size L0) := by rw [hw1]; exact haw.out.alloc _
   have HB1 : Hid (But c w w1) := by rw [hw1]; exact hbut0.out.alloc _
   have HK1 : Hid (Ck w1 c en0) := by rw [hw1]; exact hck.out.alloc _
   have HX1 : Hid (w1.cell? ⟨wz.heap.size, 0, none⟩ = some (.bool (zb (Pl.cf p i))) ∧ w1.cell? ⟨wz.heap.size, 1, none⟩ = some (.string (zs (Pl.cf p i)))) := by rw [hw1]; exact ⟨by simp [go_sem], by simp [go_sem]⟩
   have HS1 : Hid (wz.heap.size < w1.heap.size) := by show _ < _; rw [hw1]; simp
   have hti := HT1.out i hip
   clear hc0 hc1 haw hbut0 hck
   obtain ⟨xi, hxi⟩ : ∃ xi, xi = Pl.cf p i := ⟨_, rfl⟩
   rw [← hxi] at HX1 x0 x1 hti hw1
   have HXI := i' hxi
   clear hxi
   go_wp2
   rw [← hw1]
   clear hw1 x0 x1
   go_loopw [36] (fun jv wq => ∃ (wy : World) (j : Nat) (L : List Int) (en : Int), wy = wq ∧ j ≤ n2 ∧ jv = .int .i64 (j : Int) ∧ Hid (Aw wy w.heap.size L) ∧ Hid (But c w wy) ∧ Hid (Ck wy c en) ∧ Hid (L.length = n) ∧ Hid (∀ a ∈ L, a.natAbs < Top) ∧ Hid (Pl.sm p * Pl.mx q < Top → L = inL p q n i j ∧ en = e)
    ∧ Hid (wy.cell? ⟨wz.heap.size, 0, none⟩ = some (.bool (zb xi)) ∧ wy.cell? ⟨wz.heap.size, 1, none⟩ = some (.string (zs xi))) ∧ Hid (wz.heap.size < wy.heap.size))
    (fun jv _ => n2 - (intOf jv).toNat)
   case atStart => exact ⟨w1, 0, L0, en0, rfl, Nat.zero_le _, rfl, HA1.out, HB1.out, HK1.out, hll.out, htl.out, hgd.out, HX1.out, HS1.out⟩
   case round =>
    clear HA1 HB1 HK1 HX1 HS1 hll htl hgd
    obtain ⟨wy, j, L, en, rfl, hj, rfl, haw, hbut, hck, hll, htl, hgd, hbox, hzy0⟩ := hrel
    by_cases hlt2 : j < n2
    ·have hjq : j < q.length := by have h5 : n2 = q.length := HN2.out; omega
     have hnn := HNN.out
     have hij : i + j < L.length := by rw [hll.out]; omega
     have hd0 := (H25.out j hjq).1
     have hd1 := (H25.out j hjq).2
     rw [← Pl.cf_lt hjq] at hd0 hd1
     have y0 := hbut.out.cell hd0 (hc0w.ne hd0)
     have y1 := hbut.out.cell hd1 (hc0w.ne hd0)
     have hb2 := World.block_lt_of_cell? wy _ y0
     simp only at hb2
     have u3 : ¬ b2 = wy.heap.size := by omega
     have u4 : ¬ wy.heap.size = b2 := by omega
     obtain ⟨l0, l1⟩ := haw.out.cell (i + j) hij
     have hzy : wz.heap.size < wy.heap.size := hzy0.out
     have hwy := hbut.out.size
     obtain ⟨t0, t1⟩ := hbox.out
     have hzw : wz.heap.size ≠ w.heap.size := by omega
     have htj := HT2.out j hjq
     obtain ⟨y, hy⟩ : ∃ y, y = Pl.cf q j := ⟨_, rfl⟩
     rw [← hy] at y0 y1 htj
     obtain ⟨x, hx⟩ : ∃ x, x = L[i + j] := ⟨_, rfl⟩
     rw [← hx] at l0 l1
     have htx : x.natAbs < Top := by rw [hx]; exact htl.out _ (List.getElem_mem hij)
     have HMk := i' (fun w hc => k'ey c xi y en w hc hti htj)
     obtain ⟨m, hm⟩ : ∃ m, m = clip (xi * y) := ⟨_, rfl⟩
     obtain ⟨e1, he1⟩ : ∃ e1, e1 = er en (xi * y) := ⟨_, rfl⟩
     rw [← hm, ← he1] at HMk
     have HAk := i' (fun w hc => k'cv c x m e1 w hc htx (by rw [hm]; exact k'ez _))
     obtain ⟨d, hd⟩ : ∃ d, d = clip (x + m) := ⟨_, rfl⟩
     obtain ⟨e2, he2⟩ : ∃ e2, e2 = er e1 (x + m) := ⟨_, rfl⟩
     rw [← hd, ← he2] at HAk
     have hset := i' (k'gr p q L n i j en e x m d e1 e2 hll.out (by rw [hll.out] at hij; exact hij) hip (by rw [Pl.cf_lt hij]; exact hx) (by rw [← HXI.out, ← hy]; exact hm) (by rw [← HXI.out, ← hy]; exact he1) hd he2 hgd.out)
     have HTop := i' (k'gs htl.out (i + j) d (by rw [hd]; exact k'ez _))
     have HLen : Hid ((L.set (i + j) d).length = n) := by show _ = _; rw [List.length_set]; exact hll.out
     obtain ⟨wi, hwi⟩ : ∃ wi : World, wi = wy.alloc (.cells #[.bool (zb y), .string (zs y)] 44) := ⟨_, rfl⟩
     have hAi : Hid (Aw wi w.heap.size L) := by rw [hwi]; exact haw.out.alloc _
     have hBi : Hid (But c w wi) := by rw [hwi]; exact hbut.out.alloc _
     have hCi : Hid (Ck wi c en) := by rw [hwi]; exact hck.out.alloc _
     have hSi : Hid (wz.heap.size < wi.heap.size) := by show _ < _; rw [hwi]; simp; omega
     have a0 : wi.cell? ⟨wy.heap.size, 0, none⟩ = some (.bool (zb y)) := by rw [hwi]; simp [go_sem]
     have a1 : wi.cell? ⟨wy.heap.size, 1, none⟩ = some (.string (zs y)) := by rw [hwi]; simp [go_sem]
     have i0 : wi.cell? ⟨w.heap.size, (i + j) * 2, none⟩ = some (.bool (zb x)) := by rw [hwi]; exact k'd ((Below.refl _ _).alloc (Nat.le_refl _) _) l0
     have i1 : wi.cell? ⟨w.heap.size, (i + j) * 2 + 1, none⟩ = some (.string (zs x)) := by rw [hwi]; exact k'd ((Below.refl _ _).alloc (Nat.le_refl _) _) l1
     have j0 : wi.cell? ⟨wz.heap.size, 0, none⟩ = some (.bool (zb xi)) := by rw [hwi]; exact k'd ((Below.refl _ _).alloc (Nat.le_refl _) _) t0
     have j1 : wi.cell? ⟨wz.heap.size, 1, none⟩ = some (.string (zs xi)) := by rw [hwi]; exact k'd ((Below.refl _ _).alloc (Nat.le_refl _) _) t1
     have g0 := hAi.out.free ((i + j) * 2)
     have g1 := hAi.out.free ((i + j) * 2 + 1)
     have v0 : (0 : Int) ≤ (i : Int) + (j : Int) := by omega
     have v1 : (i : Int) + (j : Int) < (n : Int) := by rw [hll.out] at hij; omega
     have HL2 := i' hij
     have n1c : w.heap.size ≠ c := by omega
     have n2c : wy.heap.size ≠ c := by omega
     have n3c : wz.heap.size ≠ c := by omega
     have HII := i' (And.intro i0 (And.intro i1 (And.intro a0 (And.intro a1 (And.intro j0 (And.intro j1 (And.intro g0 g1)))))))
     have HJ := i' (And.intro j0 j1)
     clear hd0 hd1 hij l0 l1 t0 t1 i0 i1 a0 a1 j0 j1 g0 g1 haw hbut hnn hck hll htl hgd hbox hzy0 hm he1 hd he2 hx hy htx htj
     unfold Z at HMk HAk
     generalize zb y = yb at *
     generalize zs y = ys at *
     generalize zb x = xb at *
     generalize zs x = xs at *
     generalize zb m = mb at *
     generalize zs m = ms at *
     obtain ⟨tb, htb⟩ : ∃ tb, tb = zb xi := ⟨_, rfl⟩
     obtain ⟨ts, hts⟩ : ∃ ts, ts = zs xi := ⟨_, rfl⟩
     rw [← htb, ← hts] at HII HMk HJ
     have HTB := i' (And.intro htb hts)
     clear htb hts
     go_upto_region 10 with (fail)
     rw [← hwi]
     clear hwi
     have k0 := HII.out.1
     have k1 := HII.out.2.1
     have k2 := HII.out.2.2.1
     have k3 := HII.out.2.2.2.1
     have k4 := HII.out.2.2.2.2.1
     have k5 := HII.out.2.2.2.2.2.1
     have k6 := HII.out.2.2.2.2.2.2.1
     have k7 := HII.out.2.2.2.2.2.2.2
     have vt : ((i : Int) + (j : Int)).toNat = i + j := by omega
     have vw : IntKind.i64.wrap ((i : Int) + (j : Int)) = (i : Int) + (j : Int) := IntWalk.i64_in _ (by omega)
     go_region_with
      (first
       | (go_at_call 89; (with_reducible refine (HMk.out _ (by exact hCi.out.drew)).mono ?_); rintro e w5 ⟨rfl, b5, d5⟩; have c5 := ((But.refl c wi).drew).trans b5; have p0 := c5.cell k0 n1c; have p1 := c5.cell k1 n1c; have p2 := c5.cell k2 n2c; have p3 := c5.cell k3 n2c; have p4 := c5.cell k4 n3c; have p5 := c5.cell k5 n3c; have p6 := c5.frozen k0 k6 n1c; have p7 := c5.frozen k1 k7 n1c; have G1 := i' (And.intro c5 d5); clear b5 c5 d5)
       | (go_at_call 78; (with_reducible refine (HAk.out _ (by exact G1.out.2)).mono ?_); rintro e w6 ⟨rfl, b6, d6⟩; have c6 := G1.out.1.trans b6; have p0 := c6.cell k0 n1c; have p1 := c6.cell k1 n1c; have p2 := c6.cell k2 n2c; have p3 := c6.cell k3 n2c; have p4 := c6.cell k4 n3c; have p5 := c6.cell k5 n3c; have p6 := c6.frozen k0 k6 n1c; have p7 := c6.frozen k1 k7 n1c; have G2 := i' (And.intro c6 d6); clear b6 c6 d6))
     all_goals
      have HA5 := i' (G2.out.1.aw hAi.out n1c)
      have HA7 := i' (HA5.out.set (i + j) HL2.out d)
      have HB7 := i' (((hBi.out.trans G2.out.1).new (p := ⟨w.heap.size, (i + j) * 2, none⟩) (Nat.le_refl _) (.bool (zb d))).new (p := ⟨w.heap.size, (i + j) * 2 + 1, none⟩) (Nat.le_refl _) (.string (zs d)))
      have HC7 := i' ((G2.out.2.other ⟨w.heap.size, (i + j) * 2, none⟩ (.bool (zb d)) (Ne.symm n1c)).other ⟨w.heap.size, (i + j) * 2 + 1, none⟩ (.string (zs d)) (Ne.symm n1c))
      have HX7 : Hid (((w6.setCell ⟨w.heap.size, (i + j) * 2, none⟩ (.bool (zb d))).setCell ⟨w.heap.size, (i + j) * 2 + 1, none⟩ (.string (zs d))).cell? ⟨wz.heap.size, 0, none⟩ = some (.bool tb) ∧ ((w6.setCell ⟨w.heap.size, (i + j) * 2, none⟩ (.bool (zb d))).setCell ⟨w.heap.size, (i + j) * 2 + 1, none⟩ (.string (zs d))).cell? ⟨wz.heap.size, 1, none⟩ = some (.string ts)) := ⟨far2 (by simp only; omega) (G2.out.1.cell HJ.out.1 n3c), far2 (by simp only; omega) (G2.out.1.cell HJ.out.2 n3c)⟩
      have HS7 : Hid (wz.heap.size < ((w6.setCell ⟨w.heap.size, (i + j) * 2, none⟩ (.bool (zb d))).setCell ⟨w.heap.size, (i + j) * 2 + 1, none⟩ (.string (zs d))).heap.size) := by show _ < _; have := G2.out.1.size; have := hSi.out; simp [World.setCell]; omega
      rw [HTB.out.1, HTB.out.2] at HX7
      clear HA5 HII HJ vt vw
      go_wp2
      go_roundw
      case rel => exact ⟨_, j + 1, L.set (i + j) d, e2, rfl, by omega, by go_num, HA7.out, HB7.out, HC7.out, HLen.out, HTop.out, hset.out, HX7.out, HS7.out⟩
      case measure => simp [intOf]; omega
    ·obtain rfl : j = n2 := by omega
     have hg2 : Pl.sm p * Pl.mx q < Top → L = inL p q n (i + 1) 0 ∧ en = e := fun hb => by
      have h1 := hgd.out hb
      rw [show j = q.length from HN2.out, k'gn] at h1
      exact h1
     have HG2 := i' hg2
     clear hg2 hgd hbox
     go_wp2
     go_roundw
     case rel => exact ⟨_, i + 1, L, en, rfl, by omega, by go_num, haw.out, hbut.out, hck.out, hll.out, htl.out, HG2.out⟩
     case measure => simp [intOf]; omega
  ·obtain rfl : i = n1 := by omega
   have HRp : Hid (Rp wz (.slice (some ⟨w.heap.size, 0, none⟩) n n) L0) := Rp.of_whole haw.out n n hll.out (Nat.le_refl _) (by have h5 := HNN.out; unfold maxLen; omega)
   have HG2 : Hid (Pl.sm p * Pl.mx q < Top → L0 = Pl.mul p q ∧ en0 = e) := fun hb => by
    have h1 := hgd.out hb
    rw [show i = p.length from HN1.out, HEnd.out] at h1
    exact h1
   have HLn : Hid (L0.length = if p = [] ∨ q = [] then 0 else p.length + q.length - 1) := by
    show _ = _
    rw [if_neg HPQ.out, hll.out]
    have h1 := HNN.out
    have h2 : i = p.length := HN1.out
    have h3 : n2 = q.length := HN2.out
    omega
   go_wp2
   go_ret
   exact ⟨L0, _, en0, rfl, HRp.out, hbut0.out, hck.out, HLn.out, htl.out, HG2.out⟩
def ckm (L1 L2 : List (Bool × ByteArray)) : Int :=
 if (vldP L1 && vldP L2) = true then (if L1.length = 0 ∨ L2.length = 0 then 0 else if (L1.length : Int) - 1 + ((L2.length : Int) - 1) > 24 ∨ glb L1 + glb L2 + 5 > 65536 then 7 else 0) else 2
theorem k'gu (c : Nat) (p q : List Int) (v1 v2 : Value) (w : World) (h1 : Rp w v1 p) (h2 : Rp w v2 q) (h : p = [] ∨ q = []) (hl1 : p.length ≤ 50) :
 Calls Tryz.prog 81 #[.pointer (some ⟨c, 0, none⟩), v1, v2] w (Ret (.slice none 0 0) w) := by
 have h' : p.length = 0 ∨ q.length = 0 := h.imp (fun e => by rw [e]; rfl) (fun e => by rw [e]; rfl)
 obtain ⟨p1, b1, o1, c1, rfl, -⟩ := h1.open_
 obtain ⟨p2, b2, o2, c2, rfl, -⟩ := h2.open_
 clear h h1 h2
 generalize p.length = n1 at *
 generalize q.length = n2 at *
 rcases Nat.eq_zero_or_pos n1 with h0 | h0
 ·subst h0
  clear h'
  go_enter Tryz.func81, Tryz.ntmps81
  go_wp2
  go_ret
  exact ⟨rfl, Below.refl _ _⟩
 ·obtain rfl : n2 = 0 := by omega
  have z1 : ((n1 : Int) == 0) = false := by simp; omega
  clear h'
  go_enter Tryz.func81, Tryz.ntmps81
  go_wp2
  go_ret
  exact ⟨rfl, Below.refl _ _⟩
theorem k'gw {a : Nat} (h : a ≤ 65536) : 2 ^ a ≤ Top := by
 unfold Top
 exact Nat.pow_le_pow_right (by decide) (by rw [k'3m]; exact h)
theorem k'gx {p q : List Int} (hp : VP p) (hq : VP q) (h : ckm (zl p) (zl q) = 0) (h0 : p ≠ []) (h1 : q ≠ []) : Pl.sm p * Pl.mx q < Top ∧ ¬ ((p.length : Int) - 1 + ((q.length : Int) - 1) > 24) ∧ ¬ (glb (zl p) + glb (zl q) + 5 > 65536) := by
 unfold ckm at h
 have l1 := List.length_pos_iff.2 h0
 have l2 := List.length_pos_iff.2 h1
 rw [hp.ok, hq.ok, show (true && true) = true from rfl, if_pos rfl, k'cc, k'cc, if_neg (by omega)] at h
 split at h
 ·omega
 ·next hz =>
  have hz1 : ¬ ((p.length : Int) - 1 + ((q.length : Int) - 1) > 24) := fun h => hz (Or.inl h)
  have hz2 : ¬ (glb (zl p) + glb (zl q) + 5 > 65536) := fun h => hz (Or.inr h)
  refine ⟨?_, hz1, hz2⟩
  have a1 := k'fw hp.top
  have a2 := k'fw hq.top
  have g1 := k'fb (zl p)
  have g2 := k'fb (zl q)
  obtain ⟨gp, hgp⟩ : ∃ n : Nat, glb (zl p) = n := ⟨(glb (zl p)).toNat, by omega⟩
  obtain ⟨gq, hgq⟩ : ∃ n : Nat, glb (zl q) = n := ⟨(glb (zl q)).toNat, by omega⟩
  rw [hgp] at a1 hz2
  rw [hgq] at a2 hz2
  rw [Int.toNat_natCast] at a1 a2
  have b1 := Pl.sm_le p
  have b2 : Pl.sm p ≤ 25 * 2 ^ gp := Nat.le_trans b1 (Nat.mul_le_mul hp.len (Nat.le_of_lt a1))
  have b3 := Nat.mul_le_mul b2 (Nat.le_of_lt a2)
  rw [Nat.mul_assoc, ← Nat.pow_add] at b3
  refine Nat.lt_of_le_of_lt b3 (Nat.lt_of_lt_of_le ?_ (k'gw (a := gp + gq + 5) (by omega)))
  rw [Nat.pow_add _ _ 5]
  have := Nat.pow_pos (a := 2) (n := gp + gq) (by decide)
  omega
theorem k'gz (p q : List Int) (v1 v2 : Value) (w : World) (h1 : Rp w v1 p) (h2 : Rp w v2 q) (hp : VP p) (hq : VP q) (hc : ckm (zl p) (zl q) = 0) (hp0 : p ≠ []) (hq0 : q ≠ []) :
 Calls Tryz.prog 27 #[v1, v2] w (ResP (Pl.mul p q) w) := by
 obtain ⟨f1, f2, f3⟩ := k'gx hp hq hc hp0 hq0
 have HV1 := i' (fun w' (hb : Below w.heap.size w w') => k'd9 p v1 w' (h1.below hb) hp)
 have HV2 := i' (fun w' (hb : Below w.heap.size w w') => k'd9 q v2 w' (h2.below hb) hq)
 have HD1 := i' (fun w' (hb : Below w.heap.size w w') => k'da (zl p) v1 w' (h1.below hb))
 have HD2 := i' (fun w' (hb : Below w.heap.size w w') => k'da (zl q) v2 w' (h2.below hb))
 have HG1 := i' (fun w' (hb : Below w.heap.size w w') => k'dc (zl p) v1 w' (h1.below hb) (k'd7 hp.top))
 have HG2 := i' (fun w' (hb : Below w.heap.size w w') => k'dc (zl q) v2 w' (h2.below hb) (k'd7 hq.top))
 rw [k'cc] at HD1 HD2
 have G1 := k'fb (zl p)
 have G2 := k'fb (zl q)
 have l1 := hp.len
 have l2 := hq.len
 have k1 := List.length_pos_iff.2 hp0
 have k2 := List.length_pos_iff.2 hq0
 have HR := i' (fun c w' (hb : Below w.heap.size w w') hck => k'gq c p q v1 v2 0 w' (h1.below hb) (h2.below hb) hck hp0 hq0 (by omega) (by omega) hp.top hq.top f1)
 obtain ⟨p1, b1, o1, c1, rfl, -⟩ := h1.open_
 obtain ⟨p2, b2, o2, c2, rfl, -⟩ := h2.open_
 generalize Pl.mul p q = G at *
 clear h1 h2 hp hq hc hp0 hq0 f1
 generalize glb (zl p) = g1 at *
 generalize glb (zl q) = g2 at *
 generalize p.length = n1 at *
 generalize q.length = n2 at *
 have hz1 : ((n1 : Int) == 0) = false := by simp; omega
 have hz2 : ((n2 : Int) == 0) = false := by simp; omega
 have hs3 : decide (24 < (n1 : Int) - 1 + ((n2 : Int) - 1)) = false := by rw [decide_eq_false_iff_not]; omega
 have hs4 : decide (65536 < g1 + g2 + 5) = false := by rw [decide_eq_false_iff_not]; omega
 go_enter Tryz.func27, Tryz.ntmps27
 go_wp2_with fail
 refine (HV1.out _ (Below.refl _ _)).mono ?_
 rintro e w1 ⟨rfl, b1⟩
 have B1 := i' (b1)
 clear b1
 go_wp2_with fail
 refine (HV2.out _ B1.out).mono ?_
 rintro e w2 ⟨rfl, b2⟩
 have B2 := i' (chain B1.out b2)
 clear b2
 go_wp2_with fail
 refine (HD1.out _ B2.out).mono ?_
 rintro e w3 ⟨rfl, b3⟩
 have B3 := i' (chain B2.out b3)
 clear b3
 go_wp2_with fail
 refine (HD2.out _ B3.out).mono ?_
 rintro e w4 ⟨rfl, b4⟩
 have B4 := i' (chain B3.out b4)
 clear b4
 go_wp2_with fail
 refine (HG1.out _ B4.out).mono ?_
 rintro e w5 ⟨rfl, b5⟩
 have B5 := i' (chain B4.out b5)
 clear b5
 go_wp2_with fail
 refine (HG2.out _ B5.out).mono ?_
 rintro e w6 ⟨rfl, b6⟩
 have B6 := i' (chain B5.out b6)
 clear b6
 obtain ⟨w7, hw7⟩ : ∃ w7 : World, w7 = w6.alloc (.cells #[.int .i64 0] 96) := ⟨_, rfl⟩
 have HK : Hid (Ck w7 w6.heap.size 0) := by show Ck _ _ _; rw [hw7]; exact heap_alloc_new w6 _
 have B7 : Hid (Below w.heap.size w w7) := by show Below _ _ _; rw [hw7]; exact B6.out.alloc B6.out.size _
 go_wp2_with fail
 rw [← hw7]
 clear hw7
 refine (HR.out _ _ B7.out HK.out).mono ?_
 rintro en w8 ⟨v3, rfl, r3, b3⟩
 obtain ⟨a3, bb3, o3, c3, rfl, -⟩ := r3.open_
 have HK3 := i' (HK.out.below b3)
 have B8 := i' (chain B7.out b3)
 have R3 := i' r3
 clear b3 r3
 go_wp2_with fail
 refine (k'dy _ _ _ _ _ HK3.out).mono ?_
 rintro en w9 ⟨rfl, b4⟩
 have B9 := i' (chain B8.out b4)
 have R4 := i' (R3.out.below b4)
 clear b4
 go_wp2
 go_ret2
 exact ⟨_, rfl, R4.out, B9.out⟩
end Go.Proofs.YtepddegphdlbeaaGreat
namespace Go.Proofs.YtepddegphdlbeaaGreat
namespace Pl
def sub (p q : List Int) : List Int := trim (add p (scl (-1) q))
theorem cf_sub (p q : List Int) (k : Nat) : cf (sub p q) k = cf p k - cf q k := by
 rw [sub, cf_trim, cf_add, cf_scl]; omega
theorem sub_nrm (p q : List Int) : Nrm (sub p q) := nrm_trim _
theorem k'h1 {l : Int} {q r : List Int} (h0 : lead r = 0) (k : Nat) : cf (step l (lead r) q r) k = l * cf r k := by
 rw [cf_step]
 split
 ·rw [h0]; split <;> simp
 ·next h =>
  rcases Nat.lt_or_ge k r.length with g | g
  ·have e : k = r.length - 1 := by omega
   unfold lead at h0
   rw [e, h0]; simp
  ·rw [cf_ge g]; simp
theorem k'h2 (q : List Int) (j : Nat) (r : List Int) : prem q (j + 1) r = step (lead q) (lead (prem q j r)) q (prem q j r) := by
 induction j generalizing r with
 | zero => rfl
 | succ j ih => rw [prem, ih]; rfl
def RInv (p q r : List Int) (m : Nat) : Prop := (0 < q.length ∧ q.length ≤ p.length) ∧ ∃ j, j + m = p.length + 1 - q.length ∧ r = trim (scl (lead q ^ m) (prem q j p))
theorem RInv.start {p q : List Int} (h : q.length ≤ p.length) (hq : 0 < q.length) : RInv p q (trim (scl (lead q ^ (p.length - q.length + 1)) p)) (p.length - q.length + 1) :=
 ⟨⟨hq, h⟩, 0, by omega, rfl⟩
theorem RInv.nrm {p q r : List Int} {m : Nat} (h : RInv p q r m) : Nrm r := by obtain ⟨_, _, _, rfl⟩ := h; exact nrm_trim _
theorem RInv.slen {p q : List Int} {j m : Nat} (h : 0 < q.length ∧ q.length ≤ p.length) (hj : j + m = p.length + 1 - q.length) : (prem q j p).length = m + (q.length - 1) := by
 rw [prem_length q j p (by omega)]; omega
theorem RInv.len {p q r : List Int} {m : Nat} (h : RInv p q r m) : r.length ≤ m + (q.length - 1) := by
 obtain ⟨h0, j, h1, rfl⟩ := h
 have := trim_length (scl (lead q ^ m) (prem q j p))
 rw [scl_length, RInv.slen h0 h1] at this
 exact this
theorem RInv.down {p q r : List Int} {m : Nat} (hq : Nrm q) (h : RInv p q r (m + 1)) (hr : r.length ≤ m + (q.length - 1)) : RInv p q r m := by
 obtain ⟨h0, j, h1, h2⟩ := h
 have hl := RInv.slen h0 h1
 have hq0 : q ≠ [] := by intro e; rw [e] at h0; simp at h0
 have hz : lead (prem q j p) = 0 := by
  have e1 : cf r ((prem q j p).length - 1) = 0 := cf_ge (by omega)
  rw [h2, cf_trim, cf_scl] at e1
  rcases Int.mul_eq_zero.1 e1 with g | g
  ·exact absurd g (Int.pow_ne_zero (lead_ne hq hq0))
  ·exact g
 refine ⟨h0, j + 1, by omega, ?_⟩
 rw [h2, k'h2]
 exact trim_ext fun k => by rw [cf_scl, cf_scl, k'h1 hz, Int.pow_succ, Int.mul_assoc]
theorem RInv.downs {p q r : List Int} {m : Nat} (hq : Nrm q) (h : RInv p q r m) (k : Nat) (hk : k ≤ m) (hr : r.length ≤ k + (q.length - 1)) : RInv p q r k := by
 induction m with
 | zero => obtain rfl : k = 0 := by omega
           exact h
 | succ m ih =>
  by_cases e : k = m + 1
  ·rw [e]; exact h
  ·exact ih (RInv.down hq h (by omega)) (by omega)
theorem RInv.step {p q r : List Int} {m : Nat} (hq : Nrm q) (h : RInv p q r m) (hr : q.length ≤ r.length) :
 lead q ∣ lead r ∧ RInv p q (sub r (scl (lead r / lead q) (shift (r.length - q.length) q))) (r.length - q.length) := by
 have hl := h.len
 obtain ⟨h0, j, h1, h2⟩ := RInv.downs hq h (r.length - q.length + 1) (by have := h.1; omega) (by have := h.1; omega)
 have hq0 : q ≠ [] := by intro e; rw [e] at h0; simp at h0
 have hsl := RInv.slen h0 h1
 generalize hd : r.length - q.length = d at *
 generalize hs : prem q j p = s at *
 have hsr : s.length = r.length := by omega
 have e1 : lead r = lead q ^ d * lead s * lead q := by
  unfold lead
  conv => lhs; rw [h2, cf_trim, cf_scl, ← h2]
  rw [hsr, Int.pow_succ]
  unfold lead
  grind
 have hln := lead_ne hq hq0
 have e2 : lead r / lead q = lead q ^ d * lead s := by rw [e1]; exact Int.mul_ediv_cancel _ hln
 refine ⟨⟨lead q ^ d * lead s, by rw [e1]; exact Int.mul_comm _ _⟩, h0, j + 1, by omega, ?_⟩
 rw [k'h2, hs]
 refine nrm_ext (sub_nrm _ _) (nrm_trim _) fun k => ?_
 have e3 := step_sum (a := lead q) (c := lead s) (q := q) (r := s) h0.1 (by omega) (Int.mul_comm _ _) k
 rw [show s.length - q.length = d by omega] at e3
 rw [cf_sub, cf_trim, cf_scl, cf_scl, e2]
 conv => lhs; rw [h2, cf_trim, cf_scl, Int.pow_succ]
 have e4 : lead q ^ d * lead q * cf s k = lead q ^ d * (lead q * cf s k) := Int.mul_assoc _ _ _
 rw [e4, e3, Int.mul_add, Int.mul_assoc]
 omega
theorem RInv.done {p q r : List Int} {m : Nat} (hq : Nrm q) (h : RInv p q r m) (hr : r.length < q.length) : r = rest p q := by
 obtain ⟨h0, j, h1, h2⟩ := RInv.downs hq h 0 (Nat.zero_le _) (by omega)
 rw [h2, rest, show p.length + 1 - q.length = j by omega]
 exact trim_ext fun k => by rw [cf_scl]; simp
theorem RInv.mx {p q r : List Int} {m : Nat} (h : RInv p q r m) : mx r ≤ (2 * mx q) ^ (p.length + 1 - q.length) * mx p := by
 obtain ⟨h0, j, h1, rfl⟩ := h
 refine Nat.le_trans (mx_trim _) (Nat.le_trans (mx_scl _ _) ?_)
 rw [← h1, Nat.add_comm j, Nat.pow_add, Nat.mul_assoc]
 refine Nat.mul_le_mul ?_ (mx_prem q j p)
 rw [Int.natAbs_pow]
 exact Nat.pow_le_pow_left (Nat.le_trans (mx_cf q _) (by omega)) m
def DInv (p q : List Int) (n : Nat) (r a : List Int) : Prop := ∃ s : List Int, s.length = n + (q.length - 1) ∧ (∀ k, cf r k = cf s k) ∧ dvs q (p.length + 1 - q.length) p = (dvs q n s).map (· ++ a)
theorem DInv.start {p q : List Int} (h : q.length ≤ p.length) (hq : 0 < q.length) : DInv p q (p.length - q.length + 1) p [] :=
 ⟨p, by omega, fun _ => rfl, by rw [show p.length + 1 - q.length = p.length - q.length + 1 by omega]; cases dvs q (p.length - q.length + 1) p <;> simp⟩
theorem DInv.step {p q r a : List Int} {n : Nat} (h : DInv p q (n + 1) r a) (hr : cf r (n + q.length - 1) % lead q = 0) (hq : 0 < q.length) :
 DInv p q n (sub r (scl (cf r (n + q.length - 1) / lead q) (shift n q))) (cf r (n + q.length - 1) / lead q :: a) := by
 obtain ⟨s, h1, h2, h3⟩ := h
 have e0 : n + q.length - 1 = s.length - 1 := by omega
 rw [h2, e0] at hr ⊢
 have hle : cf s (s.length - 1) = lead s := rfl
 rw [hle] at hr ⊢
 refine ⟨Pl.step 1 (lead s / lead q) q s, by rw [step_length]; omega, fun k => ?_, ?_⟩
 ·have e3 := step_sum (a := 1) (c := lead s / lead q) (q := q) (r := s) hq (by omega) (by rw [Int.one_mul]; exact (Int.ediv_mul_cancel (Int.dvd_of_emod_eq_zero hr)).symm) k
  rw [show s.length - q.length = n by omega] at e3
  rw [cf_sub, cf_scl, h2]
  omega
 ·rw [h3, dvs, if_pos hr]
  cases dvs q n (Pl.step 1 (lead s / lead q) q s) <;> simp
theorem DInv.done {p q r a : List Int} (h : DInv p q 0 r a) (hr : Nrm r) : dvs q (p.length + 1 - q.length) p = if r = [] then some a else none := by
 obtain ⟨s, h1, h2, h3⟩ := h
 have e : r = trim s := nrm_ext hr (nrm_trim _) fun k => by rw [cf_trim]; exact h2 k
 rw [h3, dvs, e]
 split <;> simp
def evs (L : List Int) (x : Int) : Nat → Int
 | 0 => 0
 | n + 1 => evs L x n + cf L n * x ^ n
end Pl
end Go.Proofs.YtepddegphdlbeaaGreat
namespace Go.Proofs.YtepddegphdlbeaaGreat
open Go.RowKit
theorem Rz.one {w : World} {u : Value} {z : Int} (h : Rz w u z) : u.oneCell' = true := by obtain ⟨pu, bu, ou, cu, rfl, -⟩ := h; rfl
theorem k'h4 {P : Program} (hP : P = Tryz.prog) {w0 w5 : World} {v u : Value} {p : List Int} {z : Int} {o : Oper} {a : Act} {K : Act → World → Prop} {Q : Exit → Act → World → Prop} (s x : Operand)
 (ho : o.op = .call { callee := .builtin .append, args := #[s, x], argTypes := #[34, 34] })
 (hs : a.eval s = v) (hx : a.eval x = .slice (some ⟨w5.heap.size, 0, none⟩) 1 1) (hrow : RowP w5 w0.heap.size v p) (hz : Rz w5 u z) (hl : p.length ≤ 100000) (hb : Below w0.heap.size w0 w5)
 (h : ∀ v' w', RowP w' w0.heap.size v' (p ++ [z]) → Below w0.heap.size w0 w' → w5.heap.size ≤ w'.heap.size → K (a.put o.dst v') w') : o.wp P a (w5.alloc (.cells #[.bool (decide (z < 0)), u] 52)) K Q := by
 subst hP
 have hi : (Tryz.prog.info? 52).map (fun i => (i.zero, i.size, i.bytes)) = some (some (.agg #[.bool false, .slice none 0 0]), 2, 32) := by kernel_rfl
 obtain ⟨i0, hi0, hz0, hz1, hz2⟩ := info_parts hi
 obtain ⟨us, hul, hown, hzs⟩ := hrow
 have hal := k'56 w5 (.cells #[.bool (decide (z < 0)), u] 52)
 have hsz := hb.size
 refine wp_append_own _ s x 34 ho w0.heap.size 52 i0 (.agg #[.bool false, .slice none 0 0]) 2 32 Tryz.underlying34 hi0 hz0 hz1 hz2 rfl (by decide) v p.length (rv p us) hs (hown.alloc _) ⟨w5.heap.size, 0, none⟩ 1 1 [.bool (decide (z < 0)), u] hx rfl (k'di _ _ _ _) ?_ ?_ ?_ ?_ ?_
 ·intro y hy
  simp at hy
  rcases hy with rfl | rfl
  ·rfl
  ·exact hz.one
 ·unfold maxLen; omega
 ·omega
 ·simp; omega
 ·intro v' w1 hown1 hgrow1 _
  refine h v' w1 (RowP.snoc hul (hown.alloc _) (fun j h1 h2 => (hzs j h1 h2).below hal) hgrow1 hown1 (hz.below hal)) ((hb.alloc hb.size _).grown hgrow1 (by simp; omega) (fun q hq => (hown.lt q hq).1)) ?_
  have := hgrow1.size
  simp at this
  omega
theorem k'h5 {P : Program} (hP : P = Tryz.prog) {w0 w5 : World} {v u : Value} {p : List Int} {z : Int} {ops : Array Oper} {rest : List Oper} {o : Oper} {a : Act} {Q : Exit → Act → World → Prop} (hgd : o.guard = none) (s x : Operand)
 (ho : o.op = .call { callee := .builtin .append, args := #[s, x], argTypes := #[34, 34] })
 (hs : a.eval s = v) (hx : a.eval x = .slice (some ⟨w5.heap.size, 0, none⟩) 1 1) (hrow : RowP w5 w0.heap.size v p) (hz : Rz w5 u z) (hl : p.length ≤ 100000) (hb : Below w0.heap.size w0 w5)
 (h : ∀ v' w', RowP w' w0.heap.size v' (p ++ [z]) → Below w0.heap.size w0 w' → w5.heap.size ≤ w'.heap.size → wpList P ops Q rest (a.put o.dst v') w') : wpList P ops Q (o :: rest) a (w5.alloc (.cells #[.bool (decide (z < 0)), u] 52)) :=
 wpList_plain hgd fun _ hK => k'h4 hP s x ho hs hx hrow hz hl hb fun v' w' h2 h3 h4 => hK _ _ (h v' w' h2 h3 h4)
def Bz (w : World) (g : Nat) (z : Int) : Prop := ∃ v, Rz w v z ∧ ZC (.bool (decide (z < 0))) v w g
theorem Bz.below {w w' : World} {g : Nat} {z : Int} (h : Bz w g z) (hb : Below w.heap.size w w') : Bz w' g z := by
 obtain ⟨v, h1, h2⟩ := h; exact ⟨v, h1.below hb, h2.next hb⟩
theorem Bz.lt {w : World} {g : Nat} {z : Int} (h : Bz w g z) : g < w.heap.size := by obtain ⟨v, h1, h2⟩ := h; exact h2.lt
theorem Bz.made {w : World} {v : Value} {z : Int} (h : Rz w v z) : Bz (w.alloc (.cells #[.bool (decide (z < 0)), v] 52)) w.heap.size z := ⟨v, Ri.allocd h _, ZC.new rfl⟩
theorem Rz.noint {w : World} {v : Value} {z : Int} (h : Rz w v z) : ∀ n, v ≠ .int .i64 n := by obtain ⟨p, b, o, c, rfl, -⟩ := h; intro n; simp
theorem Bz.open_ {w : World} {g : Nat} {z : Int} (h : Bz w g z) : ∃ (p : Option Addr) (c : Nat), Rz w (.slice p (Nm.dg D9 z.natAbs).length c) z ∧ w.cell? ⟨g, 0, none⟩ = some (.bool (decide (z < 0))) ∧ w.cell? ⟨g, 1, none⟩ = some (.slice p (Nm.dg D9 z.natAbs).length c) ∧ w.frozen? ⟨g, 0, none⟩ = false ∧ w.frozen? ⟨g, 1, none⟩ = false := by
 obtain ⟨v, h1, h2, h3, h4, h5⟩ := h
 have h6 := h1
 obtain ⟨p, b, o, c, rfl, -⟩ := h6
 exact ⟨p, c, h1, h2, h3, h4, h5⟩
theorem Rz.stored {w : World} {g : Nat} {z z0 : Int} {v : Value} (h : Rz w v z) (k : Bz w g z0) (u1 u2 : Value) : Rz ((w.setCell ⟨g, 0, none⟩ u1).setCell ⟨g, 1, none⟩ u2) v z := by
 obtain ⟨v0, h1, h2⟩ := k
 exact Ri.set2 h h2.1 h2.2.1 h1.noint
theorem Bz.store {w : World} {g : Nat} {z z0 : Int} {v : Value} (k : Bz w g z0) (h : Rz w v z) : Bz ((w.setCell ⟨g, 0, none⟩ (.bool (decide (z < 0)))).setCell ⟨g, 1, none⟩ v) g z :=
 ⟨v, h.stored k _ _, by obtain ⟨v0, h1, h2⟩ := k; exact h2.set⟩
theorem Bz.other {w : World} {g g2 : Nat} {z z2 : Int} (h : Bz w g z) (k : Bz w g2 z2) (hn : ¬ g = g2) (u1 u2 : Value) : Bz ((w.setCell ⟨g2, 0, none⟩ u1).setCell ⟨g2, 1, none⟩ u2) g z := by
 obtain ⟨v, h1, h2⟩ := h
 exact ⟨v, h1.stored k _ _, h2.other hn⟩
theorem Bz.alloc {w : World} {g : Nat} {z : Int} (h : Bz w g z) (o : Obj) : Bz (w.alloc o) g z := h.below (k'56 w o)
def qV (x y : Int) (v1 v2 : Value) : Value := .agg #[.bool (decide (x < 0)), v1, .bool (decide (y < 0)), v2]
def RQPost (x y : Int) (w : World) (e : Ending) (w' : World) : Prop := ∃ v1 v2, e = .returned (qV x y v1 v2) ∧ Rz w' v1 x ∧ Rz w' v2 y ∧ Below w.heap.size w w'
theorem Ri.set4 {w : World} {g : Nat} {v : Value} {xs : List Nat} {b0 b1 : Bool} {p p' : Option Addr} {n c n' c' : Nat} (h : Ri w v xs) (q : ZC4 (.bool b0) (.slice p n c) (.bool b1) (.slice p' n' c') w g) (x y z u : Value) : Ri ((((w.setCell ⟨g, 0, none⟩ x).setCell ⟨g, 1, none⟩ y).setCell ⟨g, 2, none⟩ z).setCell ⟨g, 3, none⟩ u) v xs := by
 obtain ⟨⟨h1, h2, h3, h4⟩, _⟩ := q
 refine (((h.set h1 (fun _ => by simp)).set (old := .slice p n c) ?_ (fun _ => by simp)).set (old := .bool b1) ?_ (fun _ => by simp)).set (old := .slice p' n' c') ?_ (fun _ => by simp) <;> simp [go_sem, h1, h2, h3, h4]
def lg (n d : Int) : Int := if d < 0 then -((Nat.gcd n.natAbs d.natAbs : Nat) : Int) else ((Nat.gcd n.natAbs d.natAbs : Nat) : Int)
theorem len9 {z : Int} {k : Nat} (h : z.natAbs < D9 ^ k) : (Nm.dg D9 z.natAbs).length ≤ k := Nm.len_le_of_val D92 (Nm.nrm_dg D92 _) (by rwa [Nm.val_dg D92])
theorem k'hm (c : Bool) (A : Nat) : zb (sg c A) = (c && decide (A ≠ 0)) ∧ zs (sg c A) = bs A := by
 have h := wd_sg c A
 rw [wd] at h
 injection h with h
 have h1 := congrArg (fun l => l[0]?) h
 have h2 := congrArg (fun l => l[1]?) h
 simp at h1 h2
 exact ⟨by rw [← h1]; simp, h2.symm⟩
theorem k'hn (c e : Bool) (A g : Nat) (hg : 0 < g) : sg c (g * A) / sg e g = sg (c != e) A := by
 have h := k'bs (a := c) (b := e) (m := g * A) (n := g) hg
 rw [← h]
 unfold eq1
 rw [Nat.mul_mod_right]
 simp [hg]
theorem lg_sg (x y : Int) (hy : y ≠ 0) : lg x y = sg (zb y) (Nat.gcd x.natAbs y.natAbs) := by
 unfold lg sg zb
 by_cases h : y < 0
 ·rw [if_pos h, decide_eq_true h, if_pos rfl]
 ·rw [if_neg h, decide_eq_false h, if_neg (by simp)]
theorem k'ho (x y : Int) (hy : y ≠ 0) (g : Nat) (hg : Nat.gcd x.natAbs y.natAbs = g) :
 x / lg x y = sg (zb x != zb y) (x.natAbs / g) ∧ y / lg x y = sg false (y.natAbs / g) := by
 have hgp : 0 < g := by rw [← hg]; exact Nat.gcd_pos_of_pos_right _ (by omega)
 obtain ⟨A, hA⟩ : g ∣ x.natAbs := by rw [← hg]; exact Nat.gcd_dvd_left _ _
 obtain ⟨B, hB⟩ : g ∣ y.natAbs := by rw [← hg]; exact Nat.gcd_dvd_right _ _
 have hx : x = sg (zb x) (g * A) := by rw [← hA]; exact (sg_z x).symm
 have hy2 : y = sg (zb y) (g * B) := by rw [← hB]; exact (sg_z y).symm
 have eA : x.natAbs / g = A := by rw [hA]; exact Nat.mul_div_cancel_left _ hgp
 have eB : y.natAbs / g = B := by rw [hB]; exact Nat.mul_div_cancel_left _ hgp
 rw [lg_sg x y hy, hg, eA, eB]
 constructor
 ·conv => lhs; rw [hx]
  exact k'hn _ _ _ _ hgp
 ·have h5 := k'hn (zb y) (zb y) B g hgp
  rw [← hy2] at h5
  rw [h5]
  simp
theorem k'hp (m n : Nat) (hm : m < Top) (hn : n < Top) (h0 : 0 < n) : LowOK m n (m / Nat.gcd m n) (n / Nat.gcd m n) := by
 have hg := Nat.gcd_pos_of_pos_right m h0
 have hgn : Nat.gcd m n ≤ n := Nat.gcd_le_right m h0
 have a1 : m / Nat.gcd m n < Top := Nat.lt_of_le_of_lt (Nat.div_le_self _ _) hm
 have a2 : n / Nat.gcd m n < Top := Nat.lt_of_le_of_lt (Nat.div_le_self _ _) hn
 have lt : ∀ {z}, z < Top → (Nm.dg W z).length ≤ 900000000 := fun h => Nat.le_trans (k'47 h) (by decide)
 exact ⟨k'bn m n (lt hm) (lt hn), k'az _ _ hg (lt hm) (lt (by omega)), k'az _ _ hg (lt hn) (lt (by omega)), rfl, rfl, Nat.le_trans (k'47 a1) (by decide), Nat.le_trans (k'47 a2) (by decide), a1, a2⟩
theorem low_z (x y : Int) (hy : y ≠ 0) : (((zb x != zb y) && decide (x.natAbs / Nat.gcd x.natAbs y.natAbs ≠ 0)) = zb (x / lg x y) ∧ bs (x.natAbs / Nat.gcd x.natAbs y.natAbs) = zs (x / lg x y)) ∧ false = zb (y / lg x y) ∧ bs (y.natAbs / Nat.gcd x.natAbs y.natAbs) = zs (y / lg x y) := by
 obtain ⟨e1, e2⟩ := k'ho x y hy _ rfl
 obtain ⟨p1, p2⟩ := k'hm (zb x != zb y) (x.natAbs / Nat.gcd x.natAbs y.natAbs)
 obtain ⟨p3, p4⟩ := k'hm false (y.natAbs / Nat.gcd x.natAbs y.natAbs)
 rw [e1, e2, p1, p2, p3, p4]
 exact ⟨⟨rfl, rfl⟩, rfl, rfl⟩
def Fit (z : Int) (k : Nat) : Prop := z.natAbs < 256 ^ k
theorem Fit.top {z : Int} {k : Nat} (h : Fit z k) (hk : k ≤ 8192) : z.natAbs < Top := (k'bt hk h).1
theorem Fit.len {z : Int} {k : Nat} (h : Fit z k) (hk : k ≤ 8192) : (Nm.dg D9 z.natAbs).length ≤ 1000000 := Nat.le_trans (k'bt hk h).2 (by decide)
theorem Fit.size {z : Int} {k : Nat} (h : Fit z k) (hk : k ≤ 8192) : (zs z).size ≤ 8192 := k'5t (h.top hk)
theorem Fit.le {y z : Int} {k : Nat} (h : Fit z k) (hle : y.natAbs ≤ z.natAbs) : Fit y k := Nat.lt_of_le_of_lt hle h
theorem k'hr {n : Int} {k : Nat} (hk : k = 60) (h1 : -9223372036854775808 ≤ n) (h2 : n ≤ 9223372036854775807) : Fit n k := by
 subst hk
 have h3 : n.natAbs < 256 ^ 8 := by omega
 exact Nat.lt_of_lt_of_le h3 (Nat.pow_le_pow_right (by decide) (by decide))
def Sz (n : Nat) (p : List Int) : Prop := ∀ k, (Pl.cf p k).natAbs < D9 ^ n
theorem Sz.mono {n m : Nat} {p : List Int} (h : Sz n p) (hm : n ≤ m) : Sz m p := fun k => Nat.lt_of_lt_of_le (h k) (Nat.pow_le_pow_right (by decide) hm)
theorem Sz.nil (n : Nat) : Sz n [] := fun k => by rw [Pl.cf_nil]; exact Nat.pow_pos (by decide)
theorem Sz.cf {n : Nat} {p q : List Int} (h : Sz n p) (hc : ∀ k, Pl.cf q k = Pl.cf p k) : Sz n q := fun k => by rw [hc]; exact h k
theorem Sz.trim {n : Nat} {p : List Int} (h : Sz n p) : Sz n (Pl.trim p) := h.cf (Pl.cf_trim p)
theorem Sz.len {n : Nat} {p : List Int} (h : Sz n p) (k : Nat) : (Nm.dg D9 (Pl.cf p k).natAbs).length ≤ n := len9 (h k)
theorem addD9 {n m : Nat} {a b : Nat} (ha : a < D9 ^ n) (hb : b < D9 ^ m) : a + b < D9 ^ (max n m + 1) := by
 have h1 : D9 ^ n ≤ D9 ^ max n m := Nat.pow_le_pow_right (by decide) (Nat.le_max_left _ _)
 have h2 : D9 ^ m ≤ D9 ^ max n m := Nat.pow_le_pow_right (by decide) (Nat.le_max_right _ _)
 rw [Nat.pow_succ, show D9 = 1000000000 from rfl]
 rw [show D9 = 1000000000 from rfl] at h1 h2 ha hb
 omega
theorem mulD9 {n m : Nat} {a b : Nat} (ha : a < D9 ^ n) (hb : b < D9 ^ m) : a * b < D9 ^ (n + m) := by
 rw [Nat.pow_add]
 exact Nat.mul_lt_mul_of_lt_of_le ha (Nat.le_of_lt hb) (Nat.pow_pos (by decide))
theorem Sz.add {n m : Nat} {p q : List Int} (h : Sz n p) (h' : Sz m q) : Sz (max n m + 1) (Pl.add p q) := fun k => by
 rw [Pl.cf_add]
 exact Nat.lt_of_le_of_lt (Int.natAbs_add_le _ _) (addD9 (h k) (h' k))
theorem Sz.scl {n m : Nat} {p : List Int} {c : Int} (h : Sz n p) (hc : c.natAbs < D9 ^ m) : Sz (m + n) (Pl.scl c p) := fun k => by
 rw [Pl.cf_scl, Int.natAbs_mul]; exact mulD9 hc (h k)
theorem Sz.neg {n : Nat} {p : List Int} (h : Sz n p) : Sz n (Pl.scl (-1) p) := fun k => by
 rw [Pl.cf_scl, Int.natAbs_mul]; have := h k; simpa using this
def tab (f : Nat → Int) (n : Nat) : List Int := (List.range n).map f
theorem k'i0 {n m : Nat} {p q : List Int} (s1 : Sz n p) (s2 : Sz m q) (j i : Nat) : (Pl.conv p q j i).natAbs ≤ j * D9 ^ (n + m) := by
 induction j with
 | zero => simp [Pl.conv]
 | succ j ih =>
  rw [Pl.conv]
  have h2 : (if j ≤ i then Pl.cf p j * Pl.cf q (i - j) else 0).natAbs ≤ D9 ^ (n + m) := by
   split
   ·rw [Int.natAbs_mul]; exact Nat.le_of_lt (mulD9 (s1 _) (s2 _))
   ·simp
  refine Nat.le_trans (Int.natAbs_add_le _ _) ?_
  rw [Nat.succ_mul]
  omega
theorem k'i1 {n m : Nat} {p q : List Int} (s1 : Sz n p) (s2 : Sz m q) (j i : Nat) (hj : j ≤ 100000) : (Pl.conv p q j i).natAbs < D9 ^ (n + m + 1) := by
 refine Nat.lt_of_le_of_lt (k'i0 s1 s2 j i) ?_
 rw [Nat.pow_succ, Nat.mul_comm j]
 exact Nat.mul_lt_mul_of_pos_left (by show j < 1000000000; omega) (Nat.pow_pos (by decide))
theorem Sz.mul {n m : Nat} {p q : List Int} (s1 : Sz n p) (s2 : Sz m q) (l : p.length ≤ 1000) : Sz (n + m + 1) (Pl.mul p q) := fun k => by
 rw [Pl.cf_mul]; exact k'i1 s1 s2 _ _ (by omega)
theorem bvk {s : ByteArray} {k n : Nat} (hk : n = k) (hs : s.size ≤ n) : bv s < 256 ^ k := by
 subst hk
 have h5 := Nm.val_lt (k'30 s)
 rw [k'31] at h5
 exact Nat.lt_of_lt_of_le h5 (Nat.pow_le_pow_right (by decide) hs)
theorem k'i3 {z : Int} {n k : Nat} (h : z.natAbs < D9 ^ n) (hk : 4 * n = k) : Fit z k := by
 subst hk
 refine Nat.lt_of_lt_of_le h ?_
 rw [Nat.pow_mul]
 exact Nat.pow_le_pow_left (by decide) n
theorem k'i4 {p : List Int} {a : Int} (h : a ∈ p) : ∃ k, Pl.cf p k = a := by
 obtain ⟨k, hk, rfl⟩ := List.mem_iff_getElem.1 h
 exact ⟨k, Pl.cf_lt hk⟩
theorem Sz.top {n : Nat} {p : List Int} (h : Sz n p) (hn : n ≤ 2000) : ∀ a ∈ p, a.natAbs < Top := by
 intro a ha
 obtain ⟨k, rfl⟩ := k'i4 ha
 exact (k'i3 (h k) rfl).top (by omega)
theorem Sz.len9 {n : Nat} {p : List Int} (h : Sz n p) (hn : n ≤ 2000) : ∀ a ∈ p, (Nm.dg D9 a.natAbs).length ≤ 1000000 := by
 intro a ha
 obtain ⟨k, rfl⟩ := k'i4 ha
 exact (k'i3 (h k) rfl).len (by omega)
theorem k'i5 {p : List Int} (h : shP (zl p) = true) : Sz 16 p := by
 intro k
 rcases Nat.lt_or_ge k p.length with g | g
 ·rw [Pl.cf_lt g]
  have h1 := k'du h (zb p[k], zs p[k]) (List.mem_map.2 ⟨p[k], List.getElem_mem g, rfl⟩)
  have h2 := bvk (k := 16) rfl h1
  rw [bv_zs] at h2
  exact Nat.lt_of_lt_of_le h2 (Nat.pow_le_pow_left (by decide) 16)
 ·rw [Pl.cf_ge g]; exact Nat.pow_pos (by decide)
def RowW (w : World) (B : Nat) (v : Value) (p : List Int) : Prop := w.ownsRow B 44 2 v p.length (wv p)
theorem RowW.rp {w : World} {B : Nat} {v : Value} {p : List Int} (h : RowW w B v p) : Rp w v p := by
 rcases h.2 with ⟨rfl, h0⟩ | ⟨g, cap, cur, rfl, hB, hg, hn, hm, hs, ht⟩
 ·obtain rfl := List.eq_nil_of_length_eq_zero h0; exact Rw.nil w
 ·refine Rp.mk (b := g) (off := 0) rfl hn hm (fun _ => rfl) fun k hk => ⟨?_, ?_⟩
  ·have := h.cells (g := g) rfl (k * 2) _ (k'cg p k hk).1
   have hadd : ((⟨g, 0, none⟩ : Addr).add (k * 2)) = ⟨g, 0 + k * 2, none⟩ := by unfold Addr.add; split <;> simp_all
   rwa [hadd] at this
  ·have := h.cells (g := g) rfl (k * 2 + 1) _ (k'cg p k hk).2
   have hadd : ((⟨g, 0, none⟩ : Addr).add (k * 2 + 1)) = ⟨g, 0 + (k * 2 + 1), none⟩ := by unfold Addr.add; split <;> simp_all
   rw [hadd] at this
   simpa [Nat.add_assoc] using this
theorem RowW.below {w w' : World} {B : Nat} {v : Value} {p : List Int} (h : RowW w B v p) (hb : Below w.heap.size w w') : RowW w' B v p := by
 refine ⟨h.1, ?_⟩
 rcases h.2 with h0 | ⟨g, cap, cur, e, hB, hg, hn, hm, hs, ht⟩
 ·exact Or.inl h0
 ·exact Or.inr ⟨g, cap, cur, e, hB, (hb.block g (lt_of_block hg)).trans hg, hn, hm, hs, ht⟩
theorem k'ih (p : List Int) (v : Value) (w : World) (h : RP w v p) (hl : p.length ≤ 1000) (ht : ∀ a ∈ p, (Nm.dg D9 a.natAbs).length ≤ 1000000) : Calls Tryz.prog 114 #[v] w (RpPost p w) := by
 obtain ⟨a, b, off, cap, rfl, h2, h3, h4, h5⟩ := h
 have hi : (Tryz.prog.info? 44).map (fun i => (i.zero, i.size, i.bytes)) = some (some (.agg #[.bool false, .string ⟨#[]⟩]), 2, 24) := by kernel_rfl
 obtain ⟨i0, hi0, hz0, hz1, hz2⟩ := info_parts hi
 have HI := i' (And.intro hi0 (And.intro hz0 (And.intro hz1 hz2)))
 have HF := i' (fun k (hk : k < p.length) u w (h : Rz w u (p[k]'hk)) => k'7y p[k] u w h (ht _ (List.getElem_mem hk)))
 obtain ⟨n, hn⟩ : ∃ n, n = p.length := ⟨_, rfl⟩
 rw [← hn] at hl ⊢
 have HN := i' hn
 have H4 := i' h4
 have H5 := i' h5
 clear h2 h3 h4 h5 hi hi0 hz0 hz1 hz2 hn ht
 go_enter Tryz.func114, Tryz.ntmps114
 go_wp2
 go_loopw [3, 4] (fun v iv wr => ∃ (wz : World) (k : Nat), wz = wr ∧ k ≤ n ∧ iv = .int .i64 (k : Int) ∧ Hid (RowW wz w.heap.size v (p.take k)) ∧ Hid (Below w.heap.size w wz))
  (fun _ iv _ => n - (intOf iv).toNat)
 case atStart => exact ⟨w, 0, rfl, Nat.zero_le _, rfl, World.ownsRow_nil _ _ _ _, Below.refl _ _⟩
 case round =>
  obtain ⟨wz, k, rfl, hk, rfl, hrow, hbl⟩ := hrel
  by_cases hlt : k < n
  ·have hkp : k < p.length := by have h5 : n = p.length := HN.out; omega
   obtain rfl := H4.out (by intro e; rw [e] at hkp; exact absurd hkp (Nat.not_lt_zero _))
   obtain ⟨uk, g0, g1, g2⟩ := H5.out k hkp
   have c0 := keep1 hbl.out g0
   have c1 := keep1 hbl.out g1
   have HFk := i' (HF.out k hkp uk wz (g2.below hbl.out))
   clear g0 g1 g2
   unfold iV at HFk
   have HTk : Hid (p.take k ++ [p[k]] = p.take (k + 1)) := (List.take_succ_eq_append_getElem hkp).symm
   have hkk : (k : Int) < (n : Int) := by omega
   have hk0 : (0 : Int) ≤ (k : Int) := by omega
   generalize p[k] = z at *
   clear hkp
   go_wp2_with fail
   refine HFk.out.mono ?_
   rintro e w5 ⟨rfl, b5⟩
   have HW5 := i' (hrow.out.below b5)
   have HB5 := i' (chain hbl.out b5)
   clear b5 hrow hbl c0 c1
   simp only [wz_eq]
   go_wp2_with (at_builtin; refine wpList_append_own _ rfl _ _ 23 rfl w.heap.size 44 i0 (.agg #[.bool false, .string ⟨#[]⟩]) 2 24 Tryz.underlying23 HI.out.1 HI.out.2.1 HI.out.2.2.1 HI.out.2.2.2 rfl (by decide) _ _ _ rfl (HW5.out.alloc _) ⟨w5.heap.size, 0, none⟩ 1 1 [.bool (zb z), .string (zs z)] rfl rfl ?dc1 ?dc2 ?dc3 ?dc4 ?dc5 ?_)
   case dc1 => exact k'di _ _ _ _
   case dc2 =>
    intro x hx
    simp at hx
    rcases hx with rfl | rfl
    ·rfl
    ·rfl
   case dc3 => unfold maxLen; simp; omega
   case dc4 => simp; omega
   case dc5 => have h5 := HB5.out.size; simp; omega
   intro v' w1 hown1 hgrow1 _
   have HN1 : Hid (RowW w1 w.heap.size v' (p.take (k + 1))) := by
    show World.ownsRow _ _ _ _ _ _ _
    rw [← HTk.out, k'ci, List.length_append, List.length_take]
    exact hown1
   have HB1 : Hid (Below w.heap.size w w1) := (HB5.out.alloc HB5.out.size _).grown hgrow1 (by have h5 := HB5.out.size; simp; omega) (fun q hq => (HW5.out.lt q hq).1)
   clear hown1 hgrow1
   go_wp2
   go_roundw
   case rel => exact ⟨_, k + 1, rfl, by omega, by go_num, HN1.out, HB1.out⟩
   case measure => simp [intOf]; omega
  ·obtain rfl : k = n := by omega
   have HRo : Hid (Rp wz u3 p) := by
    have h5 := hrow.out.rp
    rw [show k = p.length from HN.out, List.take_length] at h5
    exact h5
   go_wp2
   go_ret
   exact ⟨_, rfl, HRo.out, hbl.out⟩
def Rn (w : World) (v : Value) (L : List Int) : Prop := ∃ (p : Option Addr) (b off cap : Nat), v = .slice p L.length cap ∧ (0 < L.length → p = some ⟨b, off, none⟩) ∧ ∀ k (h : k < L.length), w.cell? ⟨b, off + k, none⟩ = some (.int .i64 L[k])
theorem k'ii (L : List Int) (v : Value) (w : World) (h : Rn w v L) (hl : L.length ≤ 1000) (ht : ∀ a ∈ L, -9223372036854775808 ≤ a ∧ a ≤ 9223372036854775807) :
 Calls Tryz.prog 22 #[v] w (fun e w' => if (Pl.trim L).length ≤ 25 then ResP (Pl.trim L) w e w' else ResE 7 w e w') := by
 obtain ⟨p, b, off, cap, rfl, h4, h5⟩ := h
 obtain ⟨Q, hQ⟩ : ∃ Q : Ending → World → Prop, Q = fun e w' => if (Pl.trim L).length ≤ 25 then ResP (Pl.trim L) w e w' else ResE 7 w e w' := ⟨_, rfl⟩
 rw [← hQ]
 have HOk : Hid (∀ k, k ≤ L.length → Pl.trim L = L.take k → k ≤ 25 → ∀ e w', ResP (Pl.trim L) w e w' → Q e w') := by
  intro k hk hkt h25 e w' hr
  rw [hQ]
  show ite _ _ _
  rw [if_pos (by rw [hkt]; simp; omega)]
  exact hr
 have HFull : Hid (∀ k, k ≤ L.length → Pl.trim L = L.take k → ¬ k ≤ 25 → ∀ e w', ResE 7 w e w' → Q e w') := by
  intro k hk hkt h25 e w' hr
  rw [hQ]
  show ite _ _ _
  rw [if_neg (by rw [hkt]; simp; omega)]
  exact hr
 have HK := i' (fun k (h25 : k ≤ 25) w => k'cm k w (by omega))
 obtain ⟨n, hn⟩ : ∃ n, n = L.length := ⟨_, rfl⟩
 rw [← hn] at hl h4 HOk HFull ⊢
 have HN := i' hn
 have H4 := i' h4
 have H5 := i' h5
 have HT := i' ht
 clear hQ h4 h5 ht hn
 go_enter Tryz.func22, Tryz.ntmps22
 go_wp2
 go_loopw [4] (fun kv wr => ∃ k : Nat, w = wr ∧ k ≤ n ∧ kv = .int .i64 (k : Int) ∧ Hid (∀ i (h : i < L.length), k ≤ i → L[i] = 0))
  (fun kv _ => (intOf kv).toNat)
 case atStart => exact ⟨n, rfl, Nat.le_refl _, rfl, fun i h hi => absurd h (by have h5 : n = L.length := HN.out; omega)⟩
 case round =>
  obtain ⟨k, rfl, hk, rfl, hz⟩ := hrel
  rcases Nat.eq_zero_or_pos k with h0 | h0
  ·have htk : Pl.trim L = L.take 0 := Pl.trim_take (Nat.zero_le _) (fun i h _ => hz.out i h (by omega)) (by rw [List.take_zero]; exact Pl.nrm_nil)
   have HR := i' (HOk.out 0 (Nat.zero_le _) htk (by omega))
   have HE : Hid (Pl.trim L = []) := by show _ = _; rw [htk, List.take_zero]
   have hmk : ∀ w, (Instr.makeSlice 23 (.int .i64 0) (.int .i64 0)).run Tryz.prog w = .ok (.slice (some ⟨w.heap.size, 0, none⟩) 0 0) (w.alloc (.cells (wv ([] : List Int)).toArray 44)) := HK.out 0 (by omega)
   subst h0
   clear hz htk HOk HFull
   go_wp2
   clear hmk
   obtain ⟨w1, hw1⟩ : ∃ w1 : World, w1 = w.alloc (.cells (wv ([] : List Int)).toArray 44) := ⟨_, rfl⟩
   have HB1 : Hid (Below w.heap.size w w1) := by show Below _ _ _; rw [hw1]; exact (Below.refl _ _).alloc (Nat.le_refl _) _
   rw [← hw1]
   clear hw1
   go_loopw [6, 27] (fun _ iv wr => w1 = wr ∧ iv = .int .i64 0) (fun _ _ _ => 0)
   case atStart => exact ⟨rfl, rfl⟩
   case round =>
    obtain ⟨rfl, rfl⟩ := hrel
    go_wp2
    exact HR.out _ _ ⟨_, rfl, by rw [HE.out]; exact Rp.mk (b := 0) (off := 0) rfl (Nat.le_refl _) (by decide) (fun h => absurd rfl h) (fun k hk => absurd hk (by simp)), HB1.out⟩
  ·obtain ⟨j, hj⟩ : ∃ j, k = j + 1 := ⟨k - 1, by omega⟩
   have hjL : j < L.length := by have h5 : n = L.length := HN.out; omega
   obtain rfl := H4.out (by omega)
   have c0 := H5.out j hjL
   have j0 : (k : Int) - 1 = (j : Int) := by omega
   have j1 : (j : Int) < (n : Int) := by omega
   have j2 : (0 : Int) ≤ (j : Int) := by omega
   have j3 : (0 : Int) < (k : Int) := by omega
   have j4 : IntKind.i64.wrap (j : Int) = (j : Int) := IntWalk.i64_in _ (by omega)
   by_cases hv : L[j] = 0
   ·have HV := i' hv
    rw [hv] at c0
    have HZ : Hid (∀ i (h : i < L.length), j ≤ i → L[i] = 0) := by
     intro i h hi
     rcases Nat.lt_or_ge j i with g | g
     ·exact hz.out i h (by omega)
     ·obtain rfl : i = j := by omega
      exact HV.out
    clear hv hz hj h0
    go_wp2
    go_roundw
    case rel => exact ⟨j, (by first | rfl | trivial), by omega, rfl, HZ.out⟩
    case measure => simp [intOf]; omega
   ·have htk : Hid (Pl.trim L = L.take k) := by
     show _ = _
     rw [hj]
     exact Pl.trim_take (by omega) (fun i h hi => hz.out i h (by omega)) (Pl.nrm_take_last hjL hv)
    have hv2 : (L[j] == 0) = false := by simpa using hv
    clear hz
    generalize L[j] = lz at *
    clear hv hjL hj h0
    by_cases h25 : k ≤ 25
    ·have HR := i' (HOk.out k hk htk.out h25)
     have hk25 : ¬ (25 : Int) < (k : Int) := by omega
     have hkk : (k : Int) ≤ 25 := by omega
     have hmk := HK.out k h25
     clear HOk HFull
     go_wp2
     clear hmk
     obtain ⟨w1, hw1⟩ : ∃ w1 : World, w1 = w.alloc (.cells (wv (List.replicate k 0)).toArray 44) := ⟨_, rfl⟩
     have HA1 : Hid (Aw w1 w.heap.size (L.take 0 ++ List.replicate (k - 0) 0)) := by rw [hw1, List.take_zero, List.nil_append, Nat.sub_zero]; exact Aw.made w _
     have HB1 : Hid (Below w.heap.size w w1) := by show Below _ _ _; rw [hw1]; exact (Below.refl _ _).alloc (Nat.le_refl _) _
     rw [← hw1]
     clear hw1
     go_loopw [6, 27] (fun _ iv wr => ∃ (wz : World) (i : Nat), wz = wr ∧ i ≤ k ∧ iv = .int .i64 (i : Int) ∧ Hid (Aw wz w.heap.size (L.take i ++ List.replicate (k - i) 0)) ∧ Hid (Below w.heap.size w wz))
      (fun _ iv _ => k - (intOf iv).toNat)
     case atStart => exact ⟨w1, 0, rfl, Nat.zero_le _, rfl, HA1.out, HB1.out⟩
     case round =>
      clear HA1 HB1
      obtain ⟨wz, i, rfl, hi, rfl, haw, hbl⟩ := hrel
      have hgl := haw.out.lt
      by_cases hlt : i < k
      ·have hiL : i < L.length := by have h5 : n = L.length := HN.out; omega
       have c0 := keep1 hbl.out (H5.out i hiL)
       have HOi := i' (fun w => zz_of L[i] w (HT.out _ (List.getElem_mem hiL)).1 (HT.out _ (List.getElem_mem hiL)).2)
       have hll : i < (L.take i ++ List.replicate (k - i) 0).length := by simp; omega
       have HSet : Hid ((L.take i ++ List.replicate (k - i) 0).set i L[i] = L.take (i + 1) ++ List.replicate (k - (i + 1)) 0) := by
        show _ = _
        obtain ⟨d, hd⟩ : ∃ d, k - i = d + 1 := ⟨k - i - 1, by omega⟩
        have h6 := k'fq (L.take i) d L[i]
        rw [show (L.take i).length = i by simp; omega] at h6
        rw [hd, h6, show k - (i + 1) = d by omega, List.take_succ_eq_append_getElem hiL]
       have i0 : (0 : Int) ≤ (i : Int) := by omega
       have i1 : (i : Int) < (k : Int) := by omega
       have i2 : (i : Int) < (n : Int) := by omega
       have HLL := i' hll
       clear hll
       generalize L[i] = x at *
       clear hiL
       unfold Z at HOi
       go_wp2_with fail
       refine (HOi.out _).mono ?_
       rintro e w5 ⟨rfl, b5⟩
       have HA5 := i' (haw.out.below b5)
       have HB5 := i' (chain hbl.out b5)
       clear b5 c0
       obtain ⟨y0, y1⟩ := HA5.out.cell i HLL.out
       have f0 := HA5.out.free (i * 2)
       have f1 := HA5.out.free (i * 2 + 1)
       have HA7 := HA5.out.set i HLL.out x
       rw [HSet.out] at HA7
       have HA8 := i' HA7
       have HB8 := i' ((HB5.out.setCell (p := ⟨w.heap.size, i * 2, none⟩) (Nat.le_refl _) (.bool (zb x))).setCell (p := ⟨w.heap.size, i * 2 + 1, none⟩) (Nat.le_refl _) (.string (zs x)))
       clear HA7
       go_wp2
       go_roundw
       case rel => exact ⟨_, i + 1, rfl, by omega, by go_num, HA8.out, HB8.out⟩
       case measure => simp [intOf]; omega
      ·obtain rfl : i = k := by omega
       have HRp : Hid (Rp wz (.slice (some ⟨w.heap.size, 0, none⟩) i i) (Pl.trim L)) := by
        have h5 := haw.out
        rw [Nat.sub_self, List.replicate_zero, List.append_nil, ← htk.out] at h5
        exact Rp.of_whole h5 i i (by rw [htk.out]; simp; have h5 : n = L.length := HN.out; omega) (Nat.le_refl _) (by unfold maxLen; omega)
       go_wp2
       exact HR.out _ _ ⟨_, rfl, HRp.out, hbl.out⟩
    ·have HR := i' (HFull.out k hk htk.out h25)
     have hk25 : (25 : Int) < (k : Int) := by omega
     clear HOk HFull
     go_wp2
     exact HR.out _ _ ⟨rfl, Below.refl _ _⟩
theorem k'ik (L : List Int) (v : Value) (w : World) (h : Rn w v L) (hl : L.length ≤ 1000) (ht : ∀ a ∈ L, -9223372036854775808 ≤ a ∧ a ≤ 9223372036854775807) : Calls Tryz.prog 23 #[v] w (RPPost (Pl.trim L) w) := by
 obtain ⟨a, b, off, cap, rfl, h4, h5⟩ := h
 have HF := i' (fun k (hk : k < L.length) w => k'8f L[k] w (ht _ (List.getElem_mem hk)).1 (ht _ (List.getElem_mem hk)).2)
 have HTk := i' (fun k (hk : k < L.length) => show L.take k ++ [L[k]] = L.take (k + 1) from (List.take_succ_eq_append_getElem hk).symm)
 obtain ⟨n, hn⟩ : ∃ n, n = L.length := ⟨_, rfl⟩
 rw [← hn] at hl h4 ⊢
 have HN := i' hn
 have H4 := i' h4
 have H5 := i' h5
 clear h4 h5 hn ht
 go_enter Tryz.func23, Tryz.ntmps23
 go_wp2
 go_loopw [3, 4] (fun v iv wr => ∃ (wz : World) (k : Nat), wz = wr ∧ k ≤ n ∧ iv = .int .i64 (k : Int) ∧ Hid (RowP wz w.heap.size v (L.take k)) ∧ Hid (Below w.heap.size w wz))
  (fun _ iv _ => n - (intOf iv).toNat)
 case atStart => exact ⟨w, 0, rfl, Nat.zero_le _, rfl, RowP.nil _ _, Below.refl _ _⟩
 case round =>
  obtain ⟨wz, k, rfl, hk, rfl, hrow, hbl⟩ := hrel
  by_cases hlt : k < n
  ·have hkp : k < L.length := by have h5 : n = L.length := HN.out; omega
   obtain rfl := H4.out (by omega)
   have c0 := keep1 hbl.out (H5.out k hkp)
   have HFk := i' (HF.out k hkp)
   have HT := i' (HTk.out k hkp)
   have hkk : (k : Int) < (n : Int) := by omega
   have hk0 : (0 : Int) ≤ (k : Int) := by omega
   have HLk : Hid ((L.take k).length ≤ 100000) := by show _ ≤ _; rw [List.length_take]; omega
   generalize L[k] = z at *
   clear hkp
   go_wp2_with fail
   refine (HFk.out _).mono ?_
   rintro e w5 ⟨u, rfl, r5, b5⟩
   have HR5 := i' r5
   have HX5 := i' (hrow.out.below b5)
   have HB5 := i' (chain hbl.out b5)
   clear b5 r5 c0
   unfold iV
   go_wp2_with (at_builtin; refine k'h5 rfl rfl _ _ rfl rfl rfl HX5.out HR5.out HLk.out HB5.out ?_)
   intro v' w1 hrow1 hb1 _
   have HN1 := i' hrow1
   have HB1 := i' hb1
   rw [HT.out] at HN1
   clear hrow1 hb1
   go_wp2
   go_roundw
   case rel => exact ⟨_, k + 1, rfl, by omega, by go_num, HN1.out, HB1.out⟩
   case measure => simp [intOf]; omega
  ·obtain rfl : k = n := by omega
   have HRo : Hid (RP wz u3 L) := by
    have h5 := hrow.out.rp
    rw [show k = L.length from HN.out, List.take_length] at h5
    exact h5
   go_wp2_with fail
   refine (k'dh _ _ _ HRo.out).mono ?_
   rintro e w6 ⟨v6, rfl, r6, b6⟩
   have HR6 := i' r6
   have HB6 := i' (chain hbl.out b6)
   clear r6 b6
   go_wp2
   go_ret
   exact ⟨_, rfl, HR6.out, HB6.out⟩
theorem k'in (w : World) (a b : Bool) (s t : ByteArray) : (binOp .neq 44 (.agg #[.bool a, .string s]) (.agg #[.bool b, .string t])).run Tryz.prog w = .ok (.bool (!(a == b && s.toList == t.toList))) w := by
 have hu := Tryz.underlying44
 have hs : Tryz.prog.stoodInHeld 44 = false := by kernel_rfl
 rw [run_neq_struct, show (10000 : Nat) = 9999 + 1 from rfl, run_equalIn_agg w 9999 _ _ _ (by simp only [Program.fieldsOf, hu]) hs]
 simp only [Program.fieldsOf, hu]
 cases hab : (a == b) <;> simp [Op.eqFields, go_sem, part, run_equalIn_bool', run_equalIn_string, Tryz.underlying4, Tryz.underlying9, hab]
 by_cases h : s.toList = t.toList <;> simp [h]
theorem k'iq (L1 L2 : List (Bool × ByteArray)) (v1 v2 : Value) (w : World) (h1 : Rw w v1 L1) (h2 : Rw w v2 L2) :
 Calls Tryz.prog 18 #[v1, v2] w (BPost (decide (L1 = L2)) w) := by
 have hl1 := h1.len
 have hl2 := h2.len
 obtain ⟨p1, b1, o1, c1, rfl, -, -, h14, h15⟩ := h1
 obtain ⟨p2, b2, o2, c2, rfl, -, -, h24, h25⟩ := h2
 obtain ⟨r, hr⟩ : ∃ r, r = decide (L1 = L2) := ⟨_, rfl⟩
 rw [← hr]
 have HNe : Hid (∀ k (hk1 : k < L1.length) (hk2 : k < L2.length), L1[k] ≠ L2[k] → r = false) := by
  intro k hk1 hk2 hne
  rw [hr, decide_eq_false_iff_not]
  intro e
  subst e
  exact hne rfl
 have HEq : Hid (L1.length = L2.length → (∀ k (hk1 : k < L1.length) (hk2 : k < L2.length), L1[k] = L2[k]) → r = true) := by
  intro hl h
  rw [hr, decide_eq_true_eq]
  exact List.ext_getElem hl fun k a b => h k a b
 have HLn : Hid (L1.length ≠ L2.length → r = false) := by
  intro hl
  rw [hr, decide_eq_false_iff_not]
  intro e
  exact hl (by rw [e])
 have H14 := i' h14
 have H24 := i' h24
 have H15 := i' h15
 have H25 := i' h25
 clear hr h14 h24 h15 h25
 obtain ⟨n1, hn1⟩ : ∃ n, n = L1.length := ⟨_, rfl⟩
 obtain ⟨n2, hn2⟩ : ∃ n, n = L2.length := ⟨_, rfl⟩
 rw [← hn1, ← hn2] at HLn ⊢
 rw [← hn1] at hl1
 rw [← hn2] at hl2
 have HN1 := i' hn1
 have HN2 := i' hn2
 clear hn1 hn2
 by_cases hne : n1 = n2
 ·subst hne
  have HEq := i' (HEq.out (HN1.out.symm.trans HN2.out))
  clear HLn
  go_enter Tryz.func18, Tryz.ntmps18
  go_wp2
  go_loopw [5] (fun iv wr => ∃ (wz : World) (k : Nat), wz = wr ∧ k ≤ n1 ∧ iv = .int .i64 (k : Int) ∧ Hid (∀ j (h1 : j < L1.length) (h2 : j < L2.length), j < k → L1[j] = L2[j]) ∧ Hid (Below w.heap.size w wz))
   (fun iv _ => n1 - (intOf iv).toNat)
  case atStart => exact ⟨w, 0, rfl, Nat.zero_le _, rfl, fun j _ _ hj => absurd hj (Nat.not_lt_zero _), Below.refl _ _⟩
  case round =>
   obtain ⟨wz, k, rfl, hk, rfl, hall, hbl⟩ := hrel
   by_cases hlt : k < n1
   ·have hk1 : k < L1.length := by have h5 : n1 = L1.length := HN1.out; omega
    have hk2 : k < L2.length := by have h5 : n1 = L2.length := HN2.out; omega
    obtain ⟨a, s, hL1⟩ : ∃ a s, L1[k] = (a, s) := ⟨_, _, rfl⟩
    obtain ⟨b, t, hL2⟩ : ∃ b t, L2[k] = (b, t) := ⟨_, _, rfl⟩
    obtain rfl := H14.out (by intro e; rw [e] at hk1; exact absurd hk1 (Nat.not_lt_zero _))
    obtain rfl := H24.out (by intro e; rw [e] at hk2; exact absurd hk2 (Nat.not_lt_zero _))
    have c0 := keep1 hbl.out (H15.out k hk1).1
    have c1 := keep1 hbl.out (H15.out k hk1).2
    have d0 := keep1 hbl.out (H25.out k hk2).1
    have d1 := keep1 hbl.out (H25.out k hk2).2
    rw [hL1] at c0 c1
    rw [hL2] at d0 d1
    simp only at c0 c1 d0 d1
    have HF : Hid (¬ (a = b ∧ s = t) → r = false) := fun h => HNe.out k hk1 hk2 (by rw [hL1, hL2]; intro e; injection e with e1 e2; exact h ⟨e1, e2⟩)
    have HR : Hid (a = b ∧ s = t → ∀ j (h1 : j < L1.length) (h2 : j < L2.length), j < k + 1 → L1[j] = L2[j]) := by
     rintro ⟨rfl, rfl⟩ j h1 h2 hj
     rcases Nat.lt_or_ge j k with g | g
     ·exact hall.out j h1 h2 g
     ·obtain rfl : j = k := by omega
      rw [hL1, hL2]
    have hkk : (k : Int) < (n1 : Int) := by omega
    have hk0 : (0 : Int) ≤ (k : Int) := by omega
    clear hL1 hL2 hall hk1 hk2
    by_cases hab : (a == b && s.toList == t.toList) = true
    ·have qN : ∀ w, (binOp .neq 44 (.agg #[.bool a, .string s]) (.agg #[.bool b, .string t])).run Tryz.prog w = .ok (.bool false) w := fun w => by rw [k'in, hab]; rfl
     have HR2 : Hid (∀ j (h1 : j < L1.length) (h2 : j < L2.length), j < k + 1 → L1[j] = L2[j]) := HR.out (by
      rw [Bool.and_eq_true, beq_iff_eq, beq_iff_eq] at hab
      have h6 : s.data.toList = t.data.toList := by rw [← ByteArray.toList_eq, ← ByteArray.toList_eq]; exact hab.2
      exact ⟨hab.1, ByteArray.ext (Array.ext' h6)⟩)
     clear hab HR HF
     go_upto_region 6 with (fail)
     go_quiet (fail)
     go_wp2
     go_roundw
     case rel => exact ⟨_, k + 1, rfl, by omega, by go_num, HR2.out, k'2f hbl.out _⟩
     case measure => simp [intOf]; omega
    ·have qN : ∀ w, (binOp .neq 44 (.agg #[.bool a, .string s]) (.agg #[.bool b, .string t])).run Tryz.prog w = .ok (.bool true) w := fun w => by rw [k'in, Bool.not_eq_true _ |>.mp hab]; rfl
     have HF2 : Hid (r = false) := HF.out (by
      rintro ⟨rfl, rfl⟩
      exact hab (by simp))
     clear hab HR HF
     go_upto_region 6 with (fail)
     go_quiet (fail)
     go_wp2
     go_ret
     exact ⟨by rw [HF2.out]; rfl, k'2f hbl.out _⟩
   ·have HT : Hid (r = true) := HEq.out (fun j h1 h2 => hall.out j h1 h2 (by have h5 : n1 = L1.length := HN1.out; omega))
    obtain rfl : k = n1 := by omega
    clear hall
    go_wp2
    go_ret
    exact ⟨by rw [HT.out]; rfl, hbl.out⟩
 ·have HF := i' (HLn.out hne)
  have hne2 : ((n1 : Int) == (n2 : Int)) = false := by simp; omega
  clear HLn
  go_enter Tryz.func18, Tryz.ntmps18
  go_wp2
  go_ret
  exact ⟨by rw [HF.out]; rfl, Below.refl _ _⟩
def ckv (L : List (Bool × ByteArray)) (a : Bool) (s : ByteArray) (b : Bool) (t : ByteArray) : Int :=
 if (vldP L && vldR a s b t) = true then (if tlg L (glb [(a, s), (b, t)]) = true then 7 else 0) else 2
theorem k'ir (L : List (Bool × ByteArray)) (v : Value) (a b : Bool) (s t : ByteArray) (w : World) (h : Rw w v L) (z : Small L) (z1 : s.size ≤ 140737488351232) (z2 : t.size ≤ 140737488351232) :
 Calls Tryz.prog 99 #[v, rat a s b t] w (IPost (ckv L a s b t) w) := by
 have HV := i' (fun w' (hb : Below w.heap.size w w') => k'd6 L v w' (h.below hb) z)
 have HR := i' (fun w' => k'5e a b s t w' z1 z2)
 have HG := i' (fun v w' h => k'dc [(a, s), (b, t)] v w' h (by intro x hx; simp at hx; rcases hx with rfl | rfl <;> assumption))
 have HT : Hid (vldP L = true → ∀ w', Below w.heap.size w w' → Calls Tryz.prog 107 #[v, .int .i64 (glb [(a, s), (b, t)])] w' (BPost (tlg L (glb [(a, s), (b, t)])) w')) :=
  fun hv w' hb => k'fe L v _ w' (h.below hb) z (k'fc hv) (by have := k'fb [(a, s), (b, t)]; omega)
 obtain ⟨r, hr⟩ : ∃ r, r = ckv L a s b t := ⟨_, rfl⟩
 rw [← hr]
 unfold ckv at hr
 have HW : Hid (∀ w' q, w'.cell? ⟨q, 0, none⟩ = some (.bool a) → w'.cell? ⟨q, 0 + 1, none⟩ = some (.string s) → w'.cell? ⟨q, 0 + 2, none⟩ = some (.bool b) → w'.cell? ⟨q, 0 + 2 + 1, none⟩ = some (.string t) → Rw w' (.slice (some ⟨q, 0, none⟩) 2 2) [(a, s), (b, t)]) := by
  intro w' q h0 h1 h2 h3
  refine ⟨_, q, 0, 2, rfl, by simp, by decide, fun _ => rfl, fun k hk => ?_⟩
  match k, hk with
  | 0, _ => exact ⟨h0, h1⟩
  | 1, _ => exact ⟨h2, h3⟩
 obtain ⟨p, b0, o, c, rfl, -, -, -, -⟩ := h
 clear z z1 z2
 unfold rat
 generalize vldP L = x1 at *
 generalize vldR a s b t = x2 at *
 generalize glb [(a, s), (b, t)] = g at *
 generalize tlg L g = x3 at *
 obtain ⟨w0, hw0⟩ : ∃ w0 : World, w0 = w.alloc (.cells #[.bool a, .string s, .bool b, .string t] 59) := ⟨_, rfl⟩
 have HB0 : Hid (Below w.heap.size w w0) := by rw [hw0]; exact (Below.refl _ _).alloc (Nat.le_refl _) _
 have C0 : Hid (w0.cell? ⟨w.heap.size, 0, none⟩ = some (.bool a) ∧ w0.cell? ⟨w.heap.size, 1, none⟩ = some (.string s) ∧ w0.cell? ⟨w.heap.size, 2, none⟩ = some (.bool b) ∧ w0.cell? ⟨w.heap.size, 3, none⟩ = some (.string t)) := by
  rw [hw0]; exact ⟨by simp [go_sem], by simp [go_sem], by simp [go_sem], by simp [go_sem]⟩
 cases x1
 ·have HR : Hid (r = 2) := hr
  clear hr
  go_enter Tryz.func99, Tryz.ntmps99
  go_wp2_with fail
  rw [← hw0]
  clear hw0
  refine (HV.out _ HB0.out).mono ?_
  rintro e w1 ⟨rfl, b1⟩
  have c0 := keep1 b1 C0.out.1
  have c1 := keep1 b1 C0.out.2.1
  have c2 := keep1 b1 C0.out.2.2.1
  have c3 := keep1 b1 C0.out.2.2.2
  have B1 := i' (chain HB0.out b1)
  clear b1
  clear c0 c1 c2 c3
  go_wp2
  go_ret
  exact ⟨by rw [HR.out]; rfl, B1.out⟩
 have HT2 := i' (HT.out rfl)
 clear HT
 cases x2
 ·have HRr : Hid (r = 2) := hr
  clear hr
  go_enter Tryz.func99, Tryz.ntmps99
  go_wp2_with fail
  rw [← hw0]
  clear hw0
  refine (HV.out _ HB0.out).mono ?_
  rintro e w1 ⟨rfl, b1⟩
  have c0 := keep1 b1 C0.out.1
  have c1 := keep1 b1 C0.out.2.1
  have c2 := keep1 b1 C0.out.2.2.1
  have c3 := keep1 b1 C0.out.2.2.2
  have B1 := i' (chain HB0.out b1)
  clear b1
  go_wp2_with fail
  refine (HR.out _).mono ?_
  rintro e w2 ⟨rfl, b2⟩
  have B2 := i' (chain B1.out b2)
  clear b2 c0 c1 c2 c3
  go_wp2
  go_ret
  exact ⟨by rw [HRr.out]; rfl, B2.out⟩
 rw [show (true && true) = true from rfl, if_pos rfl] at hr
 cases x3
 all_goals
  have HRr : Hid (r = _) := hr
  clear hr
  go_enter Tryz.func99, Tryz.ntmps99
  go_wp2_with fail
  rw [← hw0]
  clear hw0
  refine (HV.out _ HB0.out).mono ?_
  rintro e w1 ⟨rfl, b1⟩
  have c0 := keep1 b1 C0.out.1
  have c1 := keep1 b1 C0.out.2.1
  have c2 := keep1 b1 C0.out.2.2.1
  have c3 := keep1 b1 C0.out.2.2.2
  have B1 := i' (chain HB0.out b1)
  clear b1
  go_wp2_with fail
  refine (HR.out _).mono ?_
  rintro e w2 ⟨rfl, b2⟩
  have B2 := i' (chain B1.out b2)
  have c0 := keep1 b2 c0
  have c1 := keep1 b2 c1
  have c2 := keep1 b2 c2
  have c3 := keep1 b2 c3
  clear b2
  go_wp2_with fail
  obtain ⟨w3, hw3⟩ : ∃ w3 : World, w3 = w2.alloc (.cells #[.bool a, .string s, .bool b, .string t] 44) := ⟨_, rfl⟩
  have hg := HW.out w3 w2.heap.size (by rw [hw3]; simp [go_sem]) (by rw [hw3]; simp [go_sem]) (by rw [hw3]; simp [go_sem]) (by rw [hw3]; simp [go_sem])
  have B3 := i' (B2.out.alloc B2.out.size (.cells #[.bool a, .string s, .bool b, .string t] 44))
  rw [← hw3] at B3 ⊢
  clear hw3 c0 c1 c2 c3
  refine (HG.out _ _ hg).mono ?_
  rintro e w4 ⟨rfl, b4⟩
  have B4 := i' (chain B3.out b4)
  clear b4 hg
  go_wp2_with fail
  refine (HT2.out _ B4.out).mono ?_
  rintro e w5 ⟨rfl, b5⟩
  have B5 := i' (chain B4.out b5)
  clear b5
  go_wp2
  go_ret
  exact ⟨by rw [HRr.out]; rfl, B5.out⟩
theorem k'is (a : Int) (n : Nat) : a ^ (n + 1) = a ^ n * a := by rw [Int.pow_succ]
theorem k'it (c : Nat) (a : Int) (n : Int) (m : Nat) (e : Int) (w : World) (hc : Ck w c e) (ha : a.natAbs < Top) (hm : m = n.toNat) (hn : -100 ≤ n ∧ n ≤ 100) (hp : ∀ j, j ≤ m → (a ^ j).natAbs < Top) :
 Calls Tryz.prog 101 #[.pointer (some ⟨c, 0, none⟩), Z a, .int .i64 n] w (Ret (Z (a ^ m)) w) := by
 have HO := i' (fun w => zz_of 1 w (by decide) (by decide))
 have HM := i' (fun k (h : k < m) w hc => k'd1 c (a ^ k) a e w hc (hp k (by omega)) ha (by rw [← k'is]; exact hp _ (by omega)))
 have HC := i' hc
 have hcl := hc.lt
 obtain ⟨w0, hw0⟩ : ∃ w0 : World, w0 = (w.alloc (.cells #[.bool (zb a), .string (zs a)] 44)).alloc (.cells #[.bool false, .string ⟨#[]⟩] 44) := ⟨_, rfl⟩
 have HA0 : Hid (Aw w0 w.heap.size [a]) := by show Aw _ _ _; rw [hw0]; exact (Aw.made w [a]).alloc _
 have HR0 : Hid (Aw w0 (w.heap.size + 1) [0]) := by
  show Aw _ _ _
  rw [hw0]
  have h5 := Aw.made (w.alloc (.cells #[.bool (zb a), .string (zs a)] 44)) [0]
  rw [World.size_alloc] at h5
  exact h5
 have HB0 : Hid (Below w.heap.size w w0) := by show Below _ _ _; rw [hw0]; exact ((Below.refl _ _).alloc (Nat.le_refl _) _).alloc (by simp) _
 have HZ0 : Hid (w0.heap.size = w.heap.size + 2) := by show _ = _; rw [hw0]; simp
 obtain ⟨P, hP⟩ : ∃ P, P = a ^ m := ⟨_, rfl⟩
 rw [← hP]
 have HP := i' hP
 have HN := i' hm
 clear hc ha hp hP hm
 go_enter Tryz.func101, Tryz.ntmps101
 unfold Z
 go_wp2_with fail
 rw [← hw0]
 clear hw0
 refine (HO.out _).mono ?_
 rintro en w1 ⟨rfl, b1⟩
 have hs1 := b1.size
 have h02 := HZ0.out
 have HA1 := i' ((HA0.out.below b1).alloc (.cells #[.bool (zb 1), .string (zs 1)] 44))
 have HR1 := i' ((HR0.out.below b1).alloc (.cells #[.bool (zb 1), .string (zs 1)] 44))
 have HG1 : Hid (Aw (w1.alloc (.cells #[.bool (zb 1), .string (zs 1)] 44)) w1.heap.size [1]) := Aw.made w1 [1]
 have HB1 := i' ((chain HB0.out b1).alloc (by omega) (.cells #[.bool (zb 1), .string (zs 1)] 44))
 obtain ⟨w2, hw2⟩ : ∃ w2 : World, w2 = w1.alloc (.cells #[.bool (zb 1), .string (zs 1)] 44) := ⟨_, rfl⟩
 obtain ⟨g, hg⟩ : ∃ g, g = w1.heap.size := ⟨_, rfl⟩
 rw [← hw2] at HA1 HR1 HG1 HB1
 rw [← hg] at HG1
 have hgs : w.heap.size + 2 ≤ g := by omega
 clear b1 HA0 HR0 HB0
 unfold Z
 go_wp2_with fail
 rw [← hw2, ← hg]
 clear hw2 hg
 go_loopw [10] (fun iv wr => ∃ (wz : World) (k : Nat), wz = wr ∧ k ≤ m ∧ iv = .int .i64 (k : Int) ∧ Hid (Aw wz g [a ^ k]) ∧ Hid (Aw wz w.heap.size [a]) ∧ Hid (Aw wz (w.heap.size + 1) [0]) ∧ Hid (Below w.heap.size w wz))
  (fun iv _ => m - (intOf iv).toNat)
 case atStart => exact ⟨_, 0, rfl, Nat.zero_le _, rfl, by rw [Int.pow_zero]; exact HG1.out, HA1.out, HR1.out, HB1.out⟩
 case round =>
  clear HG1 HA1 HR1 HB1
  obtain ⟨wz, k, rfl, hk, rfl, hG, hA, hR, hbl⟩ := hrel
  have hgl := hG.out.lt
  have hmn : m = n.toNat := HN.out
  by_cases hlt : k < m
  ·have HMk := i' (HM.out k hlt)
   have hkn : (k : Int) < n := by omega
   obtain ⟨d0, d1⟩ := hG.out.cell 0 (by simp)
   obtain ⟨x0, x1⟩ := hA.out.cell 0 (by simp)
   simp only [Nat.zero_mul, Nat.zero_add, List.getElem_cons_zero] at d0 d1 x0 x1
   have HY : Hid (a ^ k * a = a ^ (k + 1)) := (k'is a k).symm
   generalize a ^ k * a = y at *
   generalize a ^ k = x at *
   unfold Z at HMk
   go_wp2_with fail
   refine (HMk.out _ (HC.out.below hbl.out)).mono ?_
   rintro en w5 ⟨rfl, b5⟩
   have HG5 := i' (hG.out.below b5)
   have HA5 := i' (hA.out.below b5)
   have HR5 := i' (hR.out.below b5)
   have HB5 := i' (chain hbl.out b5)
   clear b5 hG hA hR hbl
   obtain ⟨y0, y1⟩ := HG5.out.cell 0 (by simp)
   simp only [Nat.zero_mul, Nat.zero_add, List.getElem_cons_zero] at y0 y1
   have f0 := HG5.out.free 0
   have f1 := HG5.out.free 1
   have HG7 := HG5.out.set 0 (by simp) y
   simp only [Nat.zero_mul, Nat.zero_add, List.set_cons_zero] at HG7
   have HG8 := i' HG7
   have HA8 := i' ((HA5.out.other ⟨g, 0, none⟩ (.bool (zb y)) (by simp only; omega)).other ⟨g, 1, none⟩ (.string (zs y)) (by simp only; omega))
   have HR8 := i' ((HR5.out.other ⟨g, 0, none⟩ (.bool (zb y)) (by simp only; omega)).other ⟨g, 1, none⟩ (.string (zs y)) (by simp only; omega))
   have HB8 := i' ((HB5.out.setCell (p := ⟨g, 0, none⟩) (by simp only; omega) (.bool (zb y))).setCell (p := ⟨g, 1, none⟩) (by simp only; omega) (.string (zs y)))
   clear HG7
   go_wp2
   go_roundw
   case rel => exact ⟨_, k + 1, rfl, by omega, by go_num, by rw [← HY.out]; exact HG8.out, HA8.out, HR8.out, HB8.out⟩
   case measure => simp [intOf]; omega
  ·obtain rfl : k = m := by omega
   have hkn : ¬ (k : Int) < n := by omega
   obtain ⟨d0, d1⟩ := hG.out.cell 0 (by simp)
   obtain ⟨e0, e1⟩ := hR.out.cell 0 (by simp)
   simp only [Nat.zero_mul, Nat.zero_add, List.getElem_cons_zero] at d0 d1 e0 e1
   rw [← HP.out] at d0 d1
   have f0 := hR.out.free 0
   have f1 := hR.out.free 1
   have HB8 := i' ((hbl.out.setCell (p := ⟨w.heap.size + 1, 0, none⟩) (by simp) (.bool (zb P))).setCell (p := ⟨w.heap.size + 1, 1, none⟩) (by simp) (.string (zs P)))
   go_wp2
   exact bodyPost_ret (v := .agg #[.bool (zb P), .string (zs P)]) (by simp [results, Tryz.results101, go_sem, e0, e1]) rfl ⟨rfl, HB8.out⟩
end Go.Proofs.YtepddegphdlbeaaGreat
