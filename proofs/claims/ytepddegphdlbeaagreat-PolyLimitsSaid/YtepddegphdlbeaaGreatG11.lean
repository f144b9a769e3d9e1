/- What the theorem leans on, part G11. -/
import Derived.Test.YtepddegphdlbeaaGreatG9
import Derived.Test.YtepddegphdlbeaaGreatG8
import Derived.Test.YtepddegphdlbeaaGreatG7
import Derived.Test.YtepddegphdlbeaaGreatG6
import Derived.Test.YtepddegphdlbeaaGreatG4
import Derived.Test.YtepddegphdlbeaaGreatG3
import Derived.Test.YtepddegphdlbeaaGreatG2
import Derived.Test.YtepddegphdlbeaaGreatG1
import Derived.Test.YtepddegphdlbeaaGreatG0
import Derived.Test.YtepddegphdlbeaaGreatProg
import Derived.WalkKit
import Derived.WalkSpells
import Derived.WalkLawsBesides
import Derived.Lib.Hide
import Derived.Deep.QuietTactic
import Derived.BigQuiet
import Derived.Shelf.Small.Bits
import Derived.Shelf.Small.Wraps
import Derived.Shelf.Strconv.Itoa0
import Derived.Shelf.Bits.Mul64
import Derived.Ground.Names2Prog
import Derived.Shelf.Slices.SearchI
import Derived.Shelf.Spec.BitsCarry
import Derived.Deep.LoopGhost
import Derived.Deep.RegionHeld3
import Derived.Deep.DeepCutAuto
import Derived.Test.YtepddegphdlbeaaGreatG5
import Derived.Laws.AppendOwnNone
import Derived.Below
import Derived.Test.YtepddegphdlbeaaGreatG10
import Derived.Maps.AppendAt
import Derived.Lib.SliceRun
import Derived.IntWalk
import Derived.RangeFuncNested
import Derived.RangeFuncBound
import Derived.RangeFuncCalls
import Derived.RangeFuncLeaves
import Derived.Shelf.Abstract
import Derived.Shelf.RegionOpen
import Derived.OwnWalkIn
import Derived.TacticsInMore
import Derived.LoopNIn
import Derived.LoopIn
import Derived.OrdersIn
import Derived.Deep.RegionHeld
set_option maxRecDepth 100000
set_option maxHeartbeats 16000000
set_option linter.all false
namespace Go.Proofs.YtepddegphdlbeaaGreat
open Go.RowKit
def BPoly (r : List Int) (c : Nat) (e : Int) (w : World) (en : Ending) (w' : World) : Prop := ∃ v, en = .returned v ∧ Rp w' v r ∧ But c w w' ∧ Ck w' c e
theorem Rp.but {w w' : World} {v : Value} {p : List Int} {c : Nat} {e : Int} (h : Rp w v p) (hc : Ck w c e) (hb : But c w w') : Rp w' v p := by
 obtain ⟨a, b, off, cap, h1, h2, h3, h4, h5⟩ := h
 exact ⟨a, b, off, cap, h1, h2, h3, h4, fun k hk => ⟨hb.cell (h5 k hk).1 (hc.ne (h5 k hk).1), hb.cell (h5 k hk).2 (hc.ne (h5 k hk).1)⟩⟩
theorem k'fq (l : List Int) (n : Nat) (z : Int) : (l ++ List.replicate (n + 1) 0).set l.length z = l ++ [z] ++ List.replicate n 0 := by
 rw [List.set_append_right _ _ (Nat.le_refl _), Nat.sub_self, List.replicate_succ, List.set_cons_zero]; simp
theorem k'fr (c : Nat) (p q r : List Int) (v1 v2 : Value) (w : World) (I : Nat → Int) (h1 : Rp w v1 p) (h2 : Rp w v2 q) (hc : Ck w c (I 0))
 (hr : r.length = max p.length q.length) (hlen : r.length ≤ 100)
 (hF : ∀ k wr, k < r.length → Ck wr c (I k) → Calls Tryz.prog 78 #[.pointer (some ⟨c, 0, none⟩), Z (Pl.cf p k), Z (Pl.cf q k)] wr (KPost (Z (Pl.cf r k)) c (I (k + 1)) wr)) :
 Calls Tryz.prog 118 #[v1, v2, .func (.func 78) #[.pointer (some ⟨c, 0, none⟩)] #[]] w (BPoly r c (I r.length) w) := by
 have R1 := i' h1
 have R2 := i' h2
 obtain ⟨p1, b1, o1, c1, rfl, _, _, h14, h15⟩ := h1.open_
 obtain ⟨p2, b2, o2, c2, rfl, _, _, h24, h25⟩ := h2.open_
 have HF := i' hF
 have HC := i' hc
 have H14 := i' h14
 have H15 := i' h15
 have H24 := i' h24
 have H25 := i' h25
 have HR := i' hr
 obtain ⟨n1, hn1⟩ : ∃ n, n = p.length := ⟨_, rfl⟩
 obtain ⟨n2, hn2⟩ : ∃ n, n = q.length := ⟨_, rfl⟩
 obtain ⟨n, hn⟩ : ∃ n, n = r.length := ⟨_, rfl⟩
 rw [← hn1, ← hn2]
 have hm : max (n1 : Int) (n2 : Int) = (n : Int) := by omega
 have HM := i' hm
 have hb1 : n1 ≤ 100 := by omega
 have hb2 : n2 ≤ 100 := by omega
 have hb3 : n ≤ 100 := by omega
 have hle1 : n1 ≤ n := by omega
 have hle2 : n2 ≤ n := by omega
 have HN1 := i' hn1
 have HN2 := i' hn2
 have HN := i' hn
 have HK := i' (fun w => k'cm n w (by omega))
 clear h1 h2 h14 h15 h24 h25 hc hr hF hn1 hn2 hn
 go_enter Tryz.func118, Tryz.ntmps118
 have hk := HK.out
 go_wp2
 go_loopw [8, 9, 10, 19] (fun _ _ _ iv wr => ∃ (wz : World) (k : Nat), wz = wr ∧ k ≤ n ∧ iv = .int .i64 (k : Int) ∧ Hid (Aw wz w.heap.size (r.take k ++ List.replicate (n - k) 0)) ∧ Hid (But c w wz) ∧ Hid (Ck wz c (I k)))
  (fun _ _ _ iv _ => n - (intOf iv).toNat)
 case atStart =>
  refine ⟨_, 0, rfl, Nat.zero_le _, rfl, ?_, (But.refl c w).alloc _, HC.out.alloc _⟩
  rw [List.take_zero, Nat.sub_zero, List.nil_append]
  exact Aw.made w (List.replicate n 0)
 case round =>
  clear hk
  obtain ⟨wz, k, rfl, hk, rfl, haw, hbut, hck⟩ := hrel
  by_cases hlt : k < n
  ·have hkr : k < r.length := by have h5 : n = r.length := HN.out; omega
   obtain ⟨a, s, hA, hA1⟩ : ∃ a s, Hid (Z (Pl.cf p k) = .agg #[.bool a, .string s]) ∧ ((k < n1 ∧ p1 = some ⟨b1, o1, none⟩ ∧ wz.cell? ⟨b1, o1 + k * 2, none⟩ = some (.bool a) ∧ wz.cell? ⟨b1, o1 + k * 2 + 1, none⟩ = some (.string s) ∧ b1 < wz.heap.size ∧ ¬ wz.heap.size = b1 ∧ ¬ b1 = wz.heap.size ∧ ¬ wz.heap.size + 1 = b1 ∧ ¬ b1 = wz.heap.size + 1) ∨ (n1 ≤ k ∧ a = false ∧ s = ⟨#[]⟩)) := by
    rcases Nat.lt_or_ge k n1 with g | g
    ·have g' : k < p.length := by have h5 : n1 = p.length := HN1.out; omega
     have hcell := hbut.out.cell (H15.out k g').1 (HC.out.ne (H15.out k g').1)
     have hlw := World.block_lt_of_cell? wz _ hcell
     simp only at hlw
     exact ⟨zb p[k], zs p[k], by rw [Pl.cf_lt g']; rfl, Or.inl ⟨g, H14.out (by intro e; rw [e] at g'; exact absurd g' (Nat.not_lt_zero _)), hcell, hbut.out.cell (H15.out k g').2 (HC.out.ne (H15.out k g').1), hlw, by omega, by omega, by omega, by omega⟩⟩
    ·exact ⟨false, ⟨#[]⟩, by rw [Pl.cf_ge (by have h5 : n1 = p.length := HN1.out; omega)]; rfl, Or.inr ⟨g, rfl, rfl⟩⟩
   obtain ⟨a2, s2, hB, hB1⟩ : ∃ a s, Hid (Z (Pl.cf q k) = .agg #[.bool a, .string s]) ∧ ((k < n2 ∧ p2 = some ⟨b2, o2, none⟩ ∧ wz.cell? ⟨b2, o2 + k * 2, none⟩ = some (.bool a) ∧ wz.cell? ⟨b2, o2 + k * 2 + 1, none⟩ = some (.string s) ∧ b2 < wz.heap.size ∧ ¬ wz.heap.size = b2 ∧ ¬ b2 = wz.heap.size ∧ ¬ wz.heap.size + 1 = b2 ∧ ¬ b2 = wz.heap.size + 1) ∨ (n2 ≤ k ∧ a = false ∧ s = ⟨#[]⟩)) := by
    rcases Nat.lt_or_ge k n2 with g | g
    ·have g' : k < q.length := by have h5 : n2 = q.length := HN2.out; omega
     have hcell := hbut.out.cell (H25.out k g').1 (HC.out.ne (H25.out k g').1)
     have hlw := World.block_lt_of_cell? wz _ hcell
     simp only at hlw
     exact ⟨zb q[k], zs q[k], by rw [Pl.cf_lt g']; rfl, Or.inl ⟨g, H24.out (by intro e; rw [e] at g'; exact absurd g' (Nat.not_lt_zero _)), hcell, hbut.out.cell (H25.out k g').2 (HC.out.ne (H25.out k g').1), hlw, by omega, by omega, by omega, by omega⟩⟩
    ·exact ⟨false, ⟨#[]⟩, by rw [Pl.cf_ge (by have h5 : n2 = q.length := HN2.out; omega)]; rfl, Or.inr ⟨g, rfl, rfl⟩⟩
   have HFk := i' (fun wr => HF.out k wr hkr)
   rw [hA.out, hB.out] at HFk
   have hlen2 : k < (r.take k ++ List.replicate (n - k) 0).length := by simp; omega
   have hng : w.heap.size ≠ c := by have := HC.out.lt; omega
   have hglt : w.heap.size < wz.heap.size := haw.out.lt
   have hset : Hid ((r.take k ++ List.replicate (n - k) 0).set k (Pl.cf r k) = r.take (k + 1) ++ List.replicate (n - (k + 1)) 0) := by
    show _ = _
    obtain ⟨m, hm⟩ : ∃ m, n - k = m + 1 := ⟨n - k - 1, by omega⟩
    have hl : (r.take k).length = k := by simp; omega
    have e3 := k'fq (r.take k) m (Pl.cf r k)
    rw [hl] at e3
    rw [hm, e3, List.take_succ_eq_append_getElem hkr, Pl.cf_lt hkr, show n - (k + 1) = m by omega]
   obtain ⟨wi, hwi⟩ : ∃ wi : World, wi = (wz.alloc (.cells #[.bool a, .string s] 44)).alloc (.cells #[.bool a2, .string s2] 44) := ⟨_, rfl⟩
   have hAi : Hid (Aw wi w.heap.size (r.take k ++ List.replicate (n - k) 0)) := by rw [hwi]; exact (haw.out.alloc _).alloc _
   have hBi : Hid (But c w wi) := by rw [hwi]; exact (hbut.out.alloc _).alloc _
   have hCi : Hid (Ck wi c (I k)) := by rw [hwi]; exact (hck.out.alloc _).alloc _
   have HKR := i' hkr
   have HL2 := i' hlen2
   generalize Pl.cf r k = rk at *
   rcases hA1 with ⟨g1, rfl, x0, x1, x2, x3, x4, x5, x6⟩ | ⟨g1, rfl, rfl⟩ <;> rcases hB1 with ⟨g2, rfl, y0, y1, y2, y3, y4, y5, y6⟩ | ⟨g2, rfl, rfl⟩
   rotate_left 3
   ·exfalso; have := HM.out; omega
   all_goals
    clear hlen2 hkr
    go_wp2_with fail
    rw [← hwi]
    clear hwi
    refine (HFk.out _ hCi.out).mono ?_
    rintro e w5 ⟨rfl, hb5, hk5⟩
    have HA5 := i' (hb5.aw hAi.out hng)
    have hB5 := i' (hBi.out.trans hb5)
    have HK5 := i' hk5
    have e0 := (HA5.out.cell k HL2.out).1
    have e1 := (HA5.out.cell k HL2.out).2
    have f0 := HA5.out.free (k * 2)
    have f1 := HA5.out.free (k * 2 + 1)
    have HA6 := i' (HA5.out.set k HL2.out rk)
    rw [hset.out] at HA6
    have HB6 := i' ((hB5.out.new (p := ⟨w.heap.size, k * 2, none⟩) (Nat.le_refl _) (.bool (zb rk))).new (p := ⟨w.heap.size, k * 2 + 1, none⟩) (Nat.le_refl _) (.string (zs rk)))
    have HK6 := i' ((HK5.out.other ⟨w.heap.size, k * 2, none⟩ (.bool (zb rk)) (Ne.symm hng)).other ⟨w.heap.size, k * 2 + 1, none⟩ (.string (zs rk)) (Ne.symm hng))
    clear hb5 hk5
    go_wp2
    go_roundw
    case rel => exact ⟨_, k + 1, rfl, by omega, by go_num, HA6.out, HB6.out, HK6.out⟩
    case measure => simp [intOf]; omega
  ·obtain rfl : k = n := by omega
   have HRp : Hid (Rp wz (.slice (some ⟨w.heap.size, 0, none⟩) k k) r) := by
    have h1 := haw.out
    rw [Nat.sub_self, List.replicate_zero, List.append_nil, List.take_of_length_le (by have h5 : k = r.length := HN.out; omega)] at h1
    exact Rp.of_whole h1 k k HN.out.symm (Nat.le_refl _) (by unfold maxLen; omega)
   have HKI : Hid (Ck wz c (I r.length)) := by have h5 : k = r.length := HN.out; rw [← h5]; exact hck.out
   go_wp2
   go_ret
   exact ⟨_, rfl, HRp.out, hbut.out, HKI.out⟩
theorem k'fs (c : Nat) (p q r : List Int) (v1 v2 : Value) (w : World) (I : Nat → Int) (h1 : Rp w v1 p) (h2 : Rp w v2 q) (hc : Ck w c (I 0))
 (hr : r.length = max p.length q.length) (hlen : r.length ≤ 100)
 (hF : ∀ k wr, k < r.length → Ck wr c (I k) → Calls Tryz.prog 79 #[.pointer (some ⟨c, 0, none⟩), Z (Pl.cf p k), Z (Pl.cf q k)] wr (KPost (Z (Pl.cf r k)) c (I (k + 1)) wr)) :
 Calls Tryz.prog 118 #[v1, v2, .func (.func 79) #[.pointer (some ⟨c, 0, none⟩)] #[]] w (BPoly r c (I r.length) w) := by
 have R1 := i' h1
 have R2 := i' h2
 obtain ⟨p1, b1, o1, c1, rfl, _, _, h14, h15⟩ := h1.open_
 obtain ⟨p2, b2, o2, c2, rfl, _, _, h24, h25⟩ := h2.open_
 have HF := i' hF
 have HC := i' hc
 have H14 := i' h14
 have H15 := i' h15
 have H24 := i' h24
 have H25 := i' h25
 have HR := i' hr
 obtain ⟨n1, hn1⟩ : ∃ n, n = p.length := ⟨_, rfl⟩
 obtain ⟨n2, hn2⟩ : ∃ n, n = q.length := ⟨_, rfl⟩
 obtain ⟨n, hn⟩ : ∃ n, n = r.length := ⟨_, rfl⟩
 rw [← hn1, ← hn2]
 have hm : max (n1 : Int) (n2 : Int) = (n : Int) := by omega
 have HM := i' hm
 have hb1 : n1 ≤ 100 := by omega
 have hb2 : n2 ≤ 100 := by omega
 have hb3 : n ≤ 100 := by omega
 have hle1 : n1 ≤ n := by omega
 have hle2 : n2 ≤ n := by omega
 have HN1 := i' hn1
 have HN2 := i' hn2
 have HN := i' hn
 have HK := i' (fun w => k'cm n w (by omega))
 clear h1 h2 h14 h15 h24 h25 hc hr hF hn1 hn2 hn
 go_enter Tryz.func118, Tryz.ntmps118
 have hk := HK.out
 go_wp2
 go_loopw [8, 9, 10, 19] (fun _ _ _ iv wr => ∃ (wz : World) (k : Nat), wz = wr ∧ k ≤ n ∧ iv = .int .i64 (k : Int) ∧ Hid (Aw wz w.heap.size (r.take k ++ List.replicate (n - k) 0)) ∧ Hid (But c w wz) ∧ Hid (Ck wz c (I k)))
  (fun _ _ _ iv _ => n - (intOf iv).toNat)
 case atStart =>
  refine ⟨_, 0, rfl, Nat.zero_le _, rfl, ?_, (But.refl c w).alloc _, HC.out.alloc _⟩
  rw [List.take_zero, Nat.sub_zero, List.nil_append]
  exact Aw.made w (List.replicate n 0)
 case round =>
  clear hk
  obtain ⟨wz, k, rfl, hk, rfl, haw, hbut, hck⟩ := hrel
  by_cases hlt : k < n
  ·have hkr : k < r.length := by have h5 : n = r.length := HN.out; omega
   obtain ⟨a, s, hA, hA1⟩ : ∃ a s, Hid (Z (Pl.cf p k) = .agg #[.bool a, .string s]) ∧ ((k < n1 ∧ p1 = some ⟨b1, o1, none⟩ ∧ wz.cell? ⟨b1, o1 + k * 2, none⟩ = some (.bool a) ∧ wz.cell? ⟨b1, o1 + k * 2 + 1, none⟩ = some (.string s) ∧ b1 < wz.heap.size ∧ ¬ wz.heap.size = b1 ∧ ¬ b1 = wz.heap.size ∧ ¬ wz.heap.size + 1 = b1 ∧ ¬ b1 = wz.heap.size + 1) ∨ (n1 ≤ k ∧ a = false ∧ s = ⟨#[]⟩)) := by
    rcases Nat.lt_or_ge k n1 with g | g
    ·have g' : k < p.length := by have h5 : n1 = p.length := HN1.out; omega
     have hcell := hbut.out.cell (H15.out k g').1 (HC.out.ne (H15.out k g').1)
     have hlw := World.block_lt_of_cell? wz _ hcell
     simp only at hlw
     exact ⟨zb p[k], zs p[k], by rw [Pl.cf_lt g']; rfl, Or.inl ⟨g, H14.out (by intro e; rw [e] at g'; exact absurd g' (Nat.not_lt_zero _)), hcell, hbut.out.cell (H15.out k g').2 (HC.out.ne (H15.out k g').1), hlw, by omega, by omega, by omega, by omega⟩⟩
    ·exact ⟨false, ⟨#[]⟩, by rw [Pl.cf_ge (by have h5 : n1 = p.length := HN1.out; omega)]; rfl, Or.inr ⟨g, rfl, rfl⟩⟩
   obtain ⟨a2, s2, hB, hB1⟩ : ∃ a s, Hid (Z (Pl.cf q k) = .agg #[.bool a, .string s]) ∧ ((k < n2 ∧ p2 = some ⟨b2, o2, none⟩ ∧ wz.cell? ⟨b2, o2 + k * 2, none⟩ = some (.bool a) ∧ wz.cell? ⟨b2, o2 + k * 2 + 1, none⟩ = some (.string s) ∧ b2 < wz.heap.size ∧ ¬ wz.heap.size = b2 ∧ ¬ b2 = wz.heap.size ∧ ¬ wz.heap.size + 1 = b2 ∧ ¬ b2 = wz.heap.size + 1) ∨ (n2 ≤ k ∧ a = false ∧ s = ⟨#[]⟩)) := by
    rcases Nat.lt_or_ge k n2 with g | g
    ·have g' : k < q.length := by have h5 : n2 = q.length := HN2.out; omega
     have hcell := hbut.out.cell (H25.out k g').1 (HC.out.ne (H25.out k g').1)
     have hlw := World.block_lt_of_cell? wz _ hcell
     simp only at hlw
     exact ⟨zb q[k], zs q[k], by rw [Pl.cf_lt g']; rfl, Or.inl ⟨g, H24.out (by intro e; rw [e] at g'; exact absurd g' (Nat.not_lt_zero _)), hcell, hbut.out.cell (H25.out k g').2 (HC.out.ne (H25.out k g').1), hlw, by omega, by omega, by omega, by omega⟩⟩
    ·exact ⟨false, ⟨#[]⟩, by rw [Pl.cf_ge (by have h5 : n2 = q.length := HN2.out; omega)]; rfl, Or.inr ⟨g, rfl, rfl⟩⟩
   have HFk := i' (fun wr => HF.out k wr hkr)
   rw [hA.out, hB.out] at HFk
   have hlen2 : k < (r.take k ++ List.replicate (n - k) 0).length := by simp; omega
   have hng : w.heap.size ≠ c := by have := HC.out.lt; omega
   have hglt : w.heap.size < wz.heap.size := haw.out.lt
   have hset : Hid ((r.take k ++ List.replicate (n - k) 0).set k (Pl.cf r k) = r.take (k + 1) ++ List.replicate (n - (k + 1)) 0) := by
    show _ = _
    obtain ⟨m, hm⟩ : ∃ m, n - k = m + 1 := ⟨n - k - 1, by omega⟩
    have hl : (r.take k).length = k := by simp; omega
    have e3 := k'fq (r.take k) m (Pl.cf r k)
    rw [hl] at e3
    rw [hm, e3, List.take_succ_eq_append_getElem hkr, Pl.cf_lt hkr, show n - (k + 1) = m by omega]
   obtain ⟨wi, hwi⟩ : ∃ wi : World, wi = (wz.alloc (.cells #[.bool a, .string s] 44)).alloc (.cells #[.bool a2, .string s2] 44) := ⟨_, rfl⟩
   have hAi : Hid (Aw wi w.heap.size (r.take k ++ List.replicate (n - k) 0)) := by rw [hwi]; exact (haw.out.alloc _).alloc _
   have hBi : Hid (But c w wi) := by rw [hwi]; exact (hbut.out.alloc _).alloc _
   have hCi : Hid (Ck wi c (I k)) := by rw [hwi]; exact (hck.out.alloc _).alloc _
   have HKR := i' hkr
   have HL2 := i' hlen2
   generalize Pl.cf r k = rk at *
   rcases hA1 with ⟨g1, rfl, x0, x1, x2, x3, x4, x5, x6⟩ | ⟨g1, rfl, rfl⟩ <;> rcases hB1 with ⟨g2, rfl, y0, y1, y2, y3, y4, y5, y6⟩ | ⟨g2, rfl, rfl⟩
   rotate_left 3
   ·exfalso; have := HM.out; omega
   all_goals
    clear hlen2 hkr
    go_wp2_with fail
    rw [← hwi]
    clear hwi
    refine (HFk.out _ hCi.out).mono ?_
    rintro e w5 ⟨rfl, hb5, hk5⟩
    have HA5 := i' (hb5.aw hAi.out hng)
    have hB5 := i' (hBi.out.trans hb5)
    have HK5 := i' hk5
    have e0 := (HA5.out.cell k HL2.out).1
    have e1 := (HA5.out.cell k HL2.out).2
    have f0 := HA5.out.free (k * 2)
    have f1 := HA5.out.free (k * 2 + 1)
    have HA6 := i' (HA5.out.set k HL2.out rk)
    rw [hset.out] at HA6
    have HB6 := i' ((hB5.out.new (p := ⟨w.heap.size, k * 2, none⟩) (Nat.le_refl _) (.bool (zb rk))).new (p := ⟨w.heap.size, k * 2 + 1, none⟩) (Nat.le_refl _) (.string (zs rk)))
    have HK6 := i' ((HK5.out.other ⟨w.heap.size, k * 2, none⟩ (.bool (zb rk)) (Ne.symm hng)).other ⟨w.heap.size, k * 2 + 1, none⟩ (.string (zs rk)) (Ne.symm hng))
    clear hb5 hk5
    go_wp2
    go_roundw
    case rel => exact ⟨_, k + 1, rfl, by omega, by go_num, HA6.out, HB6.out, HK6.out⟩
    case measure => simp [intOf]; omega
  ·obtain rfl : k = n := by omega
   have HRp : Hid (Rp wz (.slice (some ⟨w.heap.size, 0, none⟩) k k) r) := by
    have h1 := haw.out
    rw [Nat.sub_self, List.replicate_zero, List.append_nil, List.take_of_length_le (by have h5 : k = r.length := HN.out; omega)] at h1
    exact Rp.of_whole h1 k k HN.out.symm (Nat.le_refl _) (by unfold maxLen; omega)
   have HKI : Hid (Ck wz c (I r.length)) := by have h5 : k = r.length := HN.out; rw [← h5]; exact hck.out
   go_wp2
   go_ret
   exact ⟨_, rfl, HRp.out, hbut.out, HKI.out⟩
namespace Pl
theorem prim_prim {p : List Int} (hp : Nrm p) : prim (prim p) = prim p := by
 by_cases h : p = []
 ·subst h; rfl
 ·have hc : (cont p : Int) ≠ 0 := by
   intro e
   have h1 := scl_prim p
   have h2 := nrm_cf hp (List.length_pos_iff.2 h)
   rw [← h1, cf_scl, e, Int.zero_mul] at h2
   exact h2 rfl
  have h1 := prim_scl (p := prim p) hc
  rw [scl_prim, Int.sign_eq_one_of_pos (by omega), scl_one] at h1
  exact h1.symm
theorem mx_rest (p q : List Int) : mx (rest p q) ≤ (2 * mx q) ^ (p.length + 1 - q.length) * mx p := Nat.le_trans (mx_trim _) (mx_prem _ _ _)
structure Euk (S : List Int → List Int → Prop) : Prop where
 top1 : ∀ p q, S p q → ∀ a ∈ p, a.natAbs < Top
 top2 : ∀ p q, S p q → ∀ a ∈ q, a.natAbs < Top
 fit : ∀ p q, S p q → 1 < q.length → q.length ≤ p.length → (2 * mx q) ^ (p.length + 1 - q.length) * mx p < Top
 step : ∀ p q, S p q → 1 < q.length → q.length ≤ p.length → S q (prim (rest p q))
structure EInv (S : List Int → List Int → Prop) (G p q : List Int) : Prop where
 np : Nrm p
 nq : Nrm q
 pp : prim p = p
 pq : prim q = q
 g : gcdP p q = G
 len : q.length ≤ p.length
 l50 : p.length ≤ 50
 s : S p q
structure ELast (G p : List Int) : Prop where
 np : Nrm p
 pp : prim p = p
 g : npr p = G
 l50 : p.length ≤ 50
 top : ∀ a ∈ p, a.natAbs < Top
theorem EInv.step {S : List Int → List Int → Prop} (hS : Euk S) {G p q : List Int} (h : EInv S G p q) (h1 : 1 < q.length) : EInv S G q (prim (rest p q)) := by
 have hr := rest_nrm p q
 have hq : q ≠ [] := by intro e; subst e; simp at h1
 refine ⟨h.nq, prim_nrm hr, h.pq, prim_prim hr, ?_, ?_, by have := h.len; have := h.l50; omega, hS.step p q h.s h1 h.len⟩
 ·rw [gcdP_npr (p := q) (q := prim (rest p q)) (p' := q) (q' := rest p q) rfl (npr_prim hr), ← gcdP_step h.np h.nq hq, h.g]
 ·rw [prim_length]; have := rest_length (p := p) (q := q) (by omega); omega
theorem EInv.one {S : List Int → List Int → Prop} (hS : Euk S) {G p q : List Int} (h : EInv S G p q) (h1 : q.length = 1) : ELast G q :=
 ⟨h.nq, h.pq, by rw [cont_unit h.nq h1, ← h.g, gcdP_const h.np h.nq h1], by omega, hS.top2 p q h.s⟩
theorem EInv.zero {S : List Int → List Int → Prop} (hS : Euk S) {G p q : List Int} (h : EInv S G p q) (h1 : q.length = 0) : ELast G p := by
 have e := List.eq_nil_of_length_eq_zero h1
 have h2 := h.g
 have h3 := hS.top1 p q h.s
 subst e
 exact ⟨h.np, h.pp, h2, h.l50, h3⟩
theorem EInv.mx1 {S : List Int → List Int → Prop} {G p q : List Int} (h : EInv S G p q) (h1 : 1 < q.length) : 1 ≤ mx q := by
 have h2 := nrm_cf h.nq (by omega)
 have h3 := mx_cf q (q.length - 1)
 omega
theorem ELast.nil {G p : List Int} (h : ELast G p) (h0 : p.length = 0) : G = p := by
 have e := List.eq_nil_of_length_eq_zero h0
 have := h.g
 subst e
 exact this.symm
theorem ELast.neg {G p : List Int} (h : ELast G p) (h0 : 0 < p.length) (hs : cf p (p.length - 1) < 0) : G = scl (-1) p := by
 rw [← h.g, npr_of_lead h.np (List.length_pos_iff.1 h0), if_pos (show lead p < 0 from hs), h.pp]
theorem ELast.pos {G p : List Int} (h : ELast G p) (h0 : 0 < p.length) (hs : ¬ cf p (p.length - 1) < 0) : G = p := by
 rw [← h.g, npr_of_lead h.np (List.length_pos_iff.1 h0), if_neg (show ¬ lead p < 0 from hs), h.pp]
end Pl
theorem k'ft (c : Nat) (q : List Int) (v : Value) (e : Int) (w : World) (h : Rp w v q) (hc : Ck w c e) (hl : q.length ≤ 100) (ht : ∀ a ∈ q, a.natAbs < Top) :
 Calls Tryz.prog 118 #[.slice none 0 0, v, .func (.func 79) #[.pointer (some ⟨c, 0, none⟩)] #[]] w (RpPost (Pl.scl (-1) q) w) := by
 have hcf : ∀ k, (Pl.cf q k).natAbs < Top := by
  intro k
  by_cases g : k < q.length
  ·rw [Pl.cf_lt g]; exact ht _ (List.getElem_mem g)
  ·rw [Pl.cf_ge (by omega)]; exact Nat.lt_of_le_of_lt (by simp) (Nat.lt_of_lt_of_le W0 W_Top)
 have h1 := k'fs c [] q (Pl.scl (-1) q) (.slice none 0 0) v w (fun _ => e) (Rw.nil w) h hc (by simp [Pl.scl]) (by simpa [Pl.scl] using hl) (fun k wr hk hck => by
  have h2 := k'cw c (Pl.cf [] k) (Pl.cf q k) e wr hck (by rw [Pl.cf_ge (by simp)]; exact Nat.lt_of_le_of_lt (by simp) (Nat.lt_of_lt_of_le W0 W_Top)) (hcf k)
  have e1 : Pl.cf [] k - Pl.cf q k = Pl.cf (Pl.scl (-1) q) k := by rw [Pl.cf_scl, Pl.cf_ge (p := []) (by simp)]; omega
  have e2 : (Pl.cf [] k - Pl.cf q k).natAbs < Top := by rw [Pl.cf_ge (p := []) (by simp)]; have := hcf k; omega
  rw [k'ct e2, er_ok e e2, e1] at h2
  exact h2)
 refine h1.mono ?_
 rintro en w' ⟨v', rfl, hr, hb, hck⟩
 exact ⟨v', rfl, hr, hb.below hc hck⟩
theorem k'fu (c : Nat) (p q : List Int) (v1 v2 : Value) (e : Int) (w : World) (h1 : Rp w v1 p) (h2 : Rp w v2 q) (hc : Ck w c e) (hp : Pl.Nrm p) (hq : Pl.Nrm q) (hl1 : p.length ≤ 50) (hl2 : q.length ≤ 50)
 (ht1 : ∀ a ∈ p, a.natAbs < Top) (ht2 : ∀ a ∈ q, a.natAbs < Top) (S : List Int → List Int → Prop) (hS : Pl.Euk S) (hS1 : q.length ≤ p.length → S (Pl.prim p) (Pl.prim q)) (hS2 : p.length < q.length → S (Pl.prim q) (Pl.prim p)) :
 Calls Tryz.prog 112 #[.pointer (some ⟨c, 0, none⟩), v1, v2] w (RpPost (Pl.gcdP p q) w) := by
 obtain ⟨G, hG⟩ : ∃ G, G = Pl.gcdP p q := ⟨_, rfl⟩
 rw [← hG]
 have HP1 := i' (k'fp c p v1 e w h1 hc hp (by omega) ht1)
 have HP2 := i' (fun w' (hb : Below w.heap.size w w') => k'fp c q v2 e w' (h2.below hb) (hc.below hb) hq (by omega) ht2)
 have HC := i' hc
 have HS := i' hS
 have hg0 : Pl.gcdP (Pl.prim p) (Pl.prim q) = G := by rw [hG]; exact Pl.gcdP_npr (Pl.npr_prim hp) (Pl.npr_prim hq)
 have HI1 : Hid (q.length ≤ p.length → Pl.EInv S G (Pl.prim p) (Pl.prim q)) := fun h5 =>
  ⟨Pl.prim_nrm hp, Pl.prim_nrm hq, Pl.prim_prim hp, Pl.prim_prim hq, hg0, by rw [Pl.prim_length, Pl.prim_length]; exact h5, by rw [Pl.prim_length]; exact hl1, hS1 h5⟩
 have HI2 : Hid (p.length < q.length → Pl.EInv S G (Pl.prim q) (Pl.prim p)) := fun h5 =>
  ⟨Pl.prim_nrm hq, Pl.prim_nrm hp, Pl.prim_prim hq, Pl.prim_prim hp, by rw [← Pl.gcdP_swap (Pl.prim_nrm hp) (Pl.prim_nrm hq) (by rw [Pl.prim_length, Pl.prim_length]; exact h5)]; exact hg0, by rw [Pl.prim_length, Pl.prim_length]; exact Nat.le_of_lt h5, by rw [Pl.prim_length]; exact hl2, hS2 h5⟩
 obtain ⟨k1, hk1⟩ : ∃ k, k = p.length := ⟨_, rfl⟩
 obtain ⟨k2, hk2⟩ : ∃ k, k = q.length := ⟨_, rfl⟩
 have HN1 : Hid (k1 = (Pl.prim p).length) := by show _ = _; rw [Pl.prim_length]; exact hk1
 have HN2 : Hid (k2 = (Pl.prim q).length) := by show _ = _; rw [Pl.prim_length]; exact hk2
 rw [← hk1] at hl1
 rw [← hk2] at hl2
 rw [← hk1, ← hk2] at HI1 HI2
 obtain ⟨_, _, _, _, rfl, -⟩ := h1.open_
 obtain ⟨_, _, _, _, rfl, -⟩ := h2.open_
 clear hG h1 h2 hc hp hq ht1 ht2 hS hS1 hS2 hg0 hk1 hk2
 generalize Pl.prim p = pp at *
 generalize Pl.prim q = pq at *
 go_enter Tryz.func112, Tryz.ntmps112
 go_wp2_with fail
 refine HP1.out.mono ?_
 rintro en w1 ⟨v1, rfl, r1, b1⟩
 have B1 := i' b1
 have R1 := i' r1
 clear b1 r1
 go_wp2_with fail
 refine (HP2.out _ B1.out).mono ?_
 rintro en w2 ⟨v2, rfl, r2, b2⟩
 have B2 := i' (chain B1.out b2)
 have R1 := i' (R1.out.below b2)
 have R2 := i' r2
 clear b2 r2
 obtain ⟨A1, _, _, C1, rfl, -⟩ := Rp.open_ R1.out
 obtain ⟨A2, _, _, C2, rfl, -⟩ := Rp.open_ R2.out
 rw [← HN1.out] at R1 ⊢
 rw [← HN2.out] at R2 ⊢
 by_cases hlt0 : k1 < k2
 ·have HI := i' (HI2.out hlt0)
  clear HI1 HI2 HP1 HP2
  go_wp2
  clear hlt0
  go_loopw [1, 2] (fun v1 v2 wr => ∃ (wz : World) (a1 a2 : Option Addr) (n1 c1 n2 c2 : Nat) (p q : List Int), wz = wr ∧ v1 = .slice a1 n1 c1 ∧ v2 = .slice a2 n2 c2 ∧ n1 ≤ 50 ∧ n2 ≤ 50 ∧ Hid (n1 = p.length) ∧ Hid (n2 = q.length) ∧ Hid (Rp wz (.slice a1 n1 c1) p) ∧ Hid (Rp wz (.slice a2 n2 c2) q) ∧ Hid (Pl.EInv S G p q) ∧ Hid (Below w.heap.size w wz))
   (fun _ v2 _ => lenOf v2)
  case atStart => exact ⟨w2, A2, A1, k2, C2, k1, C1, pq, pp, rfl, rfl, rfl, hl2, hl1, HN2.out, HN1.out, R2.out, R1.out, HI.out, B2.out⟩
  case round =>
   clear R1 R2 B2 HI HN1 HN2
   obtain ⟨wz, a1, a2, n1, c1, n2, c2, p, q, rfl, rfl, rfl, hn1, hn2, hp1, hq1, hR1, hR2, hE, hbl⟩ := hrel
   by_cases hlt : 1 < n2
   ·have hE2 := hE.out
    have hq2 : n2 = q.length := hq1.out
    have h1q : 1 < q.length := by omega
    have HRe := i' (k'ex c p q (.slice a1 n1 c1) (.slice a2 n2 c2) e wz hR1.out hR2.out (HC.out.below hbl.out) (by have := hp1.out; omega) (by omega) (by intro e0; rw [e0] at h1q; simp at h1q) (hE2.mx1 h1q) hE2.len (HS.out.top2 p q hE2.s) (HS.out.fit p q hE2.s h1q hE2.len))
    have HIn := i' (hE2.step HS.out h1q)
    have hmr : Pl.mx (Pl.rest p q) < Top := Nat.lt_of_le_of_lt (Pl.mx_rest p q) (HS.out.fit p q hE2.s h1q hE2.len)
    have hrl := Pl.rest_length (p := p) (q := q) (by omega)
    have HPr := i' (fun v w' h5 h6 => k'fp c (Pl.rest p q) v e w' h5 h6 (Pl.rest_nrm p q) (by omega) (fun a ha => Nat.lt_of_le_of_lt (Pl.mx_mem ha) hmr))
    have HLe : Hid ((Pl.prim (Pl.rest p q)).length < n2) := by show _ < _; rw [Pl.prim_length]; omega
    generalize Pl.rest p q = r at *
    generalize Pl.prim r = pr at *
    clear hE2 hq2 h1q hmr hrl
    go_wp2_with fail
    refine HRe.out.mono ?_
    rintro en w5 ⟨v5, rfl, r5, b5⟩
    have B5 := i' (chain hbl.out b5)
    have R5 := i' r5
    have R25 := i' (hR2.out.below b5)
    clear b5 r5
    go_wp2_with fail
    refine (HPr.out _ _ R5.out (HC.out.below B5.out)).mono ?_
    rintro en w6 ⟨v6, rfl, r6, b6⟩
    have B6 := i' (chain B5.out b6)
    have R26 := i' (R25.out.below b6)
    obtain ⟨a6, b66, o6, c6, rfl, -, -, -, -⟩ := r6.open_
    have R6 := i' r6
    clear b6 r6
    have hln : pr.length < n2 := HLe.out
    obtain ⟨n6, hn6⟩ : ∃ n6, n6 = pr.length := ⟨_, rfl⟩
    rw [← hn6] at hln R6 ⊢
    have HN6 := i' hn6
    clear hn6
    go_wp2
    go_roundw
    case rel => exact ⟨_, a2, a6, n2, c2, n6, c6, q, pr, rfl, rfl, rfl, hn2, by omega, hq1.out, HN6.out, R26.out, R6.out, HIn.out, B6.out⟩
    case measure => simp [lenOf]; omega
   ·rcases (show n2 = 1 ∨ n2 = 0 by omega) with h1 | h1
    ·have HLs := i' (hE.out.one HS.out (hq1.out.symm.trans h1))
     subst h1
     clear hE hlt
     obtain ⟨bx, ox, hx4, hx5⟩ : ∃ bx ox, (0 < 1 → a2 = some ⟨bx, ox, none⟩) ∧ ∀ k (h : k < q.length), wz.cell? ⟨bx, ox + k * 2, none⟩ = some (.bool (zb q[k])) ∧ wz.cell? ⟨bx, ox + k * 2 + 1, none⟩ = some (.string (zs q[k])) := by
      obtain ⟨ax, bx, ox, cx, h1, h2, h3, h4, h5⟩ := Rp.open_ hR2.out
      injection h1 with e1 e2 e3
      exact ⟨bx, ox, fun h0 => e1.trans (h4 (by intro e; rw [e] at e2; simp at e2 <;> omega)), h5⟩
     have hnx : 1 = q.length := hq1.out
     have h0 : 0 < 1 := Nat.one_pos
     ·obtain rfl := hx4 h0
      have hmp : 0 < q.length := by omega
      obtain ⟨d0, d1⟩ := hx5 0 hmp
      simp only [Nat.zero_mul, Nat.add_zero] at d0 d1
      have e8 : q.length - 1 = 0 := by omega
      have e9 : Pl.cf q (q.length - 1) = q[0] := by rw [e8, Pl.cf_lt hmp]
      have HPos : Hid (¬ q[0] < 0 → G = q) := fun h => HLs.out.pos (by omega) (by rw [e9]; exact h)
      have HNeg : Hid (q[0] < 0 → G = Pl.scl (-1) q) := fun h => HLs.out.neg (by omega) (by rw [e9]; exact h)
      have htx := HLs.out.top _ (List.getElem_mem hmp)
      have hl5 := HLs.out.l50
      have HSg := i' (fun w => k'4k (zb q[0]) (zs q[0]) w (Nat.le_trans (k'5t htx) (by decide)))
      rw [sgV_z htx] at HSg
      have HCom := i' (fun w' (hb : Below wz.heap.size wz w') => k'ft c q (.slice (some ⟨bx, ox, none⟩) 1 c2) e w' (hR2.out.below hb) (HC.out.below (chain hbl.out hb)) (by omega) HLs.out.top)
      clear hx4 hx5 e8 e9 htx
      generalize q[0] = lz at *
      clear hmp hnx hl5
      clear h0
      by_cases hneg : lz < 0
      ·have HG := i' (HNeg.out hneg)
       have hs1 : Int.sign lz = -1 := Int.sign_eq_neg_one_of_neg hneg
       rw [hs1] at HSg
       clear HNeg HPos hneg hs1
       go_wp2_with fail
       refine (HSg.out _).mono ?_
       rintro en w5 ⟨rfl, b5⟩
       have B5 := i' b5
       clear b5
       go_wp2_with fail
       refine (HCom.out _ B5.out).mono ?_
       rintro en w6 ⟨v6, rfl, r6, b6⟩
       have B6 := i' (chain hbl.out (chain B5.out b6))
       have R6 := i' r6
       clear b6 r6
       go_wp2
       go_ret
       exact ⟨_, rfl, by rw [HG.out]; exact R6.out, B6.out⟩
      ·have HG := i' (HPos.out hneg)
       obtain ⟨sv, hsv⟩ : ∃ sv, sv = Int.sign lz := ⟨_, rfl⟩
       have hs1 : ¬ sv < 0 := by
        rw [hsv]
        rcases Int.lt_trichotomy lz 0 with g | g | g
        ·exact absurd g hneg
        ·rw [g]; decide
        ·rw [Int.sign_eq_one_of_pos g]; decide
       rw [← hsv] at HSg
       clear HNeg HPos hneg hsv
       go_wp2_with fail
       refine (HSg.out _).mono ?_
       rintro en w5 ⟨rfl, b5⟩
       have B5 := i' b5
       clear b5
       go_wp2
       go_ret
       exact ⟨_, rfl, by rw [HG.out]; exact hR2.out.below B5.out, chain hbl.out B5.out⟩
    ·have HLs := i' (hE.out.zero HS.out (hq1.out.symm.trans h1))
     subst h1
     clear hE hlt
     obtain ⟨bx, ox, hx4, hx5⟩ : ∃ bx ox, (0 < n1 → a1 = some ⟨bx, ox, none⟩) ∧ ∀ k (h : k < p.length), wz.cell? ⟨bx, ox + k * 2, none⟩ = some (.bool (zb p[k])) ∧ wz.cell? ⟨bx, ox + k * 2 + 1, none⟩ = some (.string (zs p[k])) := by
      obtain ⟨ax, bx, ox, cx, h1, h2, h3, h4, h5⟩ := Rp.open_ hR1.out
      injection h1 with e1 e2 e3
      exact ⟨bx, ox, fun h0 => e1.trans (h4 (by intro e; rw [e] at e2; simp at e2 <;> omega)), h5⟩
     have hnx : n1 = p.length := hp1.out
     rcases Nat.eq_zero_or_pos n1 with h0 | h0
     ·have HG := i' (HLs.out.nil (by omega))
      clear hx4 hx5 hnx
      subst h0
      go_wp2
      go_ret
      exact ⟨_, rfl, by rw [HG.out]; exact hR1.out, hbl.out⟩
     ·obtain ⟨mm, hmm⟩ : ∃ mm, n1 = mm + 1 := ⟨n1 - 1, by omega⟩
      obtain rfl := hx4 h0
      have hmp : mm < p.length := by omega
      obtain ⟨d0, d1⟩ := hx5 mm hmp
      have e8 : p.length - 1 = mm := by omega
      have e9 : Pl.cf p (p.length - 1) = p[mm] := by rw [e8, Pl.cf_lt hmp]
      have HPos : Hid (¬ p[mm] < 0 → G = p) := fun h => HLs.out.pos (by omega) (by rw [e9]; exact h)
      have HNeg : Hid (p[mm] < 0 → G = Pl.scl (-1) p) := fun h => HLs.out.neg (by omega) (by rw [e9]; exact h)
      have htx := HLs.out.top _ (List.getElem_mem hmp)
      have hl5 := HLs.out.l50
      have HSg := i' (fun w => k'4k (zb p[mm]) (zs p[mm]) w (Nat.le_trans (k'5t htx) (by decide)))
      rw [sgV_z htx] at HSg
      have HCom := i' (fun w' (hb : Below wz.heap.size wz w') => k'ft c p (.slice (some ⟨bx, ox, none⟩) n1 c1) e w' (hR1.out.below hb) (HC.out.below (chain hbl.out hb)) (by omega) HLs.out.top)
      clear hx4 hx5 e8 e9 htx
      generalize p[mm] = lz at *
      clear hmp hnx hl5
      have i0 : (n1 : Int) - 1 = (mm : Int) := by omega
      have i1 : (mm : Int) < (n1 : Int) := by omega
      clear hmm
      by_cases hneg : lz < 0
      ·have HG := i' (HNeg.out hneg)
       have hs1 : Int.sign lz = -1 := Int.sign_eq_neg_one_of_neg hneg
       rw [hs1] at HSg
       clear HNeg HPos hneg hs1
       go_wp2_with fail
       refine (HSg.out _).mono ?_
       rintro en w5 ⟨rfl, b5⟩
       have B5 := i' b5
       clear b5
       go_wp2_with fail
       refine (HCom.out _ B5.out).mono ?_
       rintro en w6 ⟨v6, rfl, r6, b6⟩
       have B6 := i' (chain hbl.out (chain B5.out b6))
       have R6 := i' r6
       clear b6 r6
       go_wp2
       go_ret
       exact ⟨_, rfl, by rw [HG.out]; exact R6.out, B6.out⟩
      ·have HG := i' (HPos.out hneg)
       obtain ⟨sv, hsv⟩ : ∃ sv, sv = Int.sign lz := ⟨_, rfl⟩
       have hs1 : ¬ sv < 0 := by
        rw [hsv]
        rcases Int.lt_trichotomy lz 0 with g | g | g
        ·exact absurd g hneg
        ·rw [g]; decide
        ·rw [Int.sign_eq_one_of_pos g]; decide
       rw [← hsv] at HSg
       clear HNeg HPos hneg hsv
       go_wp2_with fail
       refine (HSg.out _).mono ?_
       rintro en w5 ⟨rfl, b5⟩
       have B5 := i' b5
       clear b5
       go_wp2
       go_ret
       exact ⟨_, rfl, by rw [HG.out]; exact hR1.out.below B5.out, chain hbl.out B5.out⟩
 ·have HI := i' (HI1.out (by omega))
  clear HI1 HI2 HP1 HP2
  go_wp2
  clear hlt0
  go_loopw [1, 2] (fun v1 v2 wr => ∃ (wz : World) (a1 a2 : Option Addr) (n1 c1 n2 c2 : Nat) (p q : List Int), wz = wr ∧ v1 = .slice a1 n1 c1 ∧ v2 = .slice a2 n2 c2 ∧ n1 ≤ 50 ∧ n2 ≤ 50 ∧ Hid (n1 = p.length) ∧ Hid (n2 = q.length) ∧ Hid (Rp wz (.slice a1 n1 c1) p) ∧ Hid (Rp wz (.slice a2 n2 c2) q) ∧ Hid (Pl.EInv S G p q) ∧ Hid (Below w.heap.size w wz))
   (fun _ v2 _ => lenOf v2)
  case atStart => exact ⟨w2, A1, A2, k1, C1, k2, C2, pp, pq, rfl, rfl, rfl, hl1, hl2, HN1.out, HN2.out, R1.out, R2.out, HI.out, B2.out⟩
  case round =>
   clear R1 R2 B2 HI HN1 HN2
   obtain ⟨wz, a1, a2, n1, c1, n2, c2, p, q, rfl, rfl, rfl, hn1, hn2, hp1, hq1, hR1, hR2, hE, hbl⟩ := hrel
   by_cases hlt : 1 < n2
   ·have hE2 := hE.out
    have hq2 : n2 = q.length := hq1.out
    have h1q : 1 < q.length := by omega
    have HRe := i' (k'ex c p q (.slice a1 n1 c1) (.slice a2 n2 c2) e wz hR1.out hR2.out (HC.out.below hbl.out) (by have := hp1.out; omega) (by omega) (by intro e0; rw [e0] at h1q; simp at h1q) (hE2.mx1 h1q) hE2.len (HS.out.top2 p q hE2.s) (HS.out.fit p q hE2.s h1q hE2.len))
    have HIn := i' (hE2.step HS.out h1q)
    have hmr : Pl.mx (Pl.rest p q) < Top := Nat.lt_of_le_of_lt (Pl.mx_rest p q) (HS.out.fit p q hE2.s h1q hE2.len)
    have hrl := Pl.rest_length (p := p) (q := q) (by omega)
    have HPr := i' (fun v w' h5 h6 => k'fp c (Pl.rest p q) v e w' h5 h6 (Pl.rest_nrm p q) (by omega) (fun a ha => Nat.lt_of_le_of_lt (Pl.mx_mem ha) hmr))
    have HLe : Hid ((Pl.prim (Pl.rest p q)).length < n2) := by show _ < _; rw [Pl.prim_length]; omega
    generalize Pl.rest p q = r at *
    generalize Pl.prim r = pr at *
    clear hE2 hq2 h1q hmr hrl
    go_wp2_with fail
    refine HRe.out.mono ?_
    rintro en w5 ⟨v5, rfl, r5, b5⟩
    have B5 := i' (chain hbl.out b5)
    have R5 := i' r5
    have R25 := i' (hR2.out.below b5)
    clear b5 r5
    go_wp2_with fail
    refine (HPr.out _ _ R5.out (HC.out.below B5.out)).mono ?_
    rintro en w6 ⟨v6, rfl, r6, b6⟩
    have B6 := i' (chain B5.out b6)
    have R26 := i' (R25.out.below b6)
    obtain ⟨a6, b66, o6, c6, rfl, -, -, -, -⟩ := r6.open_
    have R6 := i' r6
    clear b6 r6
    have hln : pr.length < n2 := HLe.out
    obtain ⟨n6, hn6⟩ : ∃ n6, n6 = pr.length := ⟨_, rfl⟩
    rw [← hn6] at hln R6 ⊢
    have HN6 := i' hn6
    clear hn6
    go_wp2
    go_roundw
    case rel => exact ⟨_, a2, a6, n2, c2, n6, c6, q, pr, rfl, rfl, rfl, hn2, by omega, hq1.out, HN6.out, R26.out, R6.out, HIn.out, B6.out⟩
    case measure => simp [lenOf]; omega
   ·rcases (show n2 = 1 ∨ n2 = 0 by omega) with h1 | h1
    ·have HLs := i' (hE.out.one HS.out (hq1.out.symm.trans h1))
     subst h1
     clear hE hlt
     obtain ⟨bx, ox, hx4, hx5⟩ : ∃ bx ox, (0 < 1 → a2 = some ⟨bx, ox, none⟩) ∧ ∀ k (h : k < q.length), wz.cell? ⟨bx, ox + k * 2, none⟩ = some (.bool (zb q[k])) ∧ wz.cell? ⟨bx, ox + k * 2 + 1, none⟩ = some (.string (zs q[k])) := by
      obtain ⟨ax, bx, ox, cx, h1, h2, h3, h4, h5⟩ := Rp.open_ hR2.out
      injection h1 with e1 e2 e3
      exact ⟨bx, ox, fun h0 => e1.trans (h4 (by intro e; rw [e] at e2; simp at e2 <;> omega)), h5⟩
     have hnx : 1 = q.length := hq1.out
     have h0 : 0 < 1 := Nat.one_pos
     ·obtain rfl := hx4 h0
      have hmp : 0 < q.length := by omega
      obtain ⟨d0, d1⟩ := hx5 0 hmp
      simp only [Nat.zero_mul, Nat.add_zero] at d0 d1
      have e8 : q.length - 1 = 0 := by omega
      have e9 : Pl.cf q (q.length - 1) = q[0] := by rw [e8, Pl.cf_lt hmp]
      have HPos : Hid (¬ q[0] < 0 → G = q) := fun h => HLs.out.pos (by omega) (by rw [e9]; exact h)
      have HNeg : Hid (q[0] < 0 → G = Pl.scl (-1) q) := fun h => HLs.out.neg (by omega) (by rw [e9]; exact h)
      have htx := HLs.out.top _ (List.getElem_mem hmp)
      have hl5 := HLs.out.l50
      have HSg := i' (fun w => k'4k (zb q[0]) (zs q[0]) w (Nat.le_trans (k'5t htx) (by decide)))
      rw [sgV_z htx] at HSg
      have HCom := i' (fun w' (hb : Below wz.heap.size wz w') => k'ft c q (.slice (some ⟨bx, ox, none⟩) 1 c2) e w' (hR2.out.below hb) (HC.out.below (chain hbl.out hb)) (by omega) HLs.out.top)
      clear hx4 hx5 e8 e9 htx
      generalize q[0] = lz at *
      clear hmp hnx hl5
      clear h0
      by_cases hneg : lz < 0
      ·have HG := i' (HNeg.out hneg)
       have hs1 : Int.sign lz = -1 := Int.sign_eq_neg_one_of_neg hneg
       rw [hs1] at HSg
       clear HNeg HPos hneg hs1
       go_wp2_with fail
       refine (HSg.out _).mono ?_
       rintro en w5 ⟨rfl, b5⟩
       have B5 := i' b5
       clear b5
       go_wp2_with fail
       refine (HCom.out _ B5.out).mono ?_
       rintro en w6 ⟨v6, rfl, r6, b6⟩
       have B6 := i' (chain hbl.out (chain B5.out b6))
       have R6 := i' r6
       clear b6 r6
       go_wp2
       go_ret
       exact ⟨_, rfl, by rw [HG.out]; exact R6.out, B6.out⟩
      ·have HG := i' (HPos.out hneg)
       obtain ⟨sv, hsv⟩ : ∃ sv, sv = Int.sign lz := ⟨_, rfl⟩
       have hs1 : ¬ sv < 0 := by
        rw [hsv]
        rcases Int.lt_trichotomy lz 0 with g | g | g
        ·exact absurd g hneg
        ·rw [g]; decide
        ·rw [Int.sign_eq_one_of_pos g]; decide
       rw [← hsv] at HSg
       clear HNeg HPos hneg hsv
       go_wp2_with fail
       refine (HSg.out _).mono ?_
       rintro en w5 ⟨rfl, b5⟩
       have B5 := i' b5
       clear b5
       go_wp2
       go_ret
       exact ⟨_, rfl, by rw [HG.out]; exact hR2.out.below B5.out, chain hbl.out B5.out⟩
    ·have HLs := i' (hE.out.zero HS.out (hq1.out.symm.trans h1))
     subst h1
     clear hE hlt
     obtain ⟨bx, ox, hx4, hx5⟩ : ∃ bx ox, (0 < n1 → a1 = some ⟨bx, ox, none⟩) ∧ ∀ k (h : k < p.length), wz.cell? ⟨bx, ox + k * 2, none⟩ = some (.bool (zb p[k])) ∧ wz.cell? ⟨bx, ox + k * 2 + 1, none⟩ = some (.string (zs p[k])) := by
      obtain ⟨ax, bx, ox, cx, h1, h2, h3, h4, h5⟩ := Rp.open_ hR1.out
      injection h1 with e1 e2 e3
      exact ⟨bx, ox, fun h0 => e1.trans (h4 (by intro e; rw [e] at e2; simp at e2 <;> omega)), h5⟩
     have hnx : n1 = p.length := hp1.out
     rcases Nat.eq_zero_or_pos n1 with h0 | h0
     ·have HG := i' (HLs.out.nil (by omega))
      clear hx4 hx5 hnx
      subst h0
      go_wp2
      go_ret
      exact ⟨_, rfl, by rw [HG.out]; exact hR1.out, hbl.out⟩
     ·obtain ⟨mm, hmm⟩ : ∃ mm, n1 = mm + 1 := ⟨n1 - 1, by omega⟩
      obtain rfl := hx4 h0
      have hmp : mm < p.length := by omega
      obtain ⟨d0, d1⟩ := hx5 mm hmp
      have e8 : p.length - 1 = mm := by omega
      have e9 : Pl.cf p (p.length - 1) = p[mm] := by rw [e8, Pl.cf_lt hmp]
      have HPos : Hid (¬ p[mm] < 0 → G = p) := fun h => HLs.out.pos (by omega) (by rw [e9]; exact h)
      have HNeg : Hid (p[mm] < 0 → G = Pl.scl (-1) p) := fun h => HLs.out.neg (by omega) (by rw [e9]; exact h)
      have htx := HLs.out.top _ (List.getElem_mem hmp)
      have hl5 := HLs.out.l50
      have HSg := i' (fun w => k'4k (zb p[mm]) (zs p[mm]) w (Nat.le_trans (k'5t htx) (by decide)))
      rw [sgV_z htx] at HSg
      have HCom := i' (fun w' (hb : Below wz.heap.size wz w') => k'ft c p (.slice (some ⟨bx, ox, none⟩) n1 c1) e w' (hR1.out.below hb) (HC.out.below (chain hbl.out hb)) (by omega) HLs.out.top)
      clear hx4 hx5 e8 e9 htx
      generalize p[mm] = lz at *
      clear hmp hnx hl5
      have i0 : (n1 : Int) - 1 = (mm : Int) := by omega
      have i1 : (mm : Int) < (n1 : Int) := by omega
      clear hmm
      by_cases hneg : lz < 0
      ·have HG := i' (HNeg.out hneg)
       have hs1 : Int.sign lz = -1 := Int.sign_eq_neg_one_of_neg hneg
       rw [hs1] at HSg
       clear HNeg HPos hneg hs1
       go_wp2_with fail
       refine (HSg.out _).mono ?_
       rintro en w5 ⟨rfl, b5⟩
       have B5 := i' b5
       clear b5
       go_wp2_with fail
       refine (HCom.out _ B5.out).mono ?_
       rintro en w6 ⟨v6, rfl, r6, b6⟩
       have B6 := i' (chain hbl.out (chain B5.out b6))
       have R6 := i' r6
       clear b6 r6
       go_wp2
       go_ret
       exact ⟨_, rfl, by rw [HG.out]; exact R6.out, B6.out⟩
      ·have HG := i' (HPos.out hneg)
       obtain ⟨sv, hsv⟩ : ∃ sv, sv = Int.sign lz := ⟨_, rfl⟩
       have hs1 : ¬ sv < 0 := by
        rw [hsv]
        rcases Int.lt_trichotomy lz 0 with g | g | g
        ·exact absurd g hneg
        ·rw [g]; decide
        ·rw [Int.sign_eq_one_of_pos g]; decide
       rw [← hsv] at HSg
       clear HNeg HPos hneg hsv
       go_wp2_with fail
       refine (HSg.out _).mono ?_
       rintro en w5 ⟨rfl, b5⟩
       have B5 := i' b5
       clear b5
       go_wp2
       go_ret
       exact ⟨_, rfl, by rw [HG.out]; exact hR1.out.below B5.out, chain hbl.out B5.out⟩
def ResP (p : List Int) (w : World) (en : Ending) (w' : World) : Prop := ∃ v, en = .returned (.tuple #[v, .int .i64 0]) ∧ Rp w' v p ∧ Below w.heap.size w w'
abbrev ResE (e : Int) (w : World) : Ending → World → Prop := Ret (.tuple #[.slice none 0 0, .int .i64 e]) w
theorem k'fv {L : List (Bool × ByteArray)} {x : Bool × ByteArray} (h : x ∈ L) : lenV x.1 x.2 ≤ glb L := by
 have : ∀ (L : List (Bool × ByteArray)) (m : Int), m ≤ L.foldl (fun m x => max m (lenV x.1 x.2)) m ∧ ∀ x ∈ L, lenV x.1 x.2 ≤ L.foldl (fun m x => max m (lenV x.1 x.2)) m := by
  intro L
  induction L with
  | nil => intro m; exact ⟨Int.le_refl _, fun x h => absurd h (by simp)⟩
  | cons y L ih =>
   intro m
   rw [List.foldl_cons]
   obtain ⟨h1, h2⟩ := ih (max m (lenV y.1 y.2))
   refine ⟨by omega, fun x hx => ?_⟩
   rcases List.mem_cons.1 hx with rfl | hx
   ·omega
   ·exact h2 x hx
 exact (this L 0).2 x h
theorem k'fw {p : List Int} (h : ∀ a ∈ p, a.natAbs < Top) : Pl.mx p < 2 ^ (glb (zl p)).toNat := by
 have hpos : 0 < 2 ^ (glb (zl p)).toNat := Nat.pow_pos (by decide)
 have h1 : Pl.mx p ≤ 2 ^ (glb (zl p)).toNat - 1 := by
  refine Pl.mx_le fun k hk => ?_
  rw [Pl.cf_lt hk]
  have hm := List.getElem_mem hk
  generalize p[k] = a at hm ⊢
  have h2 := k'fv (L := zl p) (x := (zb a, zs a)) (List.mem_map.2 ⟨a, hm, rfl⟩)
  simp only at h2
  have hv := k'5s (h a hm)
  unfold lenV at h2
  rw [if_pos hv] at h2
  rcases Nat.eq_zero_or_pos (zs a).size with h0 | h0
  ·have := bv_zs a
   rw [(k'4l (k'40 hv)).2 h0] at this
   omega
  ·obtain ⟨l, e1, _, _, e4⟩ := k'4d (k'40 hv) h0
   rw [bv_zs] at e4
   have : 2 ^ l ≤ 2 ^ (glb (zl p)).toNat := Nat.pow_le_pow_right (by decide) (by omega)
   omega
 omega
theorem k'fx {p q : List Int} (hp : VP p) (hq : VP q) (h : ckd (zl p) (zl q) = 0) : q ≠ [] ∧ (q.length ≤ p.length → (2 * Pl.mx q) ^ (p.length + 1 - q.length) * Pl.mx p < Top) := by
 unfold ckd at h
 rw [hp.ok, hq.ok, show (true && true) = true from rfl, if_pos rfl, k'cc, k'cc] at h
 split at h
 ·omega
 ·next h0 =>
  refine ⟨fun e => h0 (by rw [e]; rfl), fun hl => ?_⟩
  split at h
  ·omega
  ·next h1 =>
   obtain ⟨s, hs⟩ : ∃ s, s = p.length + 1 - q.length := ⟨_, rfl⟩
   have hs2 : (p.length : Int) - q.length + 1 = (s : Int) := by omega
   rw [hs2] at h1
   rw [← hs]
   have a1 := k'fw hp.top
   have a2 := k'fw hq.top
   have g1 := k'fb (zl p)
   have g2 := k'fb (zl q)
   obtain ⟨gp, hgp⟩ : ∃ n : Nat, glb (zl p) = n := ⟨(glb (zl p)).toNat, by omega⟩
   obtain ⟨gq, hgq⟩ : ∃ n : Nat, glb (zl q) = n := ⟨(glb (zl q)).toNat, by omega⟩
   rw [hgp] at a1 h1
   rw [hgq] at a2 h1
   rw [Int.toNat_natCast] at a1 a2
   have h2 : gp + s * (gq + 1) ≤ 65536 := by
    have h3 : ¬ ((gp : Int) + (s : Int) * ((gq : Int) + 1) > 65536) := fun h => h1 ⟨by omega, h⟩
    have h4 : ((s * (gq + 1) : Nat) : Int) = (s : Int) * ((gq : Int) + 1) := by push_cast; rfl
    omega
   have b1 : (2 * Pl.mx q) ^ s ≤ 2 ^ (s * (gq + 1)) := by
    rw [Nat.mul_comm s, Nat.pow_mul]
    exact Nat.pow_le_pow_left (by rw [Nat.pow_succ]; omega) _
   have b2 : (2 * Pl.mx q) ^ s * Pl.mx p < 2 ^ (s * (gq + 1)) * 2 ^ gp := Nat.lt_of_le_of_lt (Nat.mul_le_mul_right _ b1) (Nat.mul_lt_mul_of_pos_left a1 (Nat.pow_pos (by decide)))
   rw [← Nat.pow_add] at b2
   refine Nat.lt_of_lt_of_le b2 ?_
   unfold Top
   exact Nat.pow_le_pow_right (by decide) (by rw [k'3m]; omega)
theorem k'fy {q : List Int} (hq : VP q) (h : q ≠ []) : 1 ≤ Pl.mx q := by
 have h2 := Pl.nrm_cf hq.nrm (List.length_pos_iff.2 h)
 have h3 := Pl.mx_cf q (q.length - 1)
 omega
theorem k'g0 (p q : List Int) (v1 v2 : Value) (w : World) (h1 : Rp w v1 p) (h2 : Rp w v2 q) (hp : VP p) (hq : VP q) (hc : ckd (zl p) (zl q) = 0) :
 Calls Tryz.prog 53 #[v1, v2] w (ResP (Pl.rest p q) w) := by
 obtain ⟨f1, f2⟩ := k'fx hp hq hc
 have l1 := hp.len
 have l2 := hq.len
 have HD := i' (k'fd (zl p) (zl q) v1 v2 w h1 h2 (k'd7 hp.top) (k'd7 hq.top))
 rw [hc] at HD
 have HR : Hid (∀ c w', Below w.heap.size w w' → Ck w' c 0 → Calls Tryz.prog 110 #[.pointer (some ⟨c, 0, none⟩), v1, v2] w' (RpPost (Pl.rest p q) w')) := fun c w' hb hck => by
  rcases Nat.lt_or_ge p.length q.length with g | g
  ·exact k'ev c p q v1 v2 0 w' (h1.below hb) (h2.below hb) hck (by omega) (by omega) hp.top g
  ·exact k'ex c p q v1 v2 0 w' (h1.below hb) (h2.below hb) hck (by omega) (by omega) f1 (k'fy hq f1) g hq.top (f2 g)
 generalize Pl.rest p q = r at *
 clear h1 h2 hp hq hc f1 f2 l1 l2
 go_enter Tryz.func53, Tryz.ntmps53
 go_wp2_with fail
 refine HD.out.mono ?_
 rintro en w1 ⟨rfl, b1⟩
 obtain ⟨w2, hw2⟩ : ∃ w2 : World, w2 = w1.alloc (.cells #[.int .i64 0] 96) := ⟨_, rfl⟩
 have HK : Hid (Ck w2 w1.heap.size 0) := by show Ck _ _ _; rw [hw2]; exact heap_alloc_new w1 _
 have B2 : Hid (Below w.heap.size w w2) := by show Below _ _ _; rw [hw2]; exact b1.alloc b1.size _
 clear b1
 go_wp2_with fail
 rw [← hw2]
 clear hw2
 refine (HR.out _ _ B2.out HK.out).mono ?_
 rintro en w3 ⟨v3, rfl, r3, b3⟩
 obtain ⟨a3, bb3, o3, c3, rfl, -⟩ := r3.open_
 have HK3 := i' (HK.out.below b3)
 have B3 := i' (chain B2.out b3)
 have R3 := i' r3
 clear b3 r3
 go_wp2_with fail
 refine (k'dy _ _ _ _ _ HK3.out).mono ?_
 rintro en w4 ⟨rfl, b4⟩
 have B4 := i' (chain B3.out b4)
 have R4 := i' (R3.out.below b4)
 clear b4
 go_wp2
 go_ret2
 exact ⟨_, rfl, R4.out, B4.out⟩
def zipL (f : Int → Int → Int) (p q : List Int) : List Int := (List.range (max p.length q.length)).map fun k => f (Pl.cf p k) (Pl.cf q k)
def clipL (f : Int → Int → Int) (p q : List Int) : List Int := (List.range (max p.length q.length)).map fun k => clip (f (Pl.cf p k) (Pl.cf q k))
theorem k'g1 (f : Int → Int → Int) (p q : List Int) : (clipL f p q).length = max p.length q.length := by simp [clipL]
theorem k'g2 (f : Int → Int → Int) (p q : List Int) (k : Nat) (h : k < (clipL f p q).length) : Pl.cf (clipL f p q) k = clip (f (Pl.cf p k) (Pl.cf q k)) := by
 rw [Pl.cf_lt h]; simp [clipL]
theorem k'g3 (f : Int → Int → Int) (p q : List Int) : ∀ a ∈ clipL f p q, a.natAbs < Top := by
 intro a ha
 obtain ⟨k, _, rfl⟩ := List.mem_map.1 ha
 exact k'ez _
theorem k'g4 {f : Int → Int → Int} {p q : List Int} (h : ∀ k, (f (Pl.cf p k) (Pl.cf q k)).natAbs < Top) : clipL f p q = zipL f p q := by
 unfold clipL zipL
 exact List.map_congr_left fun k _ => k'ct (h k)
def chainE (g : Nat → Int) : Nat → Int
 | 0 => 0
 | k + 1 => er (chainE g k) (g k)
theorem k'g5 {g : Nat → Int} (h : ∀ k, (g k).natAbs < Top) (n : Nat) : chainE g n = 0 := by
 induction n with
 | zero => rfl
 | succ n ih => rw [chainE, er_ok _ (h n), ih]
theorem k'g6 {g : Nat → Int} {j : Nat} (h : ¬ (g j).natAbs < Top) (n : Nat) (hj : j < n) : chainE g n = 7 := by
 induction n with
 | zero => omega
 | succ n ih =>
  rw [chainE]
  have h7 : ∀ m, chainE g m = 0 ∨ chainE g m = 7 := by
   intro m
   induction m with
   | zero => exact Or.inl rfl
   | succ m ihm =>
    rw [chainE]
    unfold er
    rcases ihm with e | e
    ·rw [e, if_pos rfl]
     split
     ·exact Or.inl rfl
     ·exact Or.inr rfl
    ·rw [e, if_neg (by decide)]; exact Or.inr rfl
  unfold er
  by_cases e : j = n
  ·subst e
   rcases h7 j with e2 | e2
   ·rw [e2, if_pos rfl, if_neg h]
   ·rw [e2, if_neg (by decide)]
  ·rw [ih (by omega), if_neg (by decide)]
theorem VP.cf_top {p : List Int} (hp : VP p) (k : Nat) : (Pl.cf p k).natAbs < Top := by
 by_cases g : k < p.length
 ·rw [Pl.cf_lt g]; exact hp.top _ (List.getElem_mem g)
 ·rw [Pl.cf_ge (by omega)]; exact Nat.lt_of_le_of_lt (by simp) (Nat.lt_of_lt_of_le W0 W_Top)
def CmbPost_add (p q : List Int) (w : World) (en : Ending) (w' : World) : Prop := ((∀ k, (Pl.cf p k + Pl.cf q k).natAbs < Top) ∧ ResP (Pl.trim (zipL (· + ·) p q)) w en w') ∨ ((∃ k, ¬ (Pl.cf p k + Pl.cf q k).natAbs < Top) ∧ ResE 7 w en w')
def CmbPost_sub (p q : List Int) (w : World) (en : Ending) (w' : World) : Prop := ((∀ k, (Pl.cf p k - Pl.cf q k).natAbs < Top) ∧ ResP (Pl.trim (zipL (· - ·) p q)) w en w') ∨ ((∃ k, ¬ (Pl.cf p k - Pl.cf q k).natAbs < Top) ∧ ResE 7 w en w')
theorem k'gc (c B : Nat) (p q : List Int) (v1 v2 : Value) (w w0 : World) (h1 : Rp w v1 p) (h2 : Rp w v2 q) (hp : VP p) (hq : VP q) (hc : Ck w c 0) (hb0 : Below w0.heap.size w0 w) (hcw : w0.heap.size ≤ c) :
 Calls Tryz.prog 77 #[.pointer (some ⟨c, 0, none⟩), v1, v2, .func (.func 79) #[.pointer (some ⟨c, 0, none⟩)] #[]] w (CmbPost_sub p q w0) := by
 have HV1 := i' (k'd9 p v1 w h1 hp)
 have HV2 := i' (fun w' (hb : Below w.heap.size w w') => k'd9 q v2 w' (h2.below hb) hq)
 have l1 := hp.len
 have l2 := hq.len
 have HC : Hid (∀ w', Below w.heap.size w w' → Calls Tryz.prog 118 #[v1, v2, .func (.func 79) #[.pointer (some ⟨c, 0, none⟩)] #[]] w' (BPoly (clipL (· - ·) p q) c (chainE (fun k => Pl.cf p k - Pl.cf q k) (max p.length q.length)) w')) := fun w' hb => by
  have h5 := k'fs c p q (clipL (· - ·) p q) v1 v2 w' (chainE fun k => Pl.cf p k - Pl.cf q k) (h1.below hb) (h2.below hb) (hc.below hb) (k'g1 _ _ _) (by rw [k'g1]; omega)
   (fun k wr hk hck => by rw [k'g2 _ _ _ _ hk]; exact k'cw c (Pl.cf p k) (Pl.cf q k) _ wr hck (hp.cf_top k) (hq.cf_top k))
  rw [k'g1] at h5
  exact h5
 have HT := i' (fun v w' h => k'dx v (clipL (· - ·) p q) w' h (k'g3 (· - ·) p q))
 have HRes : Hid ((chainE (fun k => Pl.cf p k - Pl.cf q k) (max p.length q.length) = 0 ∧ (∀ k, (Pl.cf p k - Pl.cf q k).natAbs < Top) ∧ clipL (· - ·) p q = zipL (· - ·) p q) ∨ (chainE (fun k => Pl.cf p k - Pl.cf q k) (max p.length q.length) = 7 ∧ ∃ k, ¬ (Pl.cf p k - Pl.cf q k).natAbs < Top)) := by
  by_cases h : ∀ k, (Pl.cf p k - Pl.cf q k).natAbs < Top
  ·exact Or.inl ⟨k'g5 h _, h, k'g4 h⟩
  ·obtain ⟨k, hk⟩ := Classical.not_forall.1 h
   refine Or.inr ⟨k'g6 hk _ ?_, k, hk⟩
   rcases Nat.lt_or_ge k (max p.length q.length) with g | g
   ·exact g
   ·exfalso
    rw [Pl.cf_ge (by omega), Pl.cf_ge (by omega)] at hk
    exact hk (Nat.lt_of_le_of_lt (by simp) (Nat.lt_of_lt_of_le W0 W_Top))
 obtain ⟨ev, hev⟩ : ∃ ev, ev = chainE (fun k => Pl.cf p k - Pl.cf q k) (max p.length q.length) := ⟨_, rfl⟩
 rw [← hev] at HC HRes
 obtain ⟨rl, hrl⟩ : ∃ rl, rl = clipL (· - ·) p q := ⟨_, rfl⟩
 rw [← hrl] at HC HRes HT
 have HB0 := i' hb0
 have HCk := i' hc
 clear h1 h2 hp hq hc l1 l2 hev hrl hb0
 go_enter Tryz.func77, Tryz.ntmps77
 go_wp2_with fail
 refine HV1.out.mono ?_
 rintro e w1 ⟨rfl, b1⟩
 have B1 := i' b1
 clear b1
 go_wp2_with fail
 refine (HV2.out _ B1.out).mono ?_
 rintro e w2 ⟨rfl, b2⟩
 have B2 := i' (chain B1.out b2)
 clear b2
 go_wp2_with fail
 refine (HC.out _ B2.out).mono ?_
 rintro e w3 ⟨v3, rfl, r3, b3, k3⟩
 have B3 := i' ((HB0.out.trans (B2.out.mono HB0.out.size)).trans (b3.lowC hcw (HCk.out.below B2.out).lt))
 have K3 := i' k3
 have R3 := i' r3
 clear b3 k3 r3
 go_wp2_with fail
 refine (HT.out _ _ R3.out).mono ?_
 rintro e w4 ⟨v4, rfl, r4, b4⟩
 obtain ⟨a4, bb4, o4, c4, rfl, -⟩ := r4.open_
 have B4 := i' (chain B3.out b4)
 have K4 := i' (K3.out.below b4)
 have R4 := i' r4
 clear b4 r4
 rcases HRes.out with ⟨e1, e2, e3⟩ | ⟨e1, e2⟩
 ·rw [e1] at K4
  have HE := i' (And.intro e2 e3)
  clear e1 e2 e3
  go_wp2_with fail
  refine (k'dy _ _ _ _ _ K4.out).mono ?_
  rintro en w5 ⟨rfl, b5⟩
  have B5 := i' (chain B4.out b5)
  have R5 := i' (R4.out.below b5)
  clear b5
  go_wp2
  go_ret2
  exact Or.inl ⟨HE.out.1, _, rfl, by rw [← HE.out.2]; exact R5.out, B5.out⟩
 ·rw [e1] at K4
  have HE := i' e2
  clear e1 e2
  go_wp2_with fail
  refine (k'dz _ _ 7 (by decide) _ K4.out).mono ?_
  rintro en w5 ⟨rfl, b5⟩
  have B5 := i' (chain B4.out b5)
  clear b5
  go_wp2
  go_ret2
  exact Or.inr ⟨HE.out, rfl, B5.out⟩
theorem k'ge (p q : List Int) (v1 v2 : Value) (w : World) (h1 : Rp w v1 p) (h2 : Rp w v2 q) (hp : VP p) (hq : VP q) :
 Calls Tryz.prog 26 #[v1, v2] w (CmbPost_sub p q w) := by
 obtain ⟨w0, hw0⟩ : ∃ w0 : World, w0 = w.alloc (.cells #[.int .i64 0] 96) := ⟨_, rfl⟩
 have B0 : Hid (Below w.heap.size w w0) := by show Below _ _ _; rw [hw0]; exact (Below.refl _ _).alloc (Nat.le_refl _) _
 have HK : Ck w0 w.heap.size 0 := by rw [hw0]; exact heap_alloc_new w _
 have HR := i' (k'gc w.heap.size 0 p q v1 v2 w0 w (h1.below B0.out) (h2.below B0.out) hp hq HK B0.out (Nat.le_refl _))
 clear h1 h2 hp hq HK
 go_enter Tryz.func26, Tryz.ntmps26
 go_wp2_with fail
 rw [← hw0]
 clear hw0
 refine HR.out.mono ?_
 rintro en w1 (⟨h5, v5, rfl, r5, b5⟩ | ⟨h5, rfl, b5⟩)
 ·obtain ⟨a5, bb5, o5, c5, rfl, -⟩ := r5.open_
  have H5 := i' (And.intro h5 (And.intro r5 b5))
  clear h5 r5 b5
  go_wp2
  go_ret2
  exact Or.inl ⟨H5.out.1, _, rfl, H5.out.2.1, H5.out.2.2⟩
 ·have H5 := i' (And.intro h5 b5)
  clear h5 b5
  go_wp2
  go_ret2
  exact Or.inr ⟨H5.out.1, rfl, H5.out.2⟩
theorem k'gg (L : List (Bool × ByteArray)) (v : Value) (w : World) (h : Rw w v L) (z : Small L) (he : vldP L = true) :
 Calls Tryz.prog 13 #[v] w (Ret (.tuple #[.int .i64 ((L.length : Int) - 1), .int .i64 0]) w) := by
 have HV := i' (k'd6 L v w h z)
 rw [he] at HV
 have HD := i' (fun w' (hb : Below w.heap.size w w') => k'da L v w' (h.below hb))
 generalize (L.length : Int) - 1 = r at *
 clear h z he
 go_enter Tryz.func13, Tryz.ntmps13
 go_wp2_with fail
 refine HV.out.mono ?_
 rintro e w1 ⟨rfl, b1⟩
 have B1 := i' b1
 clear b1
 go_wp2_with fail
 refine (HD.out _ B1.out).mono ?_
 rintro e w2 ⟨rfl, b2⟩
 have B2 := i' (chain B1.out b2)
 clear b2
 go_wp2
 go_ret2
 exact ⟨rfl, B2.out⟩
theorem k'gi (L : List (Bool × ByteArray)) (v : Value) (w : World) (h : Rw w v L) (z : Small L) (he : vldP L = true) :
 Calls Tryz.prog 14 #[v] w (Ret (.tuple #[.int .i64 (glb L), .int .i64 0]) w) := by
 have HV := i' (k'd6 L v w h z)
 rw [he] at HV
 have HD := i' (fun w' (hb : Below w.heap.size w w') => k'dc L v w' (h.below hb) z)
 generalize glb L = r at *
 clear h z he
 go_enter Tryz.func14, Tryz.ntmps14
 go_wp2_with fail
 refine HV.out.mono ?_
 rintro e w1 ⟨rfl, b1⟩
 have B1 := i' b1
 clear b1
 go_wp2_with fail
 refine (HD.out _ B1.out).mono ?_
 rintro e w2 ⟨rfl, b2⟩
 have B2 := i' (chain B1.out b2)
 clear b2
 go_wp2
 go_ret2
 exact ⟨rfl, B2.out⟩
theorem But.lowB {c B : Nat} {w w' : World} (h : But c w w') (hB : B ≤ c) (hc : c < w.heap.size) : Below B w w' := ⟨h.os, h.tape, h.output, h.size, fun k hk => h.block k (by omega) (by omega)⟩
def inL (p q : List Int) (n i j : Nat) : List Int := (List.range n).map fun k => Pl.conv p q i k + (if i ≤ k ∧ k < i + j then Pl.cf p i * Pl.cf q (k - i) else 0)
theorem k'gj (p q : List Int) (n i j : Nat) : (inL p q n i j).length = n := by simp [inL]
theorem k'gk (p q : List Int) (n i j k : Nat) (h : k < (inL p q n i j).length) : (inL p q n i j)[k] = Pl.conv p q i k + (if i ≤ k ∧ k < i + j then Pl.cf p i * Pl.cf q (k - i) else 0) := by simp [inL]
theorem k'gl (p q : List Int) (n : Nat) : inL p q n 0 0 = List.replicate n 0 := by
 apply List.ext_getElem (by simp [inL])
 intro k h1 h2
 rw [k'gk, if_neg (by omega)]
 simp [Pl.conv]
theorem k'gm (p q : List Int) (n i j : Nat) (h : i + j < n) : (inL p q n i j).set (i + j) (Pl.conv p q i (i + j) + Pl.cf p i * Pl.cf q j) = inL p q n i (j + 1) := by
 apply List.ext_getElem (by simp [inL])
 intro k h1 h2
 rw [List.getElem_set, k'gk, k'gk]
 by_cases e : i + j = k
 ·subst e
  rw [if_pos rfl, if_pos (by omega), show i + j - i = j by omega]
 ·rw [if_neg e]
  by_cases g : i ≤ k ∧ k < i + j
  ·rw [if_pos g, if_pos (by omega)]
  ·rw [if_neg g, if_neg (by omega)]
theorem k'gn (p q : List Int) (n i : Nat) : inL p q n i q.length = inL p q n (i + 1) 0 := by
 apply List.ext_getElem (by simp [inL])
 intro k h1 h2
 rw [k'gk, k'gk, if_neg (by omega : ¬ (i + 1 ≤ k ∧ k < i + 1 + 0)), Pl.conv, Int.add_zero]
 by_cases g : i ≤ k
 ·rw [if_pos g]
  by_cases g2 : k < i + q.length
  ·rw [if_pos ⟨g, g2⟩]
  ·rw [if_neg (by omega), Pl.cf_ge (p := q) (by omega)]; simp
 ·rw [if_neg g, if_neg (by omega)]
theorem k'go (p q : List Int) (hp : p ≠ []) (hq : q ≠ []) : inL p q (p.length + q.length - 1) p.length 0 = Pl.mul p q := by
 apply List.ext_getElem (by rw [k'gj, Pl.mul_length p q hp hq])
 intro k h1 h2
 rw [k'gk, if_neg (by omega), Int.add_zero, ← Pl.cf_lt h2, Pl.cf_mul]
theorem k'gp (p q : List Int) (i j : Nat) (hi : i < p.length) : (Pl.conv p q i (i + j)).natAbs ≤ Pl.sm p * Pl.mx q ∧ (Pl.cf p i * Pl.cf q j).natAbs ≤ Pl.sm p * Pl.mx q ∧ (Pl.conv p q i (i + j) + Pl.cf p i * Pl.cf q j).natAbs ≤ Pl.sm p * Pl.mx q := by
 have h1 := Pl.conv_le p q i (i + j) (by omega)
 have h2 : (Pl.cf p i * Pl.cf q j).natAbs ≤ (Pl.cf p i).natAbs * Pl.mx q := by rw [Int.natAbs_mul]; exact Nat.mul_le_mul_left _ (Pl.mx_cf q j)
 have h3 := Pl.sm_take p i hi
 have h4 := Pl.sm_take_le p (i + 1)
 have h5 : Pl.sm (p.take i) * Pl.mx q + (Pl.cf p i).natAbs * Pl.mx q ≤ Pl.sm p * Pl.mx q := by
  rw [← Nat.add_mul]; exact Nat.mul_le_mul_right _ (by omega)
 omega
theorem k'gq (c : Nat) (p q : List Int) (v1 v2 : Value) (e : Int) (w : World) (h1 : Rp w v1 p) (h2 : Rp w v2 q) (hc : Ck w c e) (hp0 : p ≠ []) (hq0 : q ≠ []) (hl1 : p.length ≤ 50) (hl2 : q.length ≤ 50)
 (ht1 : ∀ a ∈ p, a.natAbs < Top) (ht2 : ∀ a ∈ q, a.natAbs < Top) (hb : Pl.sm p * Pl.mx q < Top) :
 Calls Tryz.prog 81 #[.pointer (some ⟨c, 0, none⟩), v1, v2] w (RpPost (Pl.mul p q) w) := by
 obtain ⟨a1, b1, o1, c1, rfl, _, _, h14, h15⟩ := h1.open_
 obtain ⟨a2, b2, o2, c2, rfl, _, _, h24, h25⟩ := h2.open_
 obtain rfl := h14 hp0
 obtain rfl := h24 hq0
 have H15 := i' h15
 have H25 := i' h25
 have HC := i' hc
 have HM := i' (fun i j (hi : i < p.length) (hj : j < q.length) w hc => k'd1 c (Pl.cf p i) (Pl.cf q j) e w hc (by rw [Pl.cf_lt hi]; exact ht1 _ (List.getElem_mem hi)) (by rw [Pl.cf_lt hj]; exact ht2 _ (List.getElem_mem hj)) (Nat.lt_of_le_of_lt (k'gp p q i j hi).2.1 hb))
 have HA := i' (fun i j (hi : i < p.length) (hj : j < q.length) w hc => k'cz c (Pl.conv p q i (i + j)) (Pl.cf p i * Pl.cf q j) e w hc (Nat.lt_of_le_of_lt (k'gp p q i j hi).1 hb) (Nat.lt_of_le_of_lt (k'gp p q i j hi).2.1 hb) (Nat.lt_of_le_of_lt (k'gp p q i j hi).2.2 hb))
 have hpl := List.length_pos_iff.2 hp0
 have hql := List.length_pos_iff.2 hq0
 have HEnd := i' (k'go p q hp0 hq0)
 have hcl := hc.lt
 clear h1 h2 h14 h24 h15 h25 hc ht1 ht2 hb hp0 hq0
 obtain ⟨n1, hn1⟩ : ∃ n, n = p.length := ⟨_, rfl⟩
 obtain ⟨n2, hn2⟩ : ∃ n, n = q.length := ⟨_, rfl⟩
 obtain ⟨n, hn⟩ : ∃ n, n = p.length + q.length - 1 := ⟨_, rfl⟩
 rw [← hn] at HEnd
 rw [← hn1] at hl1 hpl ⊢
 rw [← hn2] at hl2 hql ⊢
 have hnn : n + 1 = n1 + n2 := by omega
 have hk : ∀ w, (Instr.makeSlice 23 (.int .i64 ((n1 : Int) + n2 - 1)) (.int .i64 ((n1 : Int) + n2 - 1))).run Tryz.prog w = .ok (.slice (some ⟨w.heap.size, 0, none⟩) n n) (w.alloc (.cells (wv (List.replicate n 0)).toArray 44)) := fun w => by
  rw [show ((n1 : Int) + n2 - 1) = (n : Int) by omega]
  exact k'cm n w (by omega)
 have HNN := i' hnn
 have HN1 := i' hn1
 have HN2 := i' hn2
 have z1 : ((n1 : Int) == 0) = false := by simp; omega
 have z2 : ((n2 : Int) == 0) = false := by simp; omega
 clear hn1 hn2 hn hnn
 go_enter Tryz.func81, Tryz.ntmps81
 go_wp2
 clear hk
 go_loopw [29] (fun iv wr => ∃ (wz : World) (i : Nat), wz = wr ∧ i ≤ n1 ∧ iv = .int .i64 (i : Int) ∧ Hid (Aw wz w.heap.size (inL p q n i 0)) ∧ Hid (Below w.heap.size w wz))
  (fun iv _ => n1 - (intOf iv).toNat)
 case atStart =>
  refine ⟨_, 0, rfl, Nat.zero_le _, rfl, ?_, (Below.refl _ _).alloc (Nat.le_refl _) _⟩
  rw [k'gl]
  exact Aw.made w _
 case round =>
  obtain ⟨wz, i, rfl, hi, rfl, haw, hbl⟩ := hrel
  by_cases hlt : i < n1
  ·have hip : i < p.length := by have h5 : n1 = p.length := HN1.out; omega
   have hc0 := (H15.out i hip).1
   have hc1 := (H15.out i hip).2
   rw [← Pl.cf_lt hip] at hc0 hc1
   have x0 := keep1 hbl.out hc0
   have x1 := keep1 hbl.out hc1
   have hb1 := World.block_lt_of_cell? w _ hc0
   simp only at hb1
   have hgl := haw.out.lt
   have u1 : ¬ b1 = wz.heap.size := by omega
   have u2 : ¬ wz.heap.size = b1 := by omega
   obtain ⟨w1, hw1⟩ : ∃ w1 : World, w1 = wz.alloc (.cells #[.bool (zb (Pl.cf p i)), .string (zs (Pl.cf p i))] 44) := ⟨_, rfl⟩
   have HA1 : Hid (Aw w1 w.heap.size (inL p q n i 0)) := by rw [hw1]; exact haw.out.alloc _
   have HB1 : Hid (Below w.heap.size w w1) := by rw [hw1]; exact hbl.out.alloc hbl.out.size _
   have HX1 : Hid (w1.cell? ⟨wz.heap.size, 0, none⟩ = some (.bool (zb (Pl.cf p i))) ∧ w1.cell? ⟨wz.heap.size, 1, none⟩ = some (.string (zs (Pl.cf p i)))) := by rw [hw1]; exact ⟨by simp [go_sem], by simp [go_sem]⟩
   have HS1 : Hid (w1.heap.size = wz.heap.size + 1) := by show _ = _; rw [hw1]; simp
   have HMi := i' (fun j hj => HM.out i j hip hj)
   have HAi := i' (fun j hj => HA.out i j hip hj)
   clear hc0 hc1 haw hbl
   generalize hxi : Pl.cf p i = xi at *
   have HXI := i' hxi
   clear hxi
   go_wp2
   rw [← hw1]
   clear hw1 x0 x1
   go_loopw [36] (fun jv wq => ∃ (wy : World) (j : Nat), wy = wq ∧ j ≤ n2 ∧ jv = .int .i64 (j : Int) ∧ Hid (Aw wy w.heap.size (inL p q n i j)) ∧ Hid (But w.heap.size w1 wy))
    (fun jv _ => n2 - (intOf jv).toNat)
   case atStart => exact ⟨w1, 0, rfl, Nat.zero_le _, rfl, HA1.out, But.refl _ _⟩
   case round =>
    obtain ⟨wy, j, rfl, hj, rfl, haw, hbut⟩ := hrel
    have hgl1 := HA1.out.lt
    by_cases hlt2 : j < n2
    ·have hjq : j < q.length := by have h5 : n2 = q.length := HN2.out; omega
     have hnn := HNN.out
     have hij : i + j < (inL p q n i j).length := by rw [k'gj]; omega
     have hx : (inL p q n i j)[i + j] = Pl.conv p q i (i + j) := by rw [k'gk, if_neg (by omega)]; omega
     have hbl2 := HB1.out.trans (hbut.out.lowB (Nat.le_refl _) hgl1)
     have hd0 := (H25.out j hjq).1
     have hd1 := (H25.out j hjq).2
     rw [← Pl.cf_lt hjq] at hd0 hd1
     have y0 := keep1 hbl2 hd0
     have y1 := keep1 hbl2 hd1
     have hb2 := World.block_lt_of_cell? wy _ y0
     simp only at hb2
     have u3 : ¬ b2 = wy.heap.size := by omega
     have u4 : ¬ wy.heap.size = b2 := by omega
     obtain ⟨l0, l1⟩ := haw.out.cell (i + j) hij
     rw [hx] at l0 l1
     have hne : wz.heap.size ≠ w.heap.size := by omega
     have t0 := hbut.out.cell HX1.out.1 hne
     have t1 := hbut.out.cell HX1.out.2 hne
     have hzy : wz.heap.size < wy.heap.size := by have h5 := hbut.out.size; have h6 : w1.heap.size = wz.heap.size + 1 := HS1.out; omega
     have hset : Hid ((inL p q n i j).set (i + j) (Pl.conv p q i (i + j) + Pl.cf p i * Pl.cf q j) = inL p q n i (j + 1)) := k'gm p q n i j (by rw [k'gj] at hij; exact hij)
     have HMk := i' (HMi.out j hjq)
     have HAk := i' (HAi.out j hjq)
     obtain ⟨wi, hwi⟩ : ∃ wi : World, wi = wy.alloc (.cells #[.bool (zb (Pl.cf q j)), .string (zs (Pl.cf q j))] 44) := ⟨_, rfl⟩
     have hAi : Hid (Aw wi w.heap.size (inL p q n i j)) := by rw [hwi]; exact haw.out.alloc _
     have hBi : Hid (But w.heap.size w1 wi) := by rw [hwi]; exact hbut.out.alloc _
     have hCi : Hid (Ck wi c e) := by
      rw [hwi]
      exact (HC.out.below hbl2).alloc _
     have a0 : wi.cell? ⟨wy.heap.size, 0, none⟩ = some (.bool (zb (Pl.cf q j))) := by rw [hwi]; simp [go_sem]
     have a1 : wi.cell? ⟨wy.heap.size, 1, none⟩ = some (.string (zs (Pl.cf q j))) := by rw [hwi]; simp [go_sem]
     have i0 : wi.cell? ⟨w.heap.size, (i + j) * 2, none⟩ = some (.bool (zb (Pl.conv p q i (i + j)))) := by rw [hwi]; exact k'd ((Below.refl _ _).alloc (Nat.le_refl _) _) l0
     have i1 : wi.cell? ⟨w.heap.size, (i + j) * 2 + 1, none⟩ = some (.string (zs (Pl.conv p q i (i + j)))) := by rw [hwi]; exact k'd ((Below.refl _ _).alloc (Nat.le_refl _) _) l1
     have j0 : wi.cell? ⟨wz.heap.size, 0, none⟩ = some (.bool (zb xi)) := by rw [hwi]; exact k'd ((Below.refl _ _).alloc (Nat.le_refl _) _) t0
     have j1 : wi.cell? ⟨wz.heap.size, 1, none⟩ = some (.string (zs xi)) := by rw [hwi]; exact k'd ((Below.refl _ _).alloc (Nat.le_refl _) _) t1
     have g0 := hAi.out.free ((i + j) * 2)
     have g1 := hAi.out.free ((i + j) * 2 + 1)
     have v0 : (0 : Int) ≤ (i : Int) + (j : Int) := by omega
     have v1 : (i : Int) + (j : Int) < (n : Int) := by rw [k'gj] at hij; omega
     have HL2 := i' hij
     have HII := i' (And.intro i0 (And.intro i1 (And.intro a0 (And.intro a1 (And.intro j0 (And.intro j1 (And.intro g0 g1)))))))
     rw [HXI.out] at hset
     clear hx hd0 hd1 hij l0 l1 t0 t1 i0 i1 a0 a1 j0 j1 g0 g1 haw hbut hbl2 hnn
     generalize Pl.conv p q i (i + j) + xi * Pl.cf q j = d at *
     generalize xi * Pl.cf q j = m at *
     generalize Pl.conv p q i (i + j) = x at *
     generalize Pl.cf q j = y at *
     unfold Z at HMk HAk
     generalize zb y = yb at *
     generalize zs y = ys at *
     generalize zb x = xb at *
     generalize zs x = xs at *
     generalize zb m = mb at *
     generalize zs m = ms at *
     generalize zb xi = tb at *
     generalize zs xi = ts at *
     go_upto_region 10 with (fail)
     rw [← hwi]
     clear hwi
     have k0 := HII.out.1
     have k1 := HII.out.2.1
     have k2 := HII.out.2.2.1
     have k3 := HII.out.2.2.2.1
     have k4 := HII.out.2.2.2.2.1
     have k5 := HII.out.2.2.2.2.2.1
     have k6 := HII.out.2.2.2.2.2.2.1
     have k7 := HII.out.2.2.2.2.2.2.2
     have vt : ((i : Int) + (j : Int)).toNat = i + j := by omega
     have vw : IntKind.i64.wrap ((i : Int) + (j : Int)) = (i : Int) + (j : Int) := IntWalk.i64_in _ (by omega)
     go_region_with
      (first
       | (go_at_call 89; (with_reducible refine (HMk.out _ (by exact hCi.out.drew)).mono ?_); rintro e w5 ⟨rfl, b5⟩; have c5 := chain ((Below.refl _ _).drew) b5; have p0 := keep1 c5 k0; have p1 := keep1 c5 k1; have p2 := keep1 c5 k2; have p3 := keep1 c5 k3; have p4 := keep1 c5 k4; have p5 := keep1 c5 k5; have p6 := keepf c5 k0 k6; have p7 := keepf c5 k1 k7; have G1 := i' c5; clear b5 c5)
       | (go_at_call 78; (with_reducible refine (HAk.out _ (by exact hCi.out.below G1.out)).mono ?_); rintro e w6 ⟨rfl, b6⟩; have c6 := chain G1.out b6; have p0 := keep1 c6 k0; have p1 := keep1 c6 k1; have p2 := keep1 c6 k2; have p3 := keep1 c6 k3; have p4 := keep1 c6 k4; have p5 := keep1 c6 k5; have p6 := keepf c6 k0 k6; have p7 := keepf c6 k1 k7; have G2 := i' c6; clear b6 c6))
     all_goals
      have HA5 := i' (hAi.out.below G2.out)
      have HA6 := HA5.out.set (i + j) HL2.out d
      rw [hset.out] at HA6
      have HA7 := i' HA6
      have HB7 := i' (((hBi.out.trans (But.of_below G2.out)).trans (But.setAt w.heap.size ((i + j) * 2) w6 (.bool (zb d)))).trans (But.setAt w.heap.size ((i + j) * 2 + 1) _ (.string (zs d))))
      clear HA6 HA5 HII vt vw
      go_wp2
      go_roundw
      case rel => exact ⟨_, j + 1, rfl, by omega, by go_num, HA7.out, HB7.out⟩
      case measure => simp [intOf]; omega
    ·obtain rfl : j = n2 := by omega
     have HA7 : Hid (Aw wy w.heap.size (inL p q n (i + 1) 0)) := by
      have h1 := haw.out
      rw [show j = q.length from HN2.out, k'gn] at h1
      exact h1
     have HB7 := i' (HB1.out.trans (hbut.out.lowB (Nat.le_refl _) hgl1))
     clear haw hbut
     go_wp2
     go_roundw
     case rel => exact ⟨_, i + 1, rfl, by omega, by go_num, HA7.out, HB7.out⟩
     case measure => simp [intOf]; omega
  ·obtain rfl : i = n1 := by omega
   have HRp : Hid (Rp wz (.slice (some ⟨w.heap.size, 0, none⟩) n n) (Pl.mul p q)) := by
    have h1 := haw.out
    rw [show i = p.length from HN1.out, HEnd.out] at h1
    have h2 : (Pl.mul p q).length = n := by rw [← HEnd.out, k'gj]
    exact Rp.of_whole h1 n n h2 (Nat.le_refl _) (by have h5 := HNN.out; unfold maxLen; omega)
   go_wp2
   go_ret
   exact ⟨_, rfl, HRp.out, hbl.out⟩
end Go.Proofs.YtepddegphdlbeaaGreat
