/- What the theorem leans on, part G14. -/
import Derived.Test.YtepddegphdlbeaaGreatG9
import Derived.Test.YtepddegphdlbeaaGreatG8
import Derived.Test.YtepddegphdlbeaaGreatG7
import Derived.Test.YtepddegphdlbeaaGreatG6
import Derived.Test.YtepddegphdlbeaaGreatG4
import Derived.Test.YtepddegphdlbeaaGreatG3
import Derived.Test.YtepddegphdlbeaaGreatG2
import Derived.Test.YtepddegphdlbeaaGreatG1
import Derived.Test.YtepddegphdlbeaaGreatG0
import Derived.Test.YtepddegphdlbeaaGreatProg
import Derived.WalkKit
import Derived.WalkSpells
import Derived.WalkLawsBesides
import Derived.Lib.Hide
import Derived.Deep.QuietTactic
import Derived.BigQuiet
import Derived.Shelf.Small.Bits
import Derived.Shelf.Small.Wraps
import Derived.Shelf.Strconv.Itoa0
import Derived.Shelf.Bits.Mul64
import Derived.Ground.Names2Prog
import Derived.Shelf.Slices.SearchI
import Derived.Shelf.Spec.BitsCarry
import Derived.Deep.LoopGhost
import Derived.Deep.RegionHeld3
import Derived.Deep.DeepCutAuto
import Derived.Test.YtepddegphdlbeaaGreatG5
import Derived.Laws.AppendOwnNone
import Derived.Below
import Derived.Maps.AppendAt
import Derived.Lib.SliceRun
import Derived.IntWalk
import Derived.Test.YtepddegphdlbeaaGreatG10
import Derived.Test.YtepddegphdlbeaaGreatG11
import Derived.RangeFuncNested
import Derived.RangeFuncBound
import Derived.RangeFuncCalls
import Derived.RangeFuncLeaves
import Derived.Shelf.Abstract
import Derived.Shelf.RegionOpen
import Derived.OwnWalkIn
import Derived.TacticsInMore
import Derived.LoopNIn
import Derived.LoopIn
import Derived.OrdersIn
import Derived.Deep.RegionHeld
set_option maxRecDepth 100000
set_option maxHeartbeats 16000000
set_option linter.all false
namespace Go.Proofs.YtepddegphdlbeaaGreat
open Go.RowKit
structure UInv (p q r t : List Int) (m : Nat) : Prop where
 div : Pl.dvs q (p.length - m) p = (Pl.dvs q (r.length - m) r).map (· ++ t)
 len : r.length - m + t.length = p.length - m
def USz (p q r : List Int) : Prop := (2 * Pl.mx q) ^ (r.length + 1 - q.length) * Pl.mx r ≤ (2 * Pl.mx q) ^ (p.length + 1 - q.length) * Pl.mx p
theorem k'jk (q r : List Int) (h1 : 1 ≤ Pl.mx q) : Pl.mx (Pl.step 1 (Pl.lead r / Pl.lead q) q r) ≤ 2 * Pl.mx q * Pl.mx r := by
 refine Nat.le_trans (Pl.mx_step _ _ _ _) ?_
 have h2 : (Pl.lead r / Pl.lead q).natAbs * Pl.mx q ≤ Pl.mx r * Pl.mx q := Nat.mul_le_mul_right _ (Nat.le_trans (Int.natAbs_ediv_le_natAbs _ _) (Pl.mx_cf r _))
 have h3 : Pl.mx r ≤ Pl.mx q * Pl.mx r := Nat.le_mul_of_pos_left _ h1
 rw [Nat.mul_comm (Pl.mx r)] at h2
 rw [Nat.mul_assoc]
 have : (1 : Int).natAbs * Pl.mx r = Pl.mx r := by simp
 omega
theorem USz.step {p q r : List Int} (h : USz p q r) (h1 : 1 ≤ Pl.mx q) (hq : 0 < q.length) (hl : q.length ≤ r.length) : USz p q (Pl.step 1 (Pl.lead r / Pl.lead q) q r) := by
 have e : r.length + 1 - q.length = (r.length - 1 + 1 - q.length) + 1 := by omega
 refine Nat.le_trans ?_ h
 rw [e, Nat.pow_succ, Nat.mul_assoc, Pl.step_length]
 exact Nat.mul_le_mul_left _ (k'jk q r h1)
theorem USz.top {p q r : List Int} (h : USz p q r) (hq : 1 ≤ Pl.mx q) (hl : q.length ≤ r.length) (hB : (2 * Pl.mx q) ^ (p.length + 1 - q.length) * Pl.mx p < Top) : 2 * Pl.mx q * Pl.mx r < Top := by
 refine Nat.lt_of_le_of_lt ?_ (Nat.lt_of_le_of_lt h hB)
 apply Nat.mul_le_mul_right
 have e : r.length + 1 - q.length = (r.length - q.length) + 1 := by omega
 rw [e, Nat.pow_succ]
 have := Nat.pow_pos (n := r.length - q.length) (show 0 < 2 * Pl.mx q by omega)
 exact Nat.le_mul_of_pos_left _ this
theorem k'jl (r q : List Int) (last : Nat) (t : Int) (hq : q.length = last + 1) (hr : q.length ≤ r.length) :
 upd (r.take (r.length - 1)) (r.length - 1 - last) (q.take last) t last = Pl.step 1 t q r := by
 apply List.ext_getElem (by rw [k'ei, Pl.step_length]; simp)
 intro k h1 h2
 have hk : k < r.length - 1 := by rw [k'ei] at h1; simp at h1; omega
 have e0 : Pl.cf (r.take (r.length - 1)) k = Pl.cf r k := by rw [Pl.cf_lt (by simp; omega), List.getElem_take, ← Pl.cf_lt (by omega)]
 rw [k'ej, e0, ← Pl.cf_lt h2, Pl.cf_step, if_pos hk]
 have e : r.length - q.length = r.length - 1 - last := by omega
 rw [e]
 by_cases g : r.length - 1 - last ≤ k
 ·rw [if_pos ⟨g, by omega⟩, if_pos g]
  have e2 : Pl.cf (q.take last) (k - (r.length - 1 - last)) = Pl.cf q (k - (r.length - 1 - last)) := by
   rw [Pl.cf_lt (by simp; omega), Pl.cf_lt (by omega)]; simp
  rw [e2, Int.one_mul, Int.mul_comm t]
 ·rw [if_neg (by omega), if_neg g, Int.one_mul]; omega
theorem UInv.step {p q r t : List Int} {m : Nat} (h : UInv p q r t m) (hq : q.length = m + 1) (hl : q.length ≤ r.length) (hd : Pl.lead r % Pl.lead q = 0) : UInv p q (Pl.step 1 (Pl.lead r / Pl.lead q) q r) ((Pl.lead r / Pl.lead q) :: t) m := by
 have e : r.length - m = (r.length - 1 - m) + 1 := by omega
 refine ⟨?_, by have := h.len; rw [Pl.step_length]; simp; omega⟩
 rw [h.div, e, Pl.dvs, if_pos hd, Pl.step_length]
 cases Pl.dvs q (r.length - 1 - m) (Pl.step 1 (Pl.lead r / Pl.lead q) q r) <;> simp
theorem UInv.none {p q r t : List Int} {m : Nat} (h : UInv p q r t m) (hl : m < r.length) (hd : ¬ Pl.lead r % Pl.lead q = 0) : Pl.dvs q (p.length - m) p = none := by
 rw [h.div, show r.length - m = (r.length - 1 - m) + 1 by omega, Pl.dvs, if_neg hd]; rfl
theorem UInv.last {p q r t : List Int} {m : Nat} (h : UInv p q r t m) (hl : r.length = m) : Pl.dvs q (p.length - m) p = if Pl.trim r = [] then some t else Option.none := by
 rw [h.div, hl, Nat.sub_self, Pl.dvs]
 split <;> simp
theorem k'jm (n : Nat) (t : List Int) (z : Int) : (List.replicate (n + 1) 0 ++ t).set n z = List.replicate n 0 ++ (z :: t) := by
 have e : List.replicate (n + 1) (0 : Int) = List.replicate n 0 ++ [0] := by rw [List.replicate_succ']
 rw [e, List.append_assoc, List.set_append_right _ _ (by simp)]
 simp
theorem But.trans2 {c : Nat} {u v w : World} (h : But c u v) (k : Below u.heap.size v w) : But c u w :=
 ⟨k.os.trans h.os, k.tape.trans h.tape, k.output.trans h.output, Nat.le_trans h.size k.size, fun i hi hn => (k.block i hi).trans (h.block i hi hn)⟩
def QuoPost (res : Option (List Int)) (c : Nat) (w : World) (en : Ending) (w' : World) : Prop :=
 ∃ (a : Option Addr) (n cap : Nat), en = .returned (.slice a n cap) ∧ But c w w' ∧ ((∃ t, res = some t ∧ Ck w' c 0 ∧ Rp w' (.slice a n cap) t) ∨ (res = none ∧ Ck w' c 10))
theorem k'jn (c : Nat) (p q : List Int) (v1 v2 : Value) (w : World) (h1 : Rp w v1 p) (h2 : Rp w v2 q) (hc : Ck w c 0) (hl1 : p.length ≤ 50) (hl2 : q.length ≤ 50)
 (hq0 : q ≠ []) (hqn : Pl.Nrm q) (hq1 : 1 ≤ Pl.mx q) (hlt : q.length ≤ p.length) (ht2 : ∀ a ∈ q, a.natAbs < Top) (hB : (2 * Pl.mx q) ^ (p.length + 1 - q.length) * Pl.mx p < Top) :
 Calls Tryz.prog 111 #[.pointer (some ⟨c, 0, none⟩), v1, v2] w (QuoPost (Pl.dvs q (p.length + 1 - q.length) p) c w) := by
 have HCl := i' (k'eh p v1 w h1 (by omega))
 have HDg := i' (fun w' (hb : Below w.heap.size w w') => k'da (zl q) v2 w' (h2.below hb))
 have hql := List.length_pos_iff.2 hq0
 obtain ⟨a1, b1, o1, c1, rfl, _⟩ := h1.open_
 obtain ⟨a2, b2, o2, c2, rfl, h22, h23, h24, h25⟩ := h2.open_
 obtain rfl := h24 hq0
 have H25 := i' h25
 have HC := i' hc
 have hcl := hc.lt
 have HT2 := i' ht2
 have HQ1 := i' hq1
 have HB := i' hB
 have HLq := i' (Pl.lead_ne hqn hq0)
 have hp0 : p ≠ [] := by intro e0; rw [e0] at hlt; simp at hlt; exact hq0 hlt
 have HP0 := i' hp0
 rw [k'cc] at HDg
 obtain ⟨n1, hn1⟩ : ∃ n, n = p.length := ⟨_, rfl⟩
 obtain ⟨m, hm⟩ : ∃ m, q.length = m + 1 := ⟨q.length - 1, by omega⟩
 have hmc : m ≤ c2 := by omega
 rw [show p.length + 1 - q.length = p.length - m by omega]
 obtain ⟨n2, hn2⟩ : ∃ n, n = q.length := ⟨_, rfl⟩
 have hmn : m < n2 := by omega
 have hmn2 : (n2 : Int) - 1 = (m : Int) := by omega
 have HMN := i' hmn2
 generalize hres : Pl.dvs q (p.length - m) p = res
 have HRes := i' hres
 rw [← hn1] at hl1 hlt HCl ⊢
 rw [← hn2] at hl2 hlt HDg ⊢
 have HN1 := i' hn1
 have HM := i' hm
 have hmk0 : m < n1 := by omega
 obtain ⟨no, hno⟩ : ∃ no, n1 = m + no := ⟨n1 - m, by omega⟩
 have hno1 : 0 < no := by omega
 have hno2 : no ≤ 50 := by omega
 have hsub : (n1 : Int) - (m : Int) = (no : Int) := by omega
 have hmax : max ((n1 : Int) - (m : Int)) 0 = (no : Int) := by omega
 have hmax2 : max (no : Int) 0 = (no : Int) := by omega
 have HMx := i' (And.intro hsub (And.intro hmax hmax2))
 have HNo := i' hno
 have HK := i' (fun w => k'cm no w (by omega))
 clear h1 h2 h22 h23 h24 h25 hc ht2 hq1 hB hn1 hn2 hm hp0 hq0 hql hmn2 hqn hres hno hsub hmax hmax2
 go_enter Tryz.func111, Tryz.ntmps111
 go_wp2_with fail
 refine HCl.out.mono ?_
 rintro en w1 ⟨a3, n3, c3, rfl, hr1, ho1, hb1⟩
 obtain rfl : n3 = n1 := by
  obtain ⟨_, _, _, _, e1, _⟩ := hr1.open_
  injection e1 with _ e2 _
  exact e2.trans HN1.out.symm
 obtain ⟨g, rfl, hg, haw⟩ := ho1 HP0.out
 have hcap : n3 ≤ c3 ∧ c3 ≤ maxLen := by
  obtain ⟨_, _, _, _, e1, e2, e3, _⟩ := hr1.open_
  injection e1 with _ e4 e5
  subst e4 e5
  exact ⟨e2, e3⟩
 obtain ⟨hc1, hc2⟩ := hcap
 unfold maxLen at hc2
 have HB1 := i' hb1
 have HA1 := i' haw
 clear hr1 ho1 hb1 haw
 go_wp2_with fail
 refine (HDg.out _ HB1.out).mono ?_
 rintro en w2 ⟨rfl, hb2⟩
 have HA2 := i' (HA1.out.below hb2)
 have HB2 := i' (chain HB1.out hb2)
 have hgw2 := HA2.out.lt
 clear hb2
 rw [HMN.out]
 have hk := HK.out
 have hs1 := HMx.out.1
 have hs2 := HMx.out.2.2
 go_wp2
 clear hk hs1 hs2
 obtain ⟨g2, hg2⟩ : ∃ g2, g2 = w2.heap.size := ⟨_, rfl⟩
 obtain ⟨w4, hw4⟩ : ∃ w4 : World, w4 = w2.alloc (.cells (wv (List.replicate no 0)).toArray 44) := ⟨_, rfl⟩
 have HA4 : Hid (Aw w4 g p) := by rw [hw4]; exact HA2.out.alloc _
 have HO4 : Hid (Aw w4 g2 (List.replicate no 0)) := by rw [hw4, hg2]; exact Aw.made w2 _
 have HB4 : Hid (Below w.heap.size w w4) := by rw [hw4]; exact HB2.out.alloc HB2.out.size _
 rw [← hw4, ← hg2]
 have hgg : g < g2 := by omega
 have hg2s : w.heap.size ≤ g2 := by omega
 clear hw4 hg2 HA1 HA2 HB1 HB2 hgw2 HCl HDg
 go_loopw [7] (fun rv wr => ∃ (wz : World) (k : Nat) (r t o : List Int) (en : Int), wz = wr ∧ k ≤ n3 ∧ m ≤ k ∧ rv = .slice (some ⟨g, 0, none⟩) k c3 ∧ Hid (r.length = k) ∧ Hid (o.length = no) ∧ Hid (USz p q r) ∧ Hid (Aw wz g r) ∧ Hid (Aw wz g2 o) ∧ Hid (But c w wz) ∧ Hid (Ck wz c en) ∧
  ((Hid (en = 0) ∧ Hid (UInv p q r t m) ∧ Hid (o = List.replicate (k - m) 0 ++ t)) ∨ (Hid (en = 10) ∧ Hid (res = none))))
  (fun rv _ => lenOf rv)
 case atStart =>
  refine ⟨w4, n3, p, [], List.replicate no 0, 0, rfl, Nat.le_refl _, by omega, rfl, HN1.out.symm, List.length_replicate, Nat.le_refl _, HA4.out, HO4.out, But.of_below HB4.out, HC.out.below HB4.out, Or.inl ⟨rfl, ⟨?_, by simp⟩, ?_⟩⟩
  ·cases Pl.dvs q (p.length - m) p <;> simp
  ·have h5 : n3 = m + no := HNo.out
   show _ = _
   rw [show n3 - m = no by omega, List.append_nil]
 case round =>
  clear HA4 HO4 HB4
  obtain ⟨wz, k, r, t, o, en, rfl, hk, hmk, rfl, hrl, hol, husz, haw, hao, hbut, hck, hst⟩ := hrel
  by_cases hgo : m < k ∧ en = 0
  ·obtain ⟨hlt2, rfl⟩ := hgo
   obtain ⟨j, hjk⟩ : ∃ j, k = j + 1 := ⟨k - 1, by omega⟩
   have hst2 : Hid (UInv p q r t m) ∧ Hid (o = List.replicate (k - m) 0 ++ t) := by
    rcases hst with ⟨_, h5, h6⟩ | ⟨h5, _⟩
    ·exact ⟨h5, h6⟩
    ·exact absurd h5.out (by decide)
   obtain ⟨hinv, ho⟩ := hst2
   have hjr : j < r.length := by have h5 : r.length = k := hrl.out; omega
   have hmq : m < q.length := by have h5 : q.length = m + 1 := HM.out; omega
   have hqr : q.length ≤ r.length := by have h5 : q.length = m + 1 := HM.out; have h6 : r.length = k := hrl.out; omega
   have HTop := i' (husz.out.top HQ1.out hqr HB.out)
   have hlead : Hid (Pl.cf r j = Pl.lead r) := by show _ = _; unfold Pl.lead; rw [hrl.out, hjk]; rfl
   have hleadq : Hid (Pl.cf q m = Pl.lead q) := by show _ = _; unfold Pl.lead; rw [HM.out]; rfl
   have htr : (Pl.lead r).natAbs < Top := by rw [← hlead.out]; exact (k'eu (q := q) HQ1.out HTop.out j 0).1
   have htq : (Pl.lead q).natAbs < Top := by rw [← hleadq.out, Pl.cf_lt hmq]; exact HT2.out _ (List.getElem_mem hmq)
   obtain ⟨t0, t1⟩ := haw.out.cell j hjr
   rw [← Pl.cf_lt hjr, hlead.out] at t0 t1
   have hq0c := (H25.out m hmq).1
   have hq1c := (H25.out m hmq).2
   rw [← Pl.cf_lt hmq, hleadq.out] at hq0c hq1c
   have hnc := HC.out.ne hq0c
   have q0 := hbut.out.cell hq0c hnc
   have q1 := hbut.out.cell hq1c hnc
   have hgl := haw.out.lt
   have hg2l := hao.out.lt
   have hb2 := World.block_lt_of_cell? w _ hq0c
   simp only at hb2
   have c0 := hck.out.cell
   have u1 := World.new_ne wz _ t0
   have u2 := World.new_ne wz _ t1
   have u3 := World.new_ne wz _ q0
   have u4 := World.new_ne wz _ q1
   have x0 : (0 : Int) ≤ (j : Int) := by omega
   have x1 : (j : Int) < (k : Int) := by omega
   have vj : (k : Int) - 1 = (j : Int) := by omega
   have vw : IntKind.i64.wrap (j : Int) = (j : Int) := IntWalk.i64_in _ (by omega)
   have HJK := i' hjk
   have VV := i' (And.intro vj vw)
   have hjk2 : j < k := by omega
   have x2 : (0 : Int) ≤ (m : Int) := by omega
   have x3 : (m : Int) < (n2 : Int) := by omega
   have hd0 : decide ((m : Int) < (k : Int)) = true := by rw [decide_eq_true_eq]; omega
   obtain ⟨e2, he2, hD⟩ : ∃ e2 : Int, Hid ((e2 = 0 ∧ Pl.lead r % Pl.lead q = 0) ∨ (e2 = 10 ∧ ¬ Pl.lead r % Pl.lead q = 0)) ∧ Hid (∀ w, Ck w c 0 → Calls Tryz.prog 129 #[.pointer (some ⟨c, 0, none⟩), Z (Pl.lead r), Z (Pl.lead q)] w (KPost (Z (Pl.lead r / Pl.lead q)) c e2 w)) := by
    by_cases hd : Pl.lead r % Pl.lead q = 0
    ·exact ⟨0, Or.inl ⟨rfl, hd⟩, fun w hc => k'fh c (Pl.lead r) (Pl.lead q) 0 w hc htr htq HLq.out hd⟩
    ·exact ⟨10, Or.inr ⟨rfl, hd⟩, fun w hc => k'fi c (Pl.lead r) (Pl.lead q) 0 10 w rfl hc htr htq HLq.out hd⟩
   have HRL := i' hjr
   have HQL := i' hmq
   have HQR := i' hqr
   have hgc : g ≠ c := by omega
   have hg2c : g2 ≠ c := by omega
   have hzc : wz.heap.size ≠ c := by have := hck.out.lt; omega
   have HA0 := i' haw.out
   have HO0 := i' hao.out
   have HBz := i' hbut.out
   clear htr htq hq0c hq1c hjr hmq hqr haw hao hbut hst hjk vj vw
   unfold Z at hD
   have vj := VV.out.1
   have vw := VV.out.2
   go_upto_region 4 with (fail)
   go_region_held3 (fun W' => W'.cell? ⟨g, j * 2, none⟩ = some (.bool (zb (Pl.lead r))) ∧ W'.cell? ⟨g, j * 2 + 1, none⟩ = some (.string (zs (Pl.lead r))) ∧ W'.cell? ⟨b2, o2 + m * 2, none⟩ = some (.bool (zb (Pl.lead q))) ∧ W'.cell? ⟨b2, o2 + m * 2 + 1, none⟩ = some (.string (zs (Pl.lead q)))) (go_keep)
    (first
     | (go_at_call 129; (with_reducible refine (hD.out _ (by exact hck.out.drew)).mono ?_); rintro e w5 ⟨rfl, b5, d5⟩; have c5 := ((But.refl c wz).drew).trans b5; have p0 := c5.cell t0 hgc; have p1 := c5.cell t1 hgc; have p2 := c5.cell q0 hnc; have p3 := c5.cell q1 hnc; have tag1 := i' (And.intro c5 d5); clear b5 c5 d5)
     | (go_at_call 129; (with_reducible refine (hD.out _ (by exact (hck.out.alloc _).drew)).mono ?_); rintro e w5 ⟨rfl, b5, d5⟩; have c5 := (((But.refl c wz).alloc _).drew).trans b5; have p0 := c5.cell t0 hgc; have p1 := c5.cell t1 hgc; have p2 := c5.cell q0 hnc; have p3 := c5.cell q1 hnc; have z0 := b5.cell (a := ⟨wz.heap.size, 0, none⟩) (v := .bool false) (by simp [go_sem]) hzc; have z1 := b5.cell (a := ⟨wz.heap.size, 1, none⟩) (v := .string ⟨#[]⟩) (by simp [go_sem]) hzc; have z2 := b5.frozen (a := ⟨wz.heap.size, 0, none⟩) (v := .bool false) (by simp [go_sem]) (by simp [go_sem]) hzc; have z3 := b5.frozen (a := ⟨wz.heap.size, 1, none⟩) (v := .string ⟨#[]⟩) (by simp [go_sem]) (by simp [go_sem]) hzc; have tag2 := i' (And.intro c5 d5); clear b5 c5 d5))
   all_goals
    clear vj vw
    obtain ⟨tv, htv⟩ : ∃ tv, tv = Pl.lead r / Pl.lead q := ⟨_, rfl⟩
    rw [← htv]
    have HTV := i' htv
    first
     | (obtain ⟨c5, d5⟩ := tag1.out
        obtain ⟨wF, hwF⟩ : ∃ wF : World, wF = w5.alloc (.cells #[.bool (zb tv), .string (zs tv)] 44) := ⟨_, rfl⟩
        obtain ⟨B10, hB10⟩ : ∃ B, B = w5.heap.size := ⟨_, rfl⟩
        have F1 : Hid (But c wz wF) := by rw [hwF]; exact c5.alloc _
        have F2 : Hid (wF.cell? ⟨B10, 0, none⟩ = some (.bool (zb tv)) ∧ wF.cell? ⟨B10, 1, none⟩ = some (.string (zs tv))) := by rw [hwF, hB10]; exact ⟨by simp [go_sem], by simp [go_sem]⟩
        have F3 : Hid (wz.heap.size ≤ B10) := by rw [hB10]; exact c5.size
        have F4 : Hid (Ck wF c e2) := by rw [hwF]; exact d5.alloc _
        clear tag1)
     | (obtain ⟨c5, d5⟩ := tag2.out
        obtain ⟨wF, hwF⟩ : ∃ wF : World, wF = (w5.setCell ⟨wz.heap.size, 0, none⟩ (.bool (zb tv))).setCell ⟨wz.heap.size, 1, none⟩ (.string (zs tv)) := ⟨_, rfl⟩
        obtain ⟨B10, hB10⟩ : ∃ B, B = wz.heap.size := ⟨_, rfl⟩
        have F1 : Hid (But c wz wF) := by rw [hwF]; exact (c5.new (p := ⟨wz.heap.size, 0, none⟩) (Nat.le_refl _) _).new (p := ⟨wz.heap.size, 1, none⟩) (Nat.le_refl _) _
        have F2 : Hid (wF.cell? ⟨B10, 0, none⟩ = some (.bool (zb tv)) ∧ wF.cell? ⟨B10, 1, none⟩ = some (.string (zs tv))) := by rw [hwF, hB10]; exact ⟨by simp [go_sem, z0, z1], by simp [go_sem, z0, z1]⟩
        have F3 : Hid (wz.heap.size ≤ B10) := by rw [hB10]; exact Nat.le_refl _
        have F4 : Hid (Ck wF c e2) := by rw [hwF]; exact (d5.other ⟨wz.heap.size, 0, none⟩ _ (Ne.symm hzc)).other ⟨wz.heap.size, 1, none⟩ _ (Ne.symm hzc)
        clear tag2 z0 z1 z2 z3)
    rw [← hwF, ← hB10]
    clear hwF hB10 htv c5 d5 p0 p1 p2 p3
    obtain ⟨s, hs⟩ : ∃ s, s = j - m := ⟨_, rfl⟩
    have hjm : m ≤ j := by have h5 := HJK.out; omega
    have HAF : Hid (Aw wF g (r.take j)) := (F1.out.aw HA0.out hgc).take j
    have HOF : Hid (Aw wF g2 o) := F1.out.aw HO0.out hg2c
    have HBF : Hid (But c w wF) := HBz.out.trans F1.out
    have hBg : B10 ≠ g := by have h5 := F3.out; have h6 := HA0.out.lt; omega
    have hgF := HAF.out.lt
    have hqr := HQR.out
    have hmq2 : q.length = m + 1 := HM.out
    have hrl2 : r.length = j + 1 := hrl.out.trans HJK.out
    have hsno : s < no := by have h5 : n3 = m + no := HNo.out; omega
    have htvm : tv.natAbs ≤ Pl.mx r := by rw [HTV.out]; exact Nat.le_trans (Int.natAbs_ediv_le_natAbs _ _) (Pl.mx_cf r _)
    have hmxs : ∀ k, (Pl.cf (r.take j) k).natAbs ≤ Pl.mx r := by
     intro k
     by_cases hk2 : k < j
     ·rw [Pl.cf_lt (by simp; omega), List.getElem_take, ← Pl.cf_lt (by omega)]
      exact Pl.mx_cf r k
     ·rw [Pl.cf_ge (by simp; omega)]; simp
    have hmxm : ∀ k, (Pl.cf (q.take m) k * tv).natAbs ≤ Pl.mx q * Pl.mx r := by
     intro k
     rw [Int.natAbs_mul]
     refine Nat.mul_le_mul ?_ htvm
     by_cases hk2 : k < m
     ·rw [Pl.cf_lt (by simp; omega), List.getElem_take, ← Pl.cf_lt (by omega)]
      exact Pl.mx_cf q k
     ·rw [Pl.cf_ge (by simp; omega)]; simp
    have htop := HTop.out
    rw [Nat.mul_assoc] at htop
    have hone : Pl.mx r ≤ Pl.mx q * Pl.mx r := Nat.le_mul_of_pos_left _ HQ1.out
    have HSub := i' (fun wv hcv hgv (hp : ∀ k (hk : k < (q.take m).length), wv.cell? ⟨b2, o2 + k * 2, none⟩ = some (.bool (zb (q.take m)[k])) ∧ wv.cell? ⟨b2, o2 + k * 2 + 1, none⟩ = some (.string (zs (q.take m)[k]))) =>
     k'em c g s m (c3 - s) c2 b2 o2 (some ⟨g, s * 2, none⟩) (some ⟨b2, o2, none⟩) (r.take j) (q.take m) tv e2 wv hcv hgv (by simp; omega) (by omega) (by simp; omega) (by omega) (fun _ => rfl) (fun _ => rfl) (by omega)
     hp (by omega) (by omega) (fun k _ => Nat.lt_of_le_of_lt (hmxs _) (by omega)) (fun k hk2 => by rw [Pl.cf_lt (by simp; omega), List.getElem_take]; exact HT2.out _ (List.getElem_mem _)) (fun k _ => Nat.lt_of_le_of_lt (hmxm _) (by omega)) (fun k _ => by have h5 := hmxs (s + k); have h6 := hmxm k; omega))
    have hups := k'jl r q m tv HM.out hqr
    rw [hrl2, Nat.add_sub_cancel, ← hs] at hups
    rw [hups] at HSub
    have HQy : Hid (∀ k (hk : k < (q.take m).length), wF.cell? ⟨b2, o2 + k * 2, none⟩ = some (.bool (zb (q.take m)[k])) ∧ wF.cell? ⟨b2, o2 + k * 2 + 1, none⟩ = some (.string (zs (q.take m)[k]))) := by
     intro k hk2
     have hk3 : k < q.length := by simp at hk2; omega
     have h5 := H25.out k hk3
     rw [List.getElem_take]
     exact ⟨HBF.out.cell h5.1 hnc, HBF.out.cell h5.2 hnc⟩
    have HLs : Hid ((Pl.step 1 tv q r).length = j) := by show _ = _; rw [Pl.step_length, hrl2]; omega
    have HUS : Hid (USz p q (Pl.step 1 tv q r)) := by rw [HTV.out]; exact husz.out.step HQ1.out (by omega) hqr
    have HFin : Hid ((Hid (e2 = 0) ∧ Hid (UInv p q (Pl.step 1 tv q r) (tv :: t) m) ∧ Hid (o.set s tv = List.replicate (j - m) 0 ++ (tv :: t))) ∨ (Hid (e2 = 10) ∧ Hid (res = none))) := by
     rcases he2.out with ⟨h5, h6⟩ | ⟨h5, h6⟩
     ·refine Or.inl ⟨h5, ?_, ?_⟩
      ·rw [HTV.out]; exact hinv.out.step HM.out hqr h6
      ·show _ = _
       have h7 : k - m = s + 1 := by have h8 : k = j + 1 := HJK.out; omega
       rw [ho.out, h7, ← hs]
       have h9 := k'jm s t tv
       exact h9
     ·refine Or.inr ⟨h5, ?_⟩
      show _ = _
      rw [← HRes.out]
      exact hinv.out.none (by omega) h6
    have k0 := F2.out.1
    have k1 := F2.out.2
    have HOL := i' (show s < o.length by rw [hol.out]; exact hsno)
    have v0 : (0 : Int) ≤ (s : Int) := by omega
    have v1 : (s : Int) ≤ (j : Int) := by omega
    have v2 : (j : Int) ≤ (c3 : Int) := by omega
    have v3 : (m : Int) ≤ (c2 : Int) := by omega
    have v4 : ¬ c3 = s := by omega
    have v6 : (s : Int) < (no : Int) := by omega
    have vm : j - s = m := by omega
    have vq : (j : Int) - (m : Int) = (s : Int) := by omega
    have vw1 : IntKind.i64.wrap (s : Int) = (s : Int) := IntWalk.i64_in _ (by omega)
    have VV2 := i' (And.intro vm (And.intro vq vw1))
    clear hups htop hmxs hmxm hrl2 hmq2 hqr hs vm vq vw1 htvm hone
    have vj := VV.out.1
    go_upto_region 6 with (fail)
    have vm := VV2.out.1
    have vq := VV2.out.2.1
    have vw1 := VV2.out.2.2
    go_region_held3 (fun W' => W'.cell? ⟨B10, 0, none⟩ = some (.bool (zb tv)) ∧ W'.cell? ⟨B10, 1, none⟩ = some (.string (zs tv))) (go_keep)
     (first
      | (go_at_call 137; (with_reducible refine (HSub.out _ (by exact F4.out.drew) (by exact HAF.out.drew) (by intro k hk; rw [k'ew, k'ew]; exact HQy.out k hk)).mono ?_); rintro e w7 ⟨⟨v5, rfl⟩, b5, a5⟩; have p0 := b5.cell k0 hBg; have p1 := b5.cell k1 hBg; have G1 := i' (And.intro b5 a5); clear b5 a5))
    all_goals
     have hb7 : But g wF w7 := ⟨G1.out.1.os, G1.out.1.tape, G1.out.1.output, G1.out.1.size, G1.out.1.block⟩
     have HO7 := i' (hb7.aw HOF.out (by omega))
     have HC7 := i' (hb7.ck F4.out (by omega))
     have HA7 := i' G1.out.2
     have HB7 := i' (hb7.lowC hg hgF)
     obtain ⟨o0, o1⟩ := HO7.out.cell s HOL.out
     have f0 := HO7.out.free (s * 2)
     have f1 := HO7.out.free (s * 2 + 1)
     have HO8 := i' (HO7.out.set s HOL.out tv)
     have HA8 := i' ((HA7.out.other ⟨g2, s * 2, none⟩ (.bool (zb tv)) (by simp only; omega)).other ⟨g2, s * 2 + 1, none⟩ (.string (zs tv)) (by simp only; omega))
     have HC8 := i' ((HC7.out.other ⟨g2, s * 2, none⟩ (.bool (zb tv)) (by simp only; omega)).other ⟨g2, s * 2 + 1, none⟩ (.string (zs tv)) (by simp only; omega))
     have HB8 : Hid (But c w ((w7.setCell ⟨g2, s * 2, none⟩ (.bool (zb tv))).setCell ⟨g2, s * 2 + 1, none⟩ (.string (zs tv)))) :=
      ((HBF.out.trans2 HB7.out).new (p := ⟨g2, s * 2, none⟩) hg2s _).new (p := ⟨g2, s * 2 + 1, none⟩) hg2s _
     have HOs : Hid ((o.set s tv).length = no) := by show _ = _; rw [List.length_set]; exact hol.out
     clear vm vw1 hb7
     go_wp2
     go_roundw
     case rel => exact ⟨_, j, _, tv :: t, _, e2, rfl, by omega, hjm, rfl, HLs.out, HOs.out, HUS.out, HA8.out, HO8.out, HB8.out, HC8.out, HFin.out⟩
     case measure => simp [lenOf]; omega
  ·have hmr : Pl.mx r < Top := by
    refine Nat.lt_of_le_of_lt ?_ (Nat.lt_of_le_of_lt husz.out HB.out)
    exact Nat.le_mul_of_pos_left _ (Nat.pow_pos (by have h5 := HQ1.out; omega))
   have HTr := i' (k'dx (.slice (some ⟨g, 0, none⟩) k c3) r wz (Rp.of_whole haw.out k c3 hrl.out (by omega) (by unfold maxLen; omega)) (fun a ha => Nat.lt_of_le_of_lt (Pl.mx_mem ha) hmr))
   have HQ : Hid (∀ e3 : Int, (if Pl.trim r = [] then e3 = en else e3 = if en = 0 then 10 else en) → ((∃ t', res = some t' ∧ e3 = 0 ∧ o = t') ∨ (res = none ∧ e3 = 10))) := by
    intro e3 he3
    rcases hst with ⟨h5, h6, h7⟩ | ⟨h5, h6⟩
    ·have h0 : en = 0 := h5
     subst h0
     have hkm : k = m := by
      rcases Nat.lt_or_ge m k with g1 | g1
      ·exact absurd ⟨g1, rfl⟩ hgo
      ·omega
     have h8 := h6.out.last (hrl.out.trans hkm)
     rw [HRes.out] at h8
     by_cases ht : Pl.trim r = []
     ·rw [if_pos ht] at h8 he3
      refine Or.inl ⟨t, h8, he3, ?_⟩
      rw [h7.out, hkm, Nat.sub_self]; rfl
     ·rw [if_neg ht] at h8 he3
      exact Or.inr ⟨h8, he3⟩
    ·have h0 : en = 10 := h5
     subst h0
     refine Or.inr ⟨h6, ?_⟩
     split at he3 <;> simpa using he3
   have HEn : Hid (m < k → (en == 0) = false) := fun h5 => by
    simp only [beq_eq_false_iff_ne]
    intro h6
    exact hgo ⟨h5, h6⟩
   have HOP : Hid (∀ w', Aw w' g2 o → Rp w' (.slice (some ⟨g2, 0, none⟩) no no) o) := fun w' h5 => Rp.of_whole h5 no no hol.out (Nat.le_refl _) (by unfold maxLen; omega)
   have hg2c : g2 ≠ c := by omega
   have c0 := hck.out.cell
   have HKz := i' (fun w' (h5 : Ck w' c en) => k'cp c false ⟨#[]⟩ 10 en w' h5)
   clear hgo hst hmr
   rcases Nat.lt_or_ge m k with hlt3 | hge3
   ·have hd0 : decide ((m : Int) < (k : Int)) = true := by rw [decide_eq_true_eq]; omega
    have hd1 := HEn.out hlt3
    go_wp2_with fail
    refine HTr.out.mono ?_
    rintro en2 w3 ⟨v3, rfl, hr3, hb3⟩
    obtain ⟨a4, b4, o4, c4, rfl, h42, h43, h44⟩ := hr3.open_
    have HB3 := i' (hbut.out.trans (But.of_below hb3))
    have HC3 := i' (hck.out.below hb3)
    have HO3 := i' (hao.out.below hb3)
    have hl4 : (Pl.trim r).length ≤ k := by have h5 := Pl.trim_length r; rw [hrl.out] at h5; exact h5
    clear hr3 hb3 h42 h43 h44
    by_cases ht : Pl.trim r = []
    ·have HQ2 := i' (HQ.out en (by rw [if_pos ht]))
     have HT0 := i' ht
     have e0 : (Pl.trim r).length = 0 := by rw [ht]; rfl
     clear ht
     go_wp2
     go_ret
     refine ⟨_, _, _, rfl, HB3.out, ?_⟩
     rcases HQ2.out with ⟨t', h5, h6, h7⟩ | ⟨h5, h6⟩
     ·exact Or.inl ⟨t', h5, by rw [← h6]; exact HC3.out, by rw [← h7]; exact HOP.out _ HO3.out⟩
     ·exact Or.inr ⟨h5, by rw [← h6]; exact HC3.out⟩
    ·have HQ2 := i' (HQ.out _ (by rw [if_neg ht]))
     have e0 : 0 < (Pl.trim r).length := List.length_pos_iff.2 ht
     clear ht
     generalize (Pl.trim r).length = lt at *
     have hpos : (0 : Int) < (lt : Int) := by omega
     go_wp2_with fail
     refine (HKz.out _ HC3.out).mono ?_
     rintro en3 w5 ⟨rfl, b5, d5⟩
     have HB5 := i' (HB3.out.trans b5)
     have HC5 := i' d5
     have HO5 := i' (b5.aw HO3.out hg2c)
     clear b5 d5
     generalize (if en = 0 then (10 : Int) else en) = e3 at *
     go_wp2
     go_ret
     refine ⟨_, _, _, rfl, HB5.out, ?_⟩
     rcases HQ2.out with ⟨t', h5, h6, h7⟩ | ⟨h5, h6⟩
     ·exact Or.inl ⟨t', h5, by rw [← h6]; exact HC5.out, by rw [← h7]; exact HOP.out _ HO5.out⟩
     ·exact Or.inr ⟨h5, by rw [← h6]; exact HC5.out⟩
   ·have hd0 : decide ((m : Int) < (k : Int)) = false := by rw [decide_eq_false_iff_not]; omega
    go_wp2_with fail
    refine HTr.out.mono ?_
    rintro en2 w3 ⟨v3, rfl, hr3, hb3⟩
    obtain ⟨a4, b4, o4, c4, rfl, h42, h43, h44⟩ := hr3.open_
    have HB3 := i' (hbut.out.trans (But.of_below hb3))
    have HC3 := i' (hck.out.below hb3)
    have HO3 := i' (hao.out.below hb3)
    have hl4 : (Pl.trim r).length ≤ k := by have h5 := Pl.trim_length r; rw [hrl.out] at h5; exact h5
    clear hr3 hb3 h42 h43 h44
    by_cases ht : Pl.trim r = []
    ·have HQ2 := i' (HQ.out en (by rw [if_pos ht]))
     have HT0 := i' ht
     have e0 : (Pl.trim r).length = 0 := by rw [ht]; rfl
     clear ht
     go_wp2
     go_ret
     refine ⟨_, _, _, rfl, HB3.out, ?_⟩
     rcases HQ2.out with ⟨t', h5, h6, h7⟩ | ⟨h5, h6⟩
     ·exact Or.inl ⟨t', h5, by rw [← h6]; exact HC3.out, by rw [← h7]; exact HOP.out _ HO3.out⟩
     ·exact Or.inr ⟨h5, by rw [← h6]; exact HC3.out⟩
    ·have HQ2 := i' (HQ.out _ (by rw [if_neg ht]))
     have e0 : 0 < (Pl.trim r).length := List.length_pos_iff.2 ht
     clear ht
     generalize (Pl.trim r).length = lt at *
     have hpos : (0 : Int) < (lt : Int) := by omega
     go_wp2_with fail
     refine (HKz.out _ HC3.out).mono ?_
     rintro en3 w5 ⟨rfl, b5, d5⟩
     have HB5 := i' (HB3.out.trans b5)
     have HC5 := i' d5
     have HO5 := i' (b5.aw HO3.out hg2c)
     clear b5 d5
     generalize (if en = 0 then (10 : Int) else en) = e3 at *
     go_wp2
     go_ret
     refine ⟨_, _, _, rfl, HB5.out, ?_⟩
     rcases HQ2.out with ⟨t', h5, h6, h7⟩ | ⟨h5, h6⟩
     ·exact Or.inl ⟨t', h5, by rw [← h6]; exact HC5.out, by rw [← h7]; exact HOP.out _ HO5.out⟩
     ·exact Or.inr ⟨h5, by rw [← h6]; exact HC5.out⟩
theorem k'jo (c : Nat) (p q : List Int) (v1 v2 : Value) (w : World) (h1 : Rp w v1 p) (h2 : Rp w v2 q) (hc : Ck w c 0) (hl1 : p.length ≤ 50) (hl2 : q.length ≤ 50)
 (ht1 : ∀ a ∈ p, a.natAbs < Top) (hlt : p.length < q.length) :
 Calls Tryz.prog 111 #[.pointer (some ⟨c, 0, none⟩), v1, v2] w (QuoPost (Pl.dvs q 0 p) c w) := by
 have HCl := i' (k'eh p v1 w h1 (by omega))
 have HDg := i' (fun w' (hb : Below w.heap.size w w') => k'da (zl q) v2 w' (h2.below hb))
 have HTr := i' (fun v w' hr => k'dx v p w' hr ht1)
 have HC := i' hc
 have HE : Hid (Pl.dvs q 0 p = if Pl.trim p = [] then some [] else none) := by show _ = _; rw [Pl.dvs]
 obtain ⟨a1, b1, o1, c1, rfl, _⟩ := h1.open_
 obtain ⟨a2, b2, o2, c2, rfl, _⟩ := h2.open_
 rw [k'cc] at HDg
 obtain ⟨n1, hn1⟩ : ∃ n, n = p.length := ⟨_, rfl⟩
 obtain ⟨m, hm⟩ : ∃ m, q.length = m + 1 := ⟨q.length - 1, by omega⟩
 obtain ⟨n2, hn2⟩ : ∃ n, n = q.length := ⟨_, rfl⟩
 generalize hres : Pl.dvs q 0 p = res at *
 have hmn2 : (n2 : Int) - 1 = (m : Int) := by omega
 have HMN := i' hmn2
 rw [← hn1] at hl1 hlt HCl ⊢
 rw [← hn2] at hl2 hlt HDg ⊢
 have HN1 := i' hn1
 have hle0 : n1 ≤ m := by omega
 obtain ⟨d, hd⟩ : ∃ d, m = n1 + d := ⟨m - n1, by omega⟩
 have hd50 : d ≤ 50 := by omega
 have hmax : (n1 : Int) - (m : Int) = -(d : Int) := by omega
 have hmax2 : max (-(d : Int)) 0 = 0 := by omega
 have HMx := i' (And.intro hmax hmax2)
 have HK : Hid (∀ w, (Instr.makeSlice 23 (.int .i64 0) (.int .i64 0)).run Tryz.prog w = .ok (.slice (some ⟨w.heap.size, 0, none⟩) 0 0) (w.alloc (.cells (wv ([] : List Int)).toArray 44))) := fun w => k'cm 0 w (by omega)
 have HTl := i' (Pl.trim_length p)
 clear h1 h2 hc ht1 hn1 hn2 hmn2 hmax hmax2 hres hm hd
 go_enter Tryz.func111, Tryz.ntmps111
 go_wp2_with fail
 refine HCl.out.mono ?_
 rintro en w1 ⟨a3, n3, c3, rfl, hr1, -, hb1⟩
 obtain rfl : n3 = n1 := by
  obtain ⟨_, _, _, _, e1, _⟩ := hr1.open_
  injection e1 with _ e2 _
  exact e2.trans HN1.out.symm
 have HR1 := i' hr1
 have HB1 := i' hb1
 clear hr1 hb1
 go_wp2_with fail
 refine (HDg.out _ HB1.out).mono ?_
 rintro en w2 ⟨rfl, hb2⟩
 have HR2 := i' (HR1.out.below hb2)
 have HB2 := i' (chain HB1.out hb2)
 clear hb2
 rw [HMN.out]
 have hk := HK.out
 have hs1 := HMx.out.1
 have hs2 := HMx.out.2
 go_wp2
 clear hk hs1 hs2
 obtain ⟨g2, hg2⟩ : ∃ g2, g2 = w2.heap.size := ⟨_, rfl⟩
 obtain ⟨w4, hw4⟩ : ∃ w4 : World, w4 = w2.alloc (.cells (wv ([] : List Int)).toArray 44) := ⟨_, rfl⟩
 have HR4 : Hid (Rp w4 (.slice a3 n3 c3) p) := by rw [hw4]; exact HR2.out.below ((Below.refl _ _).alloc (Nat.le_refl _) _)
 have HB4 : Hid (Below w.heap.size w w4) := by rw [hw4]; exact HB2.out.alloc HB2.out.size _
 rw [← hw4, ← hg2]
 have HO4 : Hid (∀ w', Rp w' (.slice (some ⟨g2, 0, none⟩) 0 0) []) := fun w' => Rp.mk (b := g2) (off := 0) rfl (Nat.le_refl _) (by decide) (fun h => absurd rfl h) (fun k hk => absurd hk (by simp))
 clear hw4 hg2 HR2 HB2 HR1 HB1
 go_loop [7] (fun v => v = .slice a3 n3 c3) (fun _ => 0)
 case atStart => rfl
 case round =>
  obtain rfl := hrel
  have hd0 : decide ((m : Int) < (n3 : Int)) = false := by rw [decide_eq_false_iff_not]; omega
  go_wp2_with fail
  refine (HTr.out _ _ HR4.out).mono ?_
  rintro en2 w5 ⟨v5, rfl, hr5, hb5⟩
  obtain ⟨a5, b5, o5, c5, rfl, -⟩ := hr5.open_
  have HB5 := i' (chain HB4.out hb5)
  clear hr5 hb5
  have hl4 : (Pl.trim p).length ≤ n3 := by have h5 := HTl.out; have h6 : n3 = p.length := HN1.out; omega
  have c0 := (HC.out.below HB5.out).cell
  have HC5 := i' (HC.out.below HB5.out)
  by_cases ht : Pl.trim p = []
  ·have HQ : Hid (res = some []) := by show _ = _; rw [HE.out, if_pos ht]
   have e0 : (Pl.trim p).length = 0 := by rw [ht]; rfl
   clear ht
   go_wp2
   go_ret
   exact ⟨_, _, _, rfl, But.of_below HB5.out, Or.inl ⟨[], HQ.out, HC5.out, HO4.out _⟩⟩
  ·have HQ : Hid (res = none) := by show _ = _; rw [HE.out, if_neg ht]
   have e0 : 0 < (Pl.trim p).length := List.length_pos_iff.2 ht
   clear ht
   generalize (Pl.trim p).length = lt at *
   have hpos : (0 : Int) < (lt : Int) := by omega
   have HKz := i' (k'cp c false ⟨#[]⟩ 10 0 w5 HC5.out)
   go_wp2_with fail
   refine HKz.out.mono ?_
   rintro en3 w6 ⟨rfl, b6, d6⟩
   have HB6 := i' ((But.of_below HB5.out).trans b6)
   have HC6 := i' d6
   clear b6 d6
   go_wp2
   go_ret
   exact ⟨_, _, _, rfl, HB6.out, Or.inr ⟨HQ.out, HC6.out⟩⟩
def ResO (o : Option (List Int)) (w : World) (en : Ending) (w' : World) : Prop := (∃ t, o = some t ∧ ResP t w en w') ∨ (o = none ∧ ResE 10 w en w')
theorem k'jq (p q : List Int) (v1 v2 : Value) (w : World) (h1 : Rp w v1 p) (h2 : Rp w v2 q) (hp : VP p) (hq : VP q) (hc : ckd (zl p) (zl q) = 0) :
 Calls Tryz.prog 54 #[v1, v2] w (ResO (Pl.dvs q (p.length + 1 - q.length) p) w) := by
 obtain ⟨f1, f2⟩ := k'fx hp hq hc
 have l1 := hp.len
 have l2 := hq.len
 have HD := i' (k'fd (zl p) (zl q) v1 v2 w h1 h2 (k'd7 hp.top) (k'd7 hq.top))
 rw [hc] at HD
 have HR : Hid (∀ c w', Below w.heap.size w w' → Ck w' c 0 → Calls Tryz.prog 111 #[.pointer (some ⟨c, 0, none⟩), v1, v2] w' (QuoPost (Pl.dvs q (p.length + 1 - q.length) p) c w')) := fun c w' hb hck => by
  rcases Nat.lt_or_ge p.length q.length with g | g
  ·rw [show p.length + 1 - q.length = 0 by omega]
   exact k'jo c p q v1 v2 w' (h1.below hb) (h2.below hb) hck (by omega) (by omega) hp.top g
  ·exact k'jn c p q v1 v2 w' (h1.below hb) (h2.below hb) hck (by omega) (by omega) f1 hq.nrm (k'fy hq f1) g hq.top (f2 g)
 generalize Pl.dvs q (p.length + 1 - q.length) p = r at *
 clear h1 h2 hp hq hc f1 f2 l1 l2
 go_enter Tryz.func54, Tryz.ntmps54
 go_wp2_with fail
 refine HD.out.mono ?_
 rintro en w1 ⟨rfl, b1⟩
 obtain ⟨w2, hw2⟩ : ∃ w2 : World, w2 = w1.alloc (.cells #[.int .i64 0] 96) := ⟨_, rfl⟩
 have HK : Hid (Ck w2 w1.heap.size 0) := by show Ck _ _ _; rw [hw2]; exact heap_alloc_new w1 _
 have B2 : Hid (Below w.heap.size w w2) := by show Below _ _ _; rw [hw2]; exact b1.alloc b1.size _
 have hsz := b1.size
 clear b1
 go_wp2_with fail
 rw [← hw2]
 clear hw2
 refine (HR.out _ _ B2.out HK.out).mono ?_
 rintro en w3 ⟨a3, n3, c3, rfl, b3, h3⟩
 have B3 := i' (B2.out.trans (b3.lowC hsz HK.out.lt))
 clear b3
 rcases h3 with ⟨t, ht, hk3, r3⟩ | ⟨ht, hk3⟩
 ·have HT := i' ht
  have HK3 := i' hk3
  have R3 := i' r3
  clear ht hk3 r3
  go_wp2_with fail
  refine (k'dy _ _ _ _ _ HK3.out).mono ?_
  rintro en w4 ⟨rfl, b4⟩
  have B4 := i' (chain B3.out b4)
  have R4 := i' (R3.out.below b4)
  clear b4
  go_wp2
  go_ret2
  exact Or.inl ⟨t, HT.out, _, rfl, R4.out, B4.out⟩
 ·have HT := i' ht
  have HK3 := i' hk3
  clear ht hk3
  go_wp2_with fail
  refine (k'dz _ _ 10 (by decide) _ HK3.out).mono ?_
  rintro en w4 ⟨rfl, b4⟩
  have B4 := i' (chain B3.out b4)
  clear b4
  go_wp2
  go_ret2
  exact Or.inr ⟨HT.out, rfl, B4.out⟩
theorem k'js (p : List Int) (v : Value) (w : World) (h : Rp w v p) (hp : VP p) :
 Calls Tryz.prog 34 #[v] w (ResP (Pl.prim p) w) := by
 have HD := i' (k'd9 p v w h hp)
 have HR := i' (fun c w' (hb : Below w.heap.size w w') hck => k'fp c p v 0 w' (h.below hb) hck hp.nrm (by have := hp.len; omega) hp.top)
 generalize Pl.prim p = r at *
 clear h hp
 go_enter Tryz.func34, Tryz.ntmps34
 go_wp2_with fail
 refine HD.out.mono ?_
 rintro en w1 ⟨rfl, b1⟩
 obtain ⟨w2, hw2⟩ : ∃ w2 : World, w2 = w1.alloc (.cells #[.int .i64 0] 96) := ⟨_, rfl⟩
 have HK : Hid (Ck w2 w1.heap.size 0) := by show Ck _ _ _; rw [hw2]; exact heap_alloc_new w1 _
 have B2 : Hid (Below w.heap.size w w2) := by show Below _ _ _; rw [hw2]; exact b1.alloc b1.size _
 clear b1
 go_wp2_with fail
 rw [← hw2]
 clear hw2
 refine (HR.out _ _ B2.out HK.out).mono ?_
 rintro en w3 ⟨v3, rfl, r3, b3⟩
 obtain ⟨a3, bb3, o3, c3, rfl, -⟩ := r3.open_
 have HK3 := i' (HK.out.below b3)
 have B3 := i' (chain B2.out b3)
 have R3 := i' r3
 clear b3 r3
 go_wp2_with fail
 refine (k'dy _ _ _ _ _ HK3.out).mono ?_
 rintro en w4 ⟨rfl, b4⟩
 have B4 := i' (chain B3.out b4)
 have R4 := i' (R3.out.below b4)
 clear b4
 go_wp2
 go_ret2
 exact ⟨_, rfl, R4.out, B4.out⟩
theorem k'ju (p : List Int) (v : Value) (w : World) (h : Rp w v p) (hp : VP p) :
 Calls Tryz.prog 33 #[v] w (Ret (.tuple #[Z (Pl.cont p : Nat), .int .i64 0]) w) := by
 obtain ⟨w0, hw0⟩ : ∃ w0 : World, w0 = w.alloc (.cells #[.bool false, .string ⟨#[]⟩] 44) := ⟨_, rfl⟩
 have HA0 : Hid (Aw w0 w.heap.size [0]) := by show Aw _ _ _; rw [hw0]; exact Aw.made w [0]
 have B0 : Hid (Below w.heap.size w w0) := by show Below _ _ _; rw [hw0]; exact (Below.refl _ _).alloc (Nat.le_refl _) _
 have HD := i' (k'd9 p v w0 (h.below B0.out) hp)
 have HR := i' (fun c w' (hb : Below w.heap.size w w') hck => k'fn c p v 0 w' (h.below hb) hck hp.top)
 generalize ((Pl.cont p : Nat) : Int) = r at *
 clear h hp
 go_enter Tryz.func33, Tryz.ntmps33
 go_wp2_with fail
 rw [← hw0]
 clear hw0
 refine HD.out.mono ?_
 rintro en w1 ⟨rfl, b1⟩
 have HA1 := i' (HA0.out.below b1)
 have b1 := chain B0.out b1
 obtain ⟨w2, hw2⟩ : ∃ w2 : World, w2 = w1.alloc (.cells #[.int .i64 0] 96) := ⟨_, rfl⟩
 have HK : Hid (Ck w2 w1.heap.size 0) := by show Ck _ _ _; rw [hw2]; exact heap_alloc_new w1 _
 have B2 : Hid (Below w.heap.size w w2) := by show Below _ _ _; rw [hw2]; exact b1.alloc b1.size _
 have HA2 : Hid (Aw w2 w.heap.size [0]) := by rw [hw2]; exact HA1.out.alloc _
 clear b1
 go_wp2_with fail
 rw [← hw2]
 clear hw2
 refine (HR.out _ _ B2.out HK.out).mono ?_
 rintro en w3 ⟨rfl, b3⟩
 have HK3 := i' (HK.out.below b3)
 have B3 := i' (chain B2.out b3)
 have HA3 := i' (HA2.out.below b3)
 clear b3
 unfold Z
 go_wp2_with fail
 refine (k'e0 _ _ _ _ HK3.out).mono ?_
 rintro en w4 ⟨rfl, b4⟩
 have B4 := i' (chain B3.out b4)
 have HA4 := i' (HA3.out.below b4)
 clear b4
 obtain ⟨e0, e1⟩ := HA4.out.cell 0 (by simp)
 simp only [Nat.zero_mul, Nat.zero_add, List.getElem_cons_zero] at e0 e1
 have f0 := HA4.out.free 0
 have f1 := HA4.out.free 1
 have HB8 := i' ((B4.out.setCell (p := ⟨w.heap.size, 0, none⟩) (Nat.le_refl _) (.bool (zb r))).setCell (p := ⟨w.heap.size, 1, none⟩) (Nat.le_refl _) (.string (zs r)))
 go_wp2
 exact bodyPost_ret (v := .tuple #[.agg #[.bool (zb r), .string (zs r)], .int .i64 0]) (by simp [results, Tryz.results33, go_sem, e0, e1]) rfl ⟨rfl, HB8.out⟩
def ckg (L1 L2 : List (Bool × ByteArray)) : Int :=
 if (vldP L1 && vldP L2) = true then (if 0 < L1.length ∧ 0 < L2.length ∧ (max ((L1.length : Int) - 1) ((L2.length : Int) - 1) + 3) * (max ((L1.length : Int) - 1) ((L2.length : Int) - 1) + 3) * (max (glb L1) (glb L2) + 8) > 65536 then 7 else 0) else 2
theorem k'jw (p q : List Int) (v1 v2 : Value) (w : World) (h1 : Rp w v1 p) (h2 : Rp w v2 q) (hp : VP p) (hq : VP q) (hc : ckg (zl p) (zl q) = 0)
 (S : List Int → List Int → Prop) (hS : Pl.Euk S) (hS1 : q.length ≤ p.length → S (Pl.prim p) (Pl.prim q)) (hS2 : p.length < q.length → S (Pl.prim q) (Pl.prim p)) :
 Calls Tryz.prog 55 #[v1, v2] w (ResP (Pl.gcdP p q) w) := by
 have HR := i' (fun c w' (hb : Below w.heap.size w w') hck => k'fu c p q v1 v2 0 w' (h1.below hb) (h2.below hb) hck hp.nrm hq.nrm (by have := hp.len; omega) (by have := hq.len; omega) hp.top hq.top S hS hS1 hS2)
 obtain ⟨L1, e1⟩ : ∃ L, L = zl p := ⟨_, rfl⟩
 obtain ⟨L2, e2⟩ : ∃ L, L = zl q := ⟨_, rfl⟩
 have z1 : Small L1 := by rw [e1]; exact k'd7 hp.top
 have z2 : Small L2 := by rw [e2]; exact k'd7 hq.top
 have k1 : vldP L1 = true := by rw [e1]; exact hp.ok
 have k2 : vldP L2 = true := by rw [e2]; exact hq.ok
 unfold Rp at h1 h2
 rw [← e1] at h1 hc
 rw [← e2] at h2 hc
 generalize Pl.gcdP p q = G at *
 clear hp hq hS hS1 hS2 e1 e2
 have HV1 := i' (fun w' (hb : Below w.heap.size w w') => k'd6 L1 v1 w' (h1.below hb) z1)
 have HV2 := i' (fun w' (hb : Below w.heap.size w w') => k'd6 L2 v2 w' (h2.below hb) z2)
 have HD1 := i' (fun w' (hb : Below w.heap.size w w') => k'da L1 v1 w' (h1.below hb))
 have HD2 := i' (fun w' (hb : Below w.heap.size w w') => k'da L2 v2 w' (h2.below hb))
 have HG1 := i' (fun w' (hb : Below w.heap.size w w') => k'dc L1 v1 w' (h1.below hb) z1)
 have HG2 := i' (fun w' (hb : Below w.heap.size w w') => k'dc L2 v2 w' (h2.below hb) z2)
 have G1 := k'fb L1
 have G2 := k'fb L2
 have L1b := k'fc (L := L1)
 have L2b := k'fc (L := L2)
 have hn1 := L1b k1
 have hn2 := L2b k2
 unfold ckg at hc
 rw [k1, k2] at hc
 rw [k1] at HV1
 rw [k2] at HV2
 clear L1b L2b k1 k2
 rw [show (true && true) = true from rfl, if_pos rfl] at hc
 obtain ⟨p1, b1, o1, c1, rfl, -, -, -, -⟩ := h1
 obtain ⟨p2, b2, o2, c2, rfl, -, -, -, -⟩ := h2
 clear z1 z2
 generalize glb L1 = g1 at *
 generalize glb L2 = g2 at *
 generalize L1.length = n1 at *
 generalize L2.length = n2 at *
 have HH := hc
 clear hc
 obtain ⟨sd, hsd⟩ : ∃ sd : Int, max ((n1 : Int) - 1) ((n2 : Int) - 1) = sd := ⟨_, rfl⟩
 obtain ⟨gb, hgb⟩ : ∃ gb : Int, max g1 g2 = gb := ⟨_, rfl⟩
 rw [hsd, hgb] at HH
 have hsd1 : -1 ≤ sd ∧ sd ≤ 24 := by omega
 have hgb1 : 0 ≤ gb ∧ gb ≤ 65536 := by omega
 obtain ⟨s2, hs2⟩ : ∃ s2 : Int, (sd + 3) * (sd + 3) = s2 := ⟨_, rfl⟩
 have hs21 : 0 ≤ s2 ∧ s2 ≤ 27 * 27 := by
  have h1 := Int.mul_le_mul (show sd + 3 ≤ 27 by omega) (show sd + 3 ≤ 27 by omega) (by omega) (by omega)
  have h2 := Int.mul_nonneg (show 0 ≤ sd + 3 by omega) (show 0 ≤ sd + 3 by omega)
  omega
 obtain ⟨m, hm⟩ : ∃ m : Int, s2 * (gb + 8) = m := ⟨_, rfl⟩
 have hm1 : 0 ≤ m ∧ m ≤ 27 * 27 * 65544 := by
  have h1 := Int.mul_le_mul hs21.2 (show gb + 8 ≤ 65544 by omega) (by omega) (by omega)
  have h2 := Int.mul_nonneg hs21.1 (show 0 ≤ gb + 8 by omega)
  omega
 have w1' : IntKind.i64.wrap ((sd + 3) * (sd + 3)) = s2 := by rw [hs2]; exact IntWalk.i64_in _ (by omega)
 have w2' : IntKind.i64.wrap (s2 * (gb + 8)) = m := by rw [hm]; exact IntWalk.i64_in _ (by omega)
 rw [hs2, hm] at HH
 have hz : ¬ (0 < n1 ∧ 0 < n2 ∧ m > 65536) := by
  intro h
  rw [if_pos h] at HH
  exact absurd HH (by decide)
 clear HH hs2 hm
 rcases Nat.eq_zero_or_pos n1 with h0 | h0
 ·subst h0
  clear hz
  go_enter Tryz.func55, Tryz.ntmps55
  go_wp2_with fail
  refine (HV1.out _ (Below.refl _ _)).mono ?_
  rintro e w1 ⟨rfl, b1⟩
  have B1 := i' (b1)
  clear b1
  go_wp2_with fail
  refine (HV2.out _ B1.out).mono ?_
  rintro e w2 ⟨rfl, b2⟩
  have B2 := i' (chain B1.out b2)
  clear b2
  go_wp2_with fail
  refine (HD1.out _ B2.out).mono ?_
  rintro e w3 ⟨rfl, b3⟩
  have B3 := i' (chain B2.out b3)
  clear b3
  go_wp2_with fail
  refine (HD2.out _ B3.out).mono ?_
  rintro e w4 ⟨rfl, b4⟩
  have B4 := i' (chain B3.out b4)
  clear b4
  go_wp2_with fail
  refine (HG1.out _ B4.out).mono ?_
  rintro e w5 ⟨rfl, b5⟩
  have B5 := i' (chain B4.out b5)
  clear b5
  go_wp2_with fail
  refine (HG2.out _ B5.out).mono ?_
  rintro e w6 ⟨rfl, b6⟩
  have B6 := i' (chain B5.out b6)
  clear b6
  obtain ⟨w7, hw7⟩ : ∃ w7 : World, w7 = w6.alloc (.cells #[.int .i64 0] 96) := ⟨_, rfl⟩
  have HK : Hid (Ck w7 w6.heap.size 0) := by show Ck _ _ _; rw [hw7]; exact heap_alloc_new w6 _
  have B7 : Hid (Below w.heap.size w w7) := by show Below _ _ _; rw [hw7]; exact B6.out.alloc B6.out.size _
  go_wp2_with fail
  rw [← hw7]
  clear hw7
  refine (HR.out _ _ B7.out HK.out).mono ?_
  rintro en w8 ⟨v3, rfl, r3, b3⟩
  obtain ⟨a3, bb3, o3, c3, rfl, -⟩ := r3.open_
  have HK3 := i' (HK.out.below b3)
  have B8 := i' (chain B7.out b3)
  have R3 := i' r3
  clear b3 r3
  go_wp2_with fail
  refine (k'dy _ _ _ _ _ HK3.out).mono ?_
  rintro en w9 ⟨rfl, b4⟩
  have B9 := i' (chain B8.out b4)
  have R4 := i' (R3.out.below b4)
  clear b4
  go_wp2
  go_ret2
  exact ⟨_, rfl, R4.out, B9.out⟩
 rcases Nat.eq_zero_or_pos n2 with h0' | h0'
 ·subst h0'
  clear hz
  go_enter Tryz.func55, Tryz.ntmps55
  go_wp2_with fail
  refine (HV1.out _ (Below.refl _ _)).mono ?_
  rintro e w1 ⟨rfl, b1⟩
  have B1 := i' (b1)
  clear b1
  go_wp2_with fail
  refine (HV2.out _ B1.out).mono ?_
  rintro e w2 ⟨rfl, b2⟩
  have B2 := i' (chain B1.out b2)
  clear b2
  go_wp2_with fail
  refine (HD1.out _ B2.out).mono ?_
  rintro e w3 ⟨rfl, b3⟩
  have B3 := i' (chain B2.out b3)
  clear b3
  go_wp2_with fail
  refine (HD2.out _ B3.out).mono ?_
  rintro e w4 ⟨rfl, b4⟩
  have B4 := i' (chain B3.out b4)
  clear b4
  go_wp2_with fail
  refine (HG1.out _ B4.out).mono ?_
  rintro e w5 ⟨rfl, b5⟩
  have B5 := i' (chain B4.out b5)
  clear b5
  go_wp2_with fail
  refine (HG2.out _ B5.out).mono ?_
  rintro e w6 ⟨rfl, b6⟩
  have B6 := i' (chain B5.out b6)
  clear b6
  obtain ⟨w7, hw7⟩ : ∃ w7 : World, w7 = w6.alloc (.cells #[.int .i64 0] 96) := ⟨_, rfl⟩
  have HK : Hid (Ck w7 w6.heap.size 0) := by show Ck _ _ _; rw [hw7]; exact heap_alloc_new w6 _
  have B7 : Hid (Below w.heap.size w w7) := by show Below _ _ _; rw [hw7]; exact B6.out.alloc B6.out.size _
  go_wp2_with fail
  rw [← hw7]
  clear hw7
  refine (HR.out _ _ B7.out HK.out).mono ?_
  rintro en w8 ⟨v3, rfl, r3, b3⟩
  obtain ⟨a3, bb3, o3, c3, rfl, -⟩ := r3.open_
  have HK3 := i' (HK.out.below b3)
  have B8 := i' (chain B7.out b3)
  have R3 := i' r3
  clear b3 r3
  go_wp2_with fail
  refine (k'dy _ _ _ _ _ HK3.out).mono ?_
  rintro en w9 ⟨rfl, b4⟩
  have B9 := i' (chain B8.out b4)
  have R4 := i' (R3.out.below b4)
  clear b4
  go_wp2
  go_ret2
  exact ⟨_, rfl, R4.out, B9.out⟩
 ·have hz4 : decide (65536 < m) = false := by rw [decide_eq_false_iff_not]; intro h; exact hz ⟨h0, h0', h⟩
  clear hz
  go_enter Tryz.func55, Tryz.ntmps55
  go_wp2_with fail
  refine (HV1.out _ (Below.refl _ _)).mono ?_
  rintro e w1 ⟨rfl, b1⟩
  have B1 := i' (b1)
  clear b1
  go_wp2_with fail
  refine (HV2.out _ B1.out).mono ?_
  rintro e w2 ⟨rfl, b2⟩
  have B2 := i' (chain B1.out b2)
  clear b2
  go_wp2_with fail
  refine (HD1.out _ B2.out).mono ?_
  rintro e w3 ⟨rfl, b3⟩
  have B3 := i' (chain B2.out b3)
  clear b3
  go_wp2_with fail
  refine (HD2.out _ B3.out).mono ?_
  rintro e w4 ⟨rfl, b4⟩
  have B4 := i' (chain B3.out b4)
  clear b4
  go_wp2_with fail
  refine (HG1.out _ B4.out).mono ?_
  rintro e w5 ⟨rfl, b5⟩
  have B5 := i' (chain B4.out b5)
  clear b5
  go_wp2_with fail
  refine (HG2.out _ B5.out).mono ?_
  rintro e w6 ⟨rfl, b6⟩
  have B6 := i' (chain B5.out b6)
  clear b6
  obtain ⟨w7, hw7⟩ : ∃ w7 : World, w7 = w6.alloc (.cells #[.int .i64 0] 96) := ⟨_, rfl⟩
  have HK : Hid (Ck w7 w6.heap.size 0) := by show Ck _ _ _; rw [hw7]; exact heap_alloc_new w6 _
  have B7 : Hid (Below w.heap.size w w7) := by show Below _ _ _; rw [hw7]; exact B6.out.alloc B6.out.size _
  go_wp2_with fail
  rw [← hw7]
  clear hw7
  refine (HR.out _ _ B7.out HK.out).mono ?_
  rintro en w8 ⟨v3, rfl, r3, b3⟩
  obtain ⟨a3, bb3, o3, c3, rfl, -⟩ := r3.open_
  have HK3 := i' (HK.out.below b3)
  have B8 := i' (chain B7.out b3)
  have R3 := i' r3
  clear b3 r3
  go_wp2_with fail
  refine (k'dy _ _ _ _ _ HK3.out).mono ?_
  rintro en w9 ⟨rfl, b4⟩
  have B9 := i' (chain B8.out b4)
  have R4 := i' (R3.out.below b4)
  clear b4
  go_wp2
  go_ret2
  exact ⟨_, rfl, R4.out, B9.out⟩
theorem k'jx (c m k : Nat) (x e : Int) (w : World) (hc : Ck w c e) (h1 : w.cell? ⟨m, 0, none⟩ = some (.pointer (some ⟨c, 0, none⟩))) (hk : k ≤ 100)
 (hx : x.natAbs < Top) (hm : (x * ((k : Int) + 1)).natAbs < Top) :
 Calls Tryz.prog 88 #[.int .i64 (k : Int), Z x, .pointer (some ⟨m, 0, none⟩)] w (Ret (Z (x * ((k : Int) + 1))) w) := by
 have hW0 : (101 : Nat) < W := by decide
 have hW : ((k : Int) + 1).natAbs < Top := Nat.lt_of_le_of_lt (show ((k : Int) + 1).natAbs ≤ 101 by omega) (Nat.lt_of_lt_of_le hW0 W_Top)
 have HO := i' (fun w => zz_of ((k : Int) + 1) w (by omega) (by omega))
 have HD := i' (fun w hc => k'd1 c x ((k : Int) + 1) e w hc hx hW hm)
 have hl1 := World.block_lt_of_cell? w _ h1
 simp only at hl1
 obtain ⟨w0, hw0⟩ : ∃ w0 : World, w0 = (w.alloc (.cells #[.bool (zb x), .string (zs x)] 44)).alloc (.cells #[.bool false, .string ⟨#[]⟩] 44) := ⟨_, rfl⟩
 have HB0 : Hid (Below w.heap.size w w0) := by show Below _ _ _; rw [hw0]; exact ((Below.refl _ _).alloc (Nat.le_refl _) _).alloc (by simp) _
 have HC0 : Hid (Ck w0 c e) := by rw [hw0]; exact (hc.alloc _).alloc _
 have k1 : w0.cell? ⟨m, 0, none⟩ = some (.pointer (some ⟨c, 0, none⟩)) := keep1 HB0.out h1
 have k2 : w0.cell? ⟨w.heap.size, 0, none⟩ = some (.bool (zb x)) := by rw [hw0]; simp [go_sem]
 have k3 : w0.cell? ⟨w.heap.size, 1, none⟩ = some (.string (zs x)) := by rw [hw0]; simp [go_sem]
 have k4 : w0.cell? ⟨w.heap.size + 1, 0, none⟩ = some (.bool false) := by rw [hw0]; simp [go_sem]
 have k5 : w0.cell? ⟨w.heap.size + 1, 1, none⟩ = some (.string ⟨#[]⟩) := by rw [hw0]; simp [go_sem]
 have k6 : w0.frozen? ⟨w.heap.size + 1, 0, none⟩ = false := by rw [hw0]; simp [go_sem]
 have k7 : w0.frozen? ⟨w.heap.size + 1, 1, none⟩ = false := by rw [hw0]; simp [go_sem]
 have KK := i' (And.intro k4 (And.intro k5 (And.intro k6 k7)))
 have K3 := i' (And.intro k1 (And.intro k2 k3))
 have u5 : ¬ m = w.heap.size + 1 := by omega
 have u6 : ¬ w.heap.size + 1 = m := by omega
 have u7 : ¬ m = w.heap.size := by omega
 have u8 : ¬ w.heap.size = m := by omega
 have hk0 : (0 : Int) ≤ (k : Int) ∧ (k : Int) ≤ 100 := by omega
 have hzd : w.heap.size + 1 < w0.heap.size := by rw [hw0]; simp
 clear hc hx hm hW k1 k2 k3 k4 k5 k6 k7 hk h1
 unfold Z at HD HO ⊢
 generalize x * ((k : Int) + 1) = d at *
 generalize zb x = xb at *
 generalize zs x = xs at *
 generalize zb d = db at *
 generalize zs d = ds at *
 go_enter Tryz.func88, Tryz.ntmps88
 go_upto_region 1 with (fail)
 rw [← hw0]
 clear hw0
 obtain ⟨k1, k2, k3⟩ := K3.out
 obtain ⟨k4, k5, k6, k7⟩ := KK.out
 have vw : IntKind.i64.wrap ((k : Int) + 1) = (k : Int) + 1 := IntWalk.i64_in _ (by omega)
 go_region_held3 (fun W' => W'.cell? ⟨m, 0, none⟩ = some (.pointer (some ⟨c, 0, none⟩)) ∧ W'.cell? ⟨w.heap.size, 0, none⟩ = some (.bool xb) ∧ W'.cell? ⟨w.heap.size, 1, none⟩ = some (.string xs)) (go_keep)
  (first
   | (go_at_call 73; (with_reducible refine (HO.out _).mono ?_); rintro e z1 ⟨rfl, b1⟩; have d1 := chain ((Below.refl w0.heap.size w0).drew) b1; have p1 := keep1 d1 k1; have p2 := keep1 d1 k2; have p3 := keep1 d1 k3; have p4 := keep1 d1 k4; have p5 := keep1 d1 k5; have p6 := keepf d1 k4 k6; have p7 := keepf d1 k5 k7; have G1 := i' (And.intro d1 (HC0.out.below d1)); clear b1 d1)
   | (go_at_call 89; (with_reducible refine (HD.out _ G1.out.2).mono ?_); rintro e z2 ⟨rfl, b2⟩; have d2 := chain G1.out.1 b2; have p1 := keep1 d2 k1; have p2 := keep1 d2 k2; have p3 := keep1 d2 k3; have p4 := keep1 d2 k4; have p5 := keep1 d2 k5; have p6 := keepf d2 k4 k6; have p7 := keepf d2 k5 k7; have G2 := i' d2; clear b2 d2))
 all_goals
  have HZ := i' (((chain HB0.out G2.out).setCell (p := ⟨w.heap.size + 1, 0, none⟩) (by simp) (.bool db)).setCell (p := ⟨w.heap.size + 1, 1, none⟩) (by simp) (.string ds))
  go_wp2
  exact bodyPost_ret (v := .agg #[.bool db, .string ds]) (by simp [results, Tryz.results88, go_sem, p4, p5]) rfl ⟨rfl, HZ.out⟩
def derL (p : List Int) : List Int := (List.range (p.length - 1)).map fun k => Pl.cf p (k + 1) * ((k : Int) + 1)
theorem k'jy (p : List Int) : (derL p).length = p.length - 1 := by simp [derL]
theorem k'k1 (p : List Int) (v : Value) (w : World) (h : Rp w v p) (hp : VP p) (h0 : p ≠ []) (hm : ∀ k, k < p.length - 1 → (Pl.cf p (k + 1) * ((k : Int) + 1)).natAbs < Top) :
 Calls Tryz.prog 32 #[v] w (ResP (derL p) w) := by
 have HD := i' (k'd9 p v w h hp)
 have hpl := List.length_pos_iff.2 h0
 have hl := hp.len
 have HRP := i' h
 obtain ⟨a, b, off, cap, rfl, h2, h3, h4, h5⟩ := h.open_
 obtain rfl := h4 h0
 have HCh : Hid (∀ (c m : Nat) (v' : Value) (w' : World), Rp w' v' (p.drop 1) → Ck w' c 0 → w'.cell? ⟨m, 0, none⟩ = some (.pointer (some ⟨c, 0, none⟩)) →
  Calls Tryz.prog 87 #[v', .func (.func 88) #[] #[.pointer (some ⟨m, 0, none⟩)]] w' (RpPost (derL p) w')) := fun c m v' w' hr hck hmc =>
  k'ff m (p.drop 1) (derL p) v' w' hr (by rw [k'jy]; simp) (by simp; omega) (fun k wr hk hk2 hb => by
   have hk3 : k + 1 < p.length := by simp at hk; omega
   have e1 : (p.drop 1)[k] = Pl.cf p (k + 1) := by rw [Pl.cf_lt hk3]; simp [Nat.add_comm]
   have e2 : (derL p)[k] = Pl.cf p (k + 1) * ((k : Int) + 1) := by simp [derL]
   rw [e1, e2]
   exact k'jx c m k _ 0 wr (hck.below hb) (keep1 hb hmc) (by omega) ((by rw [Pl.cf_lt hk3]; exact hp.top _ (List.getElem_mem hk3))) (hm k (by omega)))
 have HTail : Hid (∀ w' a' cap', Below w.heap.size w w' → (1 < p.length → a' = some ⟨b, off + 2, none⟩) → p.length - 1 ≤ cap' → cap' ≤ maxLen → Rp w' (.slice a' (p.length - 1) cap') (p.drop 1)) := fun w' a' cap' hb ha hc1 hc2 =>
  Rp.mk (b := b) (off := off + 2) (by simp) (by simp; omega) hc2 (fun hne => ha (by
   have := List.length_pos_iff.2 hne
   simp at this; omega)) (fun k hk => by
   have hk3 : k + 1 < p.length := by simp at hk; omega
   have h6 := h5 (k + 1) hk3
   have e1 : (p.drop 1)[k] = p[k + 1] := by simp [Nat.add_comm]
   rw [e1]
   refine ⟨keep1 hb ?_, keep1 hb ?_⟩
   ·have := h6.1
    rwa [show off + (k + 1) * 2 = off + 2 + k * 2 by omega] at this
   ·have := h6.2
    rwa [show off + (k + 1) * 2 + 1 = off + 2 + k * 2 + 1 by omega] at this)
 unfold maxLen at h3
 generalize derL p = r at *
 obtain ⟨n, hn⟩ : ∃ n, p.length = n + 1 := ⟨p.length - 1, by omega⟩
 rw [hn] at HD HTail h2 hl ⊢
 rw [Nat.add_sub_cancel] at HTail
 have hz : (((n + 1 : Nat) : Int) == 0) = false := by simp; omega
 clear h h4 h5 h0 hm hp hpl hn HRP
 go_enter Tryz.func32, Tryz.ntmps32
 go_wp2_with fail
 refine HD.out.mono ?_
 rintro en w1 ⟨rfl, b1⟩
 have hs1 := b1.size
 obtain ⟨w2, hw2⟩ : ∃ w2 : World, w2 = (w1.alloc (.cells #[.int .i64 0] 96)).alloc (.cells #[.pointer (some ⟨w1.heap.size, 0, none⟩)] 94) := ⟨_, rfl⟩
 have B2 : Hid (Below w.heap.size w w2) := by show Below _ _ _; rw [hw2]; exact (b1.alloc b1.size _).alloc (by simp; omega) _
 have K2 : Hid (Ck w2 w1.heap.size 0) := by
  show Ck _ _ _
  rw [hw2]
  have h5 : Ck (w1.alloc (.cells #[.int .i64 0] 96)) w1.heap.size 0 := heap_alloc_new w1 _
  exact h5.alloc _
 have M2 : Hid (w2.cell? ⟨w1.heap.size + 1, 0, none⟩ = some (.pointer (some ⟨w1.heap.size, 0, none⟩))) := by show _ = _; rw [hw2]; simp [go_sem]
 clear b1
 go_upto_region 6 with (fail)
 rw [← hw2]
 clear hw2
 have k1 := M2.out
 have B2d := i' B2.out.drew
 by_cases hcap : cap = 1
 ·subst hcap
  obtain rfl : n = 0 := by omega
  go_region_held3 (fun W' => W'.cell? ⟨w1.heap.size + 1, 0, none⟩ = some (.pointer (some ⟨w1.heap.size, 0, none⟩))) (go_keep)
   (first
    | (go_at_call 87; (with_reducible refine (HCh.out w1.heap.size (w1.heap.size + 1) _ _ (HTail.out _ _ _ B2d.out (fun h => absurd h (by simp)) (by omega) (by decide)) (by exact K2.out.drew) (by rw [k'ew]; exact k1)).mono ?_); rintro e z1 ⟨v5, rfl, r5, b5⟩; have d1 := chain ((Below.refl w2.heap.size w2).drew) b5; have p1 := keep1 d1 k1; have G1 := i' (And.intro d1 (And.intro (K2.out.below d1) r5)); obtain ⟨a5, bb5, o5, c5, rfl, rr5⟩ := r5.open_; clear b5 d1 r5 rr5)
    | (go_at_call 80; (with_reducible refine (k'dy _ _ _ _ _ G1.out.2.1).mono ?_); rintro e z2 ⟨rfl, b6⟩; have d2 := chain G1.out.1 b6; have p1 := keep1 d2 k1; have G2 := i' (And.intro d2 (Rw.below G1.out.2.2 b6)); clear b6 d2))
  all_goals
   go_wp2
   go_ret2
   exact ⟨_, rfl, G2.out.2, chain B2.out G2.out.1⟩
 ·have hcap2 : ¬ 1 = cap := fun h => hcap h.symm
  have hcap3 : ((1 : Int) < (cap : Int)) := by omega
  have hi0 : (0 : Int) ≤ (n : Int) := by omega
  have hi1 : (n : Int) + 1 ≤ (cap : Int) := by omega
  have hi2 : (1 : Int) ≤ (n : Int) + 1 := by omega
  have hi3 : n + 1 ≤ cap := h2
  go_region_held3 (fun W' => W'.cell? ⟨w1.heap.size + 1, 0, none⟩ = some (.pointer (some ⟨w1.heap.size, 0, none⟩))) (go_keep)
   (first
    | (go_at_call 87; (with_reducible refine (HCh.out w1.heap.size (w1.heap.size + 1) _ _ (HTail.out _ _ _ B2d.out (fun _ => rfl) (by omega) (by unfold maxLen; omega)) (by exact K2.out.drew) (by rw [k'ew]; exact k1)).mono ?_); rintro e z1 ⟨v5, rfl, r5, b5⟩; have d1 := chain ((Below.refl w2.heap.size w2).drew) b5; have p1 := keep1 d1 k1; have G1 := i' (And.intro d1 (And.intro (K2.out.below d1) r5)); obtain ⟨a5, bb5, o5, c5, rfl, rr5⟩ := r5.open_; clear b5 d1 r5 rr5)
    | (go_at_call 80; (with_reducible refine (k'dy _ _ _ _ _ G1.out.2.1).mono ?_); rintro e z2 ⟨rfl, b6⟩; have d2 := chain G1.out.1 b6; have p1 := keep1 d2 k1; have G2 := i' (And.intro d2 (Rw.below G1.out.2.2 b6)); clear b6 d2))
  all_goals
   go_wp2
   go_ret2
   exact ⟨_, rfl, G2.out.2, chain B2.out G2.out.1⟩
end Go.Proofs.YtepddegphdlbeaaGreat
