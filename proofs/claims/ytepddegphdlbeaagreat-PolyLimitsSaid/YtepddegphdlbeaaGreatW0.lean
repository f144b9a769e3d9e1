/- PolyLimits gives true for all ints (P2.2 to P2.5, P2.7). No condition. -/
import Derived.Test.YtepddegphdlbeaaGreatG6
import Derived.Test.YtepddegphdlbeaaGreatG4
import Derived.Test.YtepddegphdlbeaaGreatG3
import Derived.Test.YtepddegphdlbeaaGreatG2
import Derived.Test.YtepddegphdlbeaaGreatG1
import Derived.Test.YtepddegphdlbeaaGreatG0
import Derived.Test.YtepddegphdlbeaaGreatProg
import Derived.WalkKit
import Derived.WalkSpells
import Derived.WalkLawsBesides
import Derived.Lib.Hide
import Derived.Deep.QuietTactic
import Derived.BigQuiet
import Derived.Shelf.Small.Bits
import Derived.Shelf.Small.Wraps
import Derived.Shelf.Strconv.Itoa0
import Derived.Shelf.Bits.Mul64
import Derived.Ground.Names2Prog
import Derived.Shelf.Slices.SearchI
import Derived.Shelf.Spec.BitsCarry
import Derived.Deep.LoopGhost
import Derived.Deep.RegionHeld3
import Derived.Deep.DeepCutAuto
import Derived.Test.YtepddegphdlbeaaGreatG5
import Derived.Laws.AppendOwnNone
import Derived.Test.YtepddegphdlbeaaGreatG8
import Derived.Test.YtepddegphdlbeaaGreatG7
import Derived.Below
import Derived.Test.YtepddegphdlbeaaGreatG12
import Derived.Test.YtepddegphdlbeaaGreatG9
import Derived.Test.YtepddegphdlbeaaGreatG11
import Derived.Test.YtepddegphdlbeaaGreatG10
import Derived.RangeFuncNested
import Derived.RangeFuncBound
import Derived.RangeFuncCalls
import Derived.RangeFuncLeaves
import Derived.Shelf.Abstract
import Derived.Shelf.RegionOpen
import Derived.OwnWalkIn
import Derived.TacticsInMore
import Derived.LoopNIn
import Derived.LoopIn
import Derived.OrdersIn
import Derived.Deep.RegionHeld
import Derived.Maps.AppendAt
import Derived.Lib.SliceRun
import Derived.IntWalk
import Derived.Test.YtepddegphdlbeaaGreatG13
import Derived.Laws.StructEq
import Derived.Test.YtepddegphdlbeaaGreatG14
import Derived.Test.YtepddegphdlbeaaGreatG15
import Derived.Test.YtepddegphdlbeaaGreatG16
import Derived.Test.YtepddegphdlbeaaGreatRows
import Derived.ProofKit
import Derived.OpenShut
import Derived.ShutString
import Derived.ChangeOld
import Derived.Lib.SmallJoins
import Derived.Deep.SlicePairs
import Derived.Carry
set_option maxRecDepth 100000
set_option maxHeartbeats 16000000
set_option linter.all false
namespace Go.Proofs.YtepddegphdlbeaaGreat
open Go.RowKit
theorem k'9f {a : Bool} {s : ByteArray} (h : vld a s = true) : lenV a s = lenB s := by unfold lenV; rw [h]; simp
end Go.Proofs.YtepddegphdlbeaaGreat
namespace Go.Proofs.YtepddegphdlbeaaGreat
namespace Pl
theorem ev_add (p q : List Int) (x : Int) : ev (add p q) x = ev p x + ev q x := by
 induction p generalizing q with
 | nil => simp [add, ev]
 | cons a p ih =>
  cases q with
  | nil => simp [add, ev]
  | cons b q => simp only [add, ev, ih]; grind
theorem ev_mul (p q : List Int) (x : Int) : ev (mul p q) x = ev p x * ev q x := by
 induction p with
 | nil => simp [mul, ev]
 | cons a p ih => rw [mul, ev_add, ev_scl, ev, ev, ih]; grind
theorem ev_cf {p q : List Int} (h : ∀ k, cf p k = cf q k) (x : Int) : ev p x = ev q x := by
 induction p generalizing q with
 | nil =>
  have h0 : ∀ k, cf q k = 0 := fun k => by rw [← h, cf_nil]
  clear h
  induction q with
  | nil => rfl
  | cons b q ih =>
   have h1 := h0 0
   rw [cf_cons_zero] at h1
   have h2 := ih fun k => by have := h0 (k + 1); rwa [cf_cons_succ] at this
   simp only [ev] at h2 ⊢
   rw [h1, ← h2]; simp
 | cons a p ih =>
  cases q with
  | nil =>
   have h1 := h 0
   rw [cf_cons_zero, cf_nil] at h1
   have h2 := @ih [] fun k => by have := h (k + 1); rwa [cf_cons_succ, cf_nil] at this
   simp only [ev] at h2 ⊢
   rw [h1, h2]; simp
  | cons b q =>
   have h1 := h 0
   rw [cf_cons_zero, cf_cons_zero] at h1
   have h2 := @ih q fun k => by have := h (k + 1); rwa [cf_cons_succ, cf_cons_succ] at this
   rw [ev, ev, h1, h2]
theorem ev_trim (p : List Int) (x : Int) : ev (trim p) x = ev p x := ev_cf (cf_trim p) x
theorem k'c4 {p : List Int} (h : ∀ x : Int, 0 < x → ev p x = 0) (k : Nat) : cf p k = 0 := by
 induction p generalizing k with
 | nil => exact cf_nil k
 | cons a p ih =>
  have ha : a = 0 := by
   have h1 := h (a.natAbs + 1) (by omega)
   rw [ev] at h1
   have hd : ((a.natAbs : Int) + 1) ∣ a := ⟨-(ev p (a.natAbs + 1)), by rw [Int.mul_neg]; omega⟩
   exact Int.eq_zero_of_dvd_of_natAbs_lt_natAbs hd (by omega)
  subst ha
  cases k with
  | zero => exact cf_cons_zero 0 p
  | succ k =>
   rw [cf_cons_succ]
   exact ih (fun x hx => by
    have h1 := h x hx
    rw [ev, Int.zero_add] at h1
    rcases Int.mul_eq_zero.1 h1 with h2 | h2
    ·omega
    ·exact h2) k
theorem k'c5 {p q : List Int} (h : ∀ x : Int, 0 < x → ev p x = ev q x) (k : Nat) : cf p k = cf q k := by
 have := k'c4 (p := add p (scl (-1) q)) (fun x hx => by rw [ev_add, ev_scl, h x hx]; omega) k
 rw [cf_add, cf_scl] at this
 omega
end Pl
namespace Pl
theorem ev_shift (m : Nat) (p : List Int) (x : Int) : ev (shift m p) x = x ^ m * ev p x := by
 induction m with
 | zero => simp [shift]
 | succ m ih =>
  have : shift (m + 1) p = 0 :: shift m p := by simp [shift, List.replicate_succ]
  rw [this, ev, ih, Int.pow_succ]; grind
theorem step_ev {a c : Int} {q r : List Int} (hq : 0 < q.length) (hl : q.length ≤ r.length) (ht : a * lead r = c * lead q) (x : Int) :
 a * ev r x = ev (step a c q r) x + c * x ^ (r.length - q.length) * ev q x := by
 have h1 := ev_cf (p := scl a r) (q := add (step a c q r) (scl c (shift (r.length - q.length) q))) (fun k => by rw [cf_scl, cf_add, cf_scl]; exact step_sum hq hl ht k) x
 rw [ev_scl, ev_add, ev_scl, ev_shift] at h1
 rw [h1, Int.mul_assoc]
theorem prem_ev (q : List Int) (hq : 0 < q.length) (n : Nat) (r : List Int) (h : r.length = n + (q.length - 1)) : ∃ t : List Int, ∀ x, lead q ^ n * ev r x = ev (prem q n r) x + ev t x * ev q x := by
 induction n generalizing r with
 | zero => exact ⟨[], fun x => by simp [prem, ev]⟩
 | succ n ih =>
  obtain ⟨t, ht⟩ := ih (step (lead q) (lead r) q r) (by rw [step_length]; omega)
  refine ⟨add t (scl (lead q ^ n * lead r) (shift (r.length - q.length) [1])), fun x => ?_⟩
  have h1 := step_ev (a := lead q) (c := lead r) hq (by omega : q.length ≤ r.length) (Int.mul_comm _ _) x
  have h2 := ht x
  rw [prem, ev_add, ev_scl, ev_shift, Int.pow_succ]
  simp only [ev]
  generalize x ^ (r.length - q.length) = X at *
  generalize lead q ^ n = L at *
  grind
theorem rest_ev {p q : List Int} (hq : 0 < q.length) (n : Nat) (hn : n = p.length + 1 - q.length) : ∃ t : List Int, ∀ x, lead q ^ n * ev p x = ev (rest p q) x + ev t x * ev q x := by
 subst hn
 unfold rest
 rcases Nat.lt_or_ge p.length q.length with h | h
 ·rw [show p.length + 1 - q.length = 0 by omega]
  exact ⟨[], fun x => by simp [prem, ev, ev_trim]⟩
 ·obtain ⟨t, ht⟩ := prem_ev q hq (p.length + 1 - q.length) p (by omega)
  exact ⟨t, fun x => by rw [ev_trim]; exact ht x⟩
theorem lead_mul {t g : List Int} (ht : t ≠ []) (hg : g ≠ []) : cf (mul t g) (t.length + g.length - 2) = lead t * lead g := by
 have h1 := List.length_pos_iff.2 ht
 have h2 := List.length_pos_iff.2 hg
 have key : ∀ i, i + 1 ≤ t.length → conv t g i (t.length + g.length - 2) = 0 := by
  intro i hi
  induction i with
  | zero => rfl
  | succ i ih =>
   rw [conv, ih (by omega)]
   split
   ·rw [cf_ge (p := g) (by omega)]; simp
   ·rfl
 rw [cf_mul]
 obtain ⟨n, hn⟩ : ∃ n, t.length = n + 1 := ⟨t.length - 1, by omega⟩
 rw [hn, conv]
 have := key n (by omega)
 rw [hn] at this
 rw [this, if_pos (by omega), show n + 1 + g.length - 2 - n = g.length - 1 by omega, Int.zero_add]
 simp [lead, hn]
theorem short_multiple {t q r : List Int} {c : Int} (hq : Nrm q) (h0 : q ≠ []) (hr : r.length < q.length) (hc : c ≠ 0) (h : ∀ x, c * ev r x = ev t x * ev q x) : ∀ k, cf r k = 0 := by
 have hq1 := List.length_pos_iff.2 h0
 have h1 : ∀ k, c * cf r k = cf (mul (trim t) q) k := fun k => by
  rw [← cf_scl]
  exact k'c5 (fun x _ => by rw [ev_scl, ev_mul, ev_trim]; exact h x) k
 by_cases e : trim t = []
 ·intro k
  have := h1 k
  rw [e] at this
  simp only [mul, cf_nil] at this
  exact (Int.mul_eq_zero.1 this).resolve_left hc
 ·have e1 := List.length_pos_iff.2 e
  have h2 := h1 ((trim t).length + q.length - 2)
  rw [lead_mul e h0, cf_ge (p := r) (by omega)] at h2
  exact absurd h2.symm (by rw [Int.mul_zero]; exact Int.mul_ne_zero (lead_ne (nrm_trim t) e) (lead_ne hq h0))
theorem Dv.rest_nil {g p : List Int} (hg : Nrm g) (h0 : g ≠ []) (h : Dv g p) : rest p g = [] := by
 obtain ⟨c, hc, t, ht⟩ := h
 obtain ⟨s, hs⟩ := rest_ev (p := p) (q := g) (List.length_pos_iff.2 h0) _ rfl
 have h1 := short_multiple (t := add (Pl.scl (lead g ^ (p.length + 1 - g.length)) t) (Pl.scl (-c) s)) (r := rest p g) (c := c) hg h0 (rest_length (List.length_pos_iff.2 h0)) hc (fun x => by
  have a1 := ht x
  have a2 := hs x
  rw [ev_add, ev_scl, ev_scl]
  generalize lead g ^ (p.length + 1 - g.length) = L at *
  grind)
 exact nrm_ext (rest_nrm _ _) nrm_nil fun k => by rw [h1, cf_nil]
end Pl
end Go.Proofs.YtepddegphdlbeaaGreat
namespace Go.Proofs.YtepddegphdlbeaaGreat
open Go.RowKit
theorem k'dd {p : List Int} {us : List Value} (h : us.length = p.length) : (rv p us).length = p.length * 2 := by
 induction p generalizing us with
 | nil => cases us with
  | nil => rfl
  | cons u us => simp at h
 | cons z p ih =>
  cases us with
  | nil => simp at h
  | cons u us => simp only [rv, List.length_cons] at h ⊢; rw [ih (by omega)]; omega
theorem k'h6 (w : World) : Rz w (.slice none 0 0) 0 := by
 have h := Ri.nil w
 exact h
theorem k'fz (L1 L2 : List (Bool × ByteArray)) (v1 v2 : Value) (e : Int) (w : World) (h1 : Rw w v1 L1) (h2 : Rw w v2 L2) (z1 : Small L1) (z2 : Small L2) (he : ckd L1 L2 = e) (h0 : e ≠ 0) :
 Calls Tryz.prog 53 #[v1, v2] w (ResE e w) := by
 have HD := i' (k'fd L1 L2 v1 v2 w h1 h2 z1 z2)
 rw [he] at HD
 have n0 : (e == 0) = false := by simpa using h0
 have n1 : (e != 0) = true := by simpa using h0
 clear h1 h2 z1 z2 he h0
 go_enter Tryz.func53, Tryz.ntmps53
 go_wp2_with fail
 refine HD.out.mono ?_
 rintro en w1 ⟨rfl, b1⟩
 have B1 := i' b1
 clear b1
 go_wp2
 go_ret2
 exact ⟨rfl, B1.out⟩
theorem k'j0 (L : List (Bool × ByteArray)) (v : Value) (a b : Bool) (s t : ByteArray) (e : Int) (w : World) (h : Rw w v L) (z : Small L) (z1 : s.size ≤ 140737488351232) (z2 : t.size ≤ 140737488351232) (he : ckv L a s b t = e) (h0 : e ≠ 0) :
 Calls Tryz.prog 42 #[v, rat a s b t] w (Ret (.tuple #[Z 0, .int .i64 e]) w) := by
 obtain ⟨w0, hw0⟩ : ∃ w0 : World, w0 = (w.alloc (.cells #[.bool a, .string s, .bool b, .string t] 59)).alloc (.cells #[.bool false, .string ⟨#[]⟩] 44) := ⟨_, rfl⟩
 have HA0 : Hid (Aw w0 (w.heap.size + 1) [0]) := by
  show Aw _ _ _
  rw [hw0]
  have h5 := Aw.made (w.alloc (.cells #[.bool a, .string s, .bool b, .string t] 59)) [0]
  rw [World.size_alloc] at h5
  exact h5
 have c0 : w0.cell? ⟨w.heap.size, 0, none⟩ = some (.bool a) := by rw [hw0]; simp [go_sem]
 have c1 : w0.cell? ⟨w.heap.size, 1, none⟩ = some (.string s) := by rw [hw0]; simp [go_sem]
 have c2 : w0.cell? ⟨w.heap.size, 2, none⟩ = some (.bool b) := by rw [hw0]; simp [go_sem]
 have c3 : w0.cell? ⟨w.heap.size, 3, none⟩ = some (.string t) := by rw [hw0]; simp [go_sem]
 have B0 : Hid (Below w.heap.size w w0) := by show Below _ _ _; rw [hw0]; exact ((Below.refl _ _).alloc (Nat.le_refl _) _).alloc (by simp) _
 have HD := i' (k'ir L v a b s t w0 (h.below B0.out) z z1 z2)
 rw [he] at HD
 have n0 : (e == 0) = false := by simpa using h0
 have n1 : (e != 0) = true := by simpa using h0
 unfold rat at HD ⊢
 clear h z z1 z2 he h0
 go_enter Tryz.func42, Tryz.ntmps42
 go_wp2_with fail
 rw [← hw0]
 clear hw0
 refine HD.out.mono ?_
 rintro en w1 ⟨rfl, b1⟩
 have B1 := i' (chain B0.out b1)
 have HA1 := i' (HA0.out.below b1)
 obtain ⟨e0, e1⟩ := HA1.out.cell 0 (by simp)
 simp only [Nat.zero_mul, Nat.zero_add, List.getElem_cons_zero] at e0 e1
 have f0 := HA1.out.free 0
 have f1 := HA1.out.free 1
 have HB8 := i' ((B1.out.setCell (p := ⟨w.heap.size + 1, 0, none⟩) (by simp) (.bool false)).setCell (p := ⟨w.heap.size + 1, 1, none⟩) (by simp) (.string ⟨#[]⟩))
 clear b1 c0 c1 c2 c3
 go_wp2
 exact bodyPost_ret (v := .tuple #[Z 0, .int .i64 e]) (by simp [results, Tryz.results42, go_sem, e0, e1]; exact ⟨rfl, rfl⟩) rfl ⟨rfl, HB8.out⟩
def WrC (w : World) (g : Nat) (l : List Nat) : Prop := ∀ k (h : k < l.length), w.cell? ⟨g, k, none⟩ = some (.int .u8 (l[k] : Int)) ∧ w.frozen? ⟨g, k, none⟩ = false
theorem WrC.set {w : World} {g : Nat} {l : List Nat} (h : WrC w g l) (k n : Nat) : WrC (w.setCell ⟨g, k, none⟩ (.int .u8 (n : Int))) g (l.set k n) := by
 intro j hj
 have hj2 : j < l.length := by simpa using hj
 obtain ⟨h1, h2⟩ := h j hj2
 have hc := h1
 by_cases hjk : j = k
 ·subst hjk
  refine ⟨?_, by simpa [go_sem] using h2⟩
  simp only [List.getElem_set_self]
  simp [go_sem, h1]
 ·refine ⟨?_, by simpa [go_sem] using h2⟩
  rw [List.getElem_set_ne (fun e => hjk e.symm)]
  have hkj : ¬ k = j := fun e => hjk e.symm
  simp [go_sem, h1, hjk, hkj]
theorem k'q0 {w : World} {g cap n : Nat} {l : List Nat} (hn : n = l.length) (h : WrC w g l) (hb : ∀ x ∈ l, x < 256) :
 (convert 112 9 (.slice (some ⟨g, 0, none⟩) n cap)).run Tryz.prog w = .ok (.string ⟨(l.map UInt8.ofNat).toArray⟩) w := by
 subst hn
 have hlen : (l.map UInt8.ofNat).length = l.length := by simp
 have := run_convert_bytes_back (P := Tryz.prog) w 112 9 5 ⟨g, 0, none⟩ cap (l.map UInt8.ofNat) Tryz.underlying112 Tryz.underlying5 Tryz.underlying9 (fun j hj => by
  have hjn : j < l.length := by rw [hlen] at hj; exact hj
  have hadd : ((⟨g, 0, none⟩ : Addr).add j) = ⟨g, j, none⟩ := by unfold Addr.add; split <;> simp_all
  rw [hadd, (h j hjn).1]
  have e2 : l[j] < 256 := hb _ (List.getElem_mem _)
  rw [List.getElem_map]
  congr 2
  simp [UInt8.toNat_ofNat', Nat.mod_eq_of_lt e2])
 rw [hlen] at this
 exact this
theorem k'q1 (k r : Nat) (hr : r < 8) : Nm.dg 256 (2 ^ (8 * k + r)) = List.replicate k 0 ++ [2 ^ r] := by
 have hr2 : 2 ^ r < 256 := Nat.lt_of_lt_of_le (Nat.pow_lt_pow_right (by decide) hr) (by decide)
 have hd : Nm.Dig 256 (List.replicate k 0 ++ [2 ^ r]) := by
  intro x hx
  rcases List.mem_append.1 hx with h | h
  ·have := List.eq_of_mem_replicate h; omega
  ·have : x = 2 ^ r := by simpa using h
   omega
 have hn : Nm.Nrm (List.replicate k 0 ++ [2 ^ r]) := by
  have h0 : (2 : Nat) ^ r ≠ 0 := Nat.ne_of_gt (Nat.pow_pos (by decide))
  clear hd hr hr2
  induction k with
  | zero => exact h0
  | succ k ih =>
   rw [List.replicate_succ, List.cons_append]
   cases h : List.replicate k 0 ++ [2 ^ r] with
   | nil => simp at h
   | cons y l => rw [h] at ih; exact ih
 have hv : Nm.val 256 (List.replicate k 0 ++ [2 ^ r]) = 2 ^ (8 * k + r) := by
  clear hd hn
  rw [Nat.pow_add, Nat.pow_mul, show (2 : Nat) ^ 8 = 256 from rfl]
  induction k with
  | zero => simp [Nm.val]
  | succ k ih =>
   rw [List.replicate_succ, List.cons_append, Nm.val, ih, Nat.pow_succ]
   grind
 rw [← hv]
 exact (Nm.eq_dg (by decide) hd hn).symm
theorem k'q2 (k r : Nat) (hr : r < 8) : zs ((2 ^ (8 * k + r) : Nat) : Int) = ⟨((2 ^ r :: List.replicate k 0).map UInt8.ofNat).toArray⟩ := by
 unfold zs bs
 rw [Int.natAbs_natCast, k'q1 k r hr, List.reverse_append, List.reverse_replicate]
 rfl
theorem k'q3 (n : Nat) : zb ((2 ^ n : Nat) : Int) = false := by
 unfold zb
 exact decide_eq_false (Int.not_lt.2 (Int.natCast_nonneg _))
theorem k'q4 (k r : Nat) (hr : r < 8) (hk : k ≤ 8191) (w : World) : Calls Tryz.prog 59 #[.int .i64 ((8 * k + r : Nat) : Int)] w (Ret (.agg #[.bool (zb ((2 ^ (8 * k + r) : Nat) : Int)), .string (zs ((2 ^ (8 * k + r) : Nat) : Int))]) w) := by
 rw [k'q2 k r hr, k'q3]
 obtain ⟨w0, hw0⟩ : ∃ w0 : World, w0 = w.alloc (.cells #[.bool false, .string ⟨#[]⟩] 44) := ⟨_, rfl⟩
 have I2 : Hid (ZC (.bool false) (.string ⟨#[]⟩) w0 w.heap.size) := by rw [hw0]; exact ZC.new rfl
 have E : Hid (Below w.heap.size w w0) := by rw [hw0]; exact k'56 _ _
 have Hsz : Hid (w0.heap.size = w.heap.size + 1) := by show _ = _; rw [hw0]; simp
 obtain ⟨n, hn⟩ : ∃ n : Nat, n = 8 * k + r := ⟨_, rfl⟩
 rw [← hn]
 have hq : (n : Int) / 8 = (k : Int) := by omega
 have hm : (n : Int) % 8 = (r : Int) := by omega
 have hq2 : Int.tdiv (n : Int) 8 = (k : Int) := by rw [Int.tdiv_eq_ediv_of_nonneg (by omega)]; exact hq
 have hm2 : Int.tmod (n : Int) 8 = (r : Int) := by rw [Int.tmod_eq_emod_of_nonneg (by omega)]; exact hm
 obtain ⟨M, hM⟩ : ∃ M : Nat, M = k + 1 := ⟨_, rfl⟩
 have hk1 : (k : Int) + 1 = (M : Int) := by omega
 have hmk := k'3w M w0 (by omega)
 have hM9 : M ≤ 8192 := by omega
 have hn9 : (n : Int) ≤ 70000 := by omega
 have HM := i' hM
 have HN := i' hn
 clear hn hM
 obtain ⟨u, hu⟩ : ∃ u : World, u = w0.alloc (.cells (bvl (List.replicate M 0)).toArray 5) := ⟨_, rfl⟩
 have WR : Hid (WrC u w0.heap.size (List.replicate M 0)) := by
  show WrC _ _ _
  rw [hu]
  intro j hj
  have hb := heap_alloc_new w0 (.cells (bvl (List.replicate M 0)).toArray 5)
  refine ⟨?_, frozen_of_row _ _ _ _ _ hb⟩
  rw [cell_of_row _ _ j _ _ _ hb]
  simpa using k'7r (List.replicate M 0) j hj
 have E2 : Hid (Below w0.heap.size w0 u) := by rw [hu]; exact k'56 _ _
 rw [← hu] at hmk
 have hc0 := (WR.out 0 (by simp; have := HM.out; omega))
 rw [List.getElem_replicate] at hc0
 obtain ⟨hc1, hc2⟩ := hc0
 obtain ⟨b, hb⟩ : ∃ b : Nat, b = 2 ^ r := ⟨_, rfl⟩
 have hb8 : b < 256 := by rw [hb]; exact Nat.lt_of_lt_of_le (Nat.pow_lt_pow_right (by decide) hr) (by decide)
 have hp : (2 : Int) ^ r % 256 = (b : Int) := by
  have : (2 : Int) ^ r = (b : Int) := by rw [hb]; simp
  rw [this]; omega
 have WS := WR.out.set 0 b
 have hl : (List.replicate M 0).set 0 b = b :: List.replicate k 0 := by rw [HM.out, List.replicate_succ, List.set_cons_zero]
 rw [hl] at WS
 have hcv := k'q0 (cap := M) (n := M) (l := b :: List.replicate k 0) (by rw [HM.out]; simp) WS (fun x hx => by
  rcases List.mem_cons.1 hx with h | h
  ·omega
  ·have := List.eq_of_mem_replicate h; omega)
 rw [← hb]
 generalize (⟨((b :: List.replicate k 0).map UInt8.ofNat).toArray⟩ : ByteArray) = st at *
 have n1 : ¬ w.heap.size = w0.heap.size := by have := Hsz.out; omega
 have n2 : ¬ w0.heap.size = w.heap.size := fun e => n1 e.symm
 obtain ⟨i0, i1, i2, i3⟩ := I2.out.next E2.out
 have HB := i' hb
 clear hb WS hl WR
 have Hw0 := i' hw0
 clear hw0 hu
 unfold Ret at *
 go_enter Tryz.func59, Tryz.ntmps59
 go_upto_region 1 with (fail)
 rw [← Hw0.out]
 go_wp2
 have HZ : Hid (Below w.heap.size w (((u.setCell ⟨w0.heap.size, 0, none⟩ (.int .u8 (b : Int))).setCell ⟨w.heap.size, 0, none⟩ (.bool false)).setCell ⟨w.heap.size, 1, none⟩ (.string st))) :=
  (((chain E.out E2.out).setCell (p := ⟨w0.heap.size, 0, none⟩) (by have := Hsz.out; simp; omega) _).setCell (p := ⟨w.heap.size, 0, none⟩) (Nat.le_refl _) _).setCell (p := ⟨w.heap.size, 1, none⟩) (Nat.le_refl _) _
 exact bodyPost_ret (v := .agg #[.bool false, .string st]) (by simp [results, Tryz.results59, go_sem, i0, i1, n1, n2]) rfl ⟨rfl, HZ.out⟩
theorem k'q5 (n : Nat) (hn : n ≤ 65535) (w : World) : Calls Tryz.prog 59 #[.int .i64 (n : Int)] w (Ret (.agg #[.bool (zb ((2 ^ n : Nat) : Int)), .string (zs ((2 ^ n : Nat) : Int))]) w) := by
 have h := k'q4 (n / 8) (n % 8) (by omega) (by omega) w
 rwa [show 8 * (n / 8) + n % 8 = n by omega] at h
theorem k'g8 (c B : Nat) (p q : List Int) (v1 v2 : Value) (w w0 : World) (h1 : Rp w v1 p) (h2 : Rp w v2 q) (hp : VP p) (hq : VP q) (hc : Ck w c 0) (hb0 : Below w0.heap.size w0 w) (hcw : w0.heap.size ≤ c) :
 Calls Tryz.prog 77 #[.pointer (some ⟨c, 0, none⟩), v1, v2, .func (.func 78) #[.pointer (some ⟨c, 0, none⟩)] #[]] w (CmbPost_add p q w0) := by
 have HV1 := i' (k'd9 p v1 w h1 hp)
 have HV2 := i' (fun w' (hb : Below w.heap.size w w') => k'd9 q v2 w' (h2.below hb) hq)
 have l1 := hp.len
 have l2 := hq.len
 have HC : Hid (∀ w', Below w.heap.size w w' → Calls Tryz.prog 118 #[v1, v2, .func (.func 78) #[.pointer (some ⟨c, 0, none⟩)] #[]] w' (BPoly (clipL (· + ·) p q) c (chainE (fun k => Pl.cf p k + Pl.cf q k) (max p.length q.length)) w')) := fun w' hb => by
  have h5 := k'fr c p q (clipL (· + ·) p q) v1 v2 w' (chainE fun k => Pl.cf p k + Pl.cf q k) (h1.below hb) (h2.below hb) (hc.below hb) (k'g1 _ _ _) (by rw [k'g1]; omega)
   (fun k wr hk hck => by rw [k'g2 _ _ _ _ hk]; exact k'cv c (Pl.cf p k) (Pl.cf q k) _ wr hck (hp.cf_top k) (hq.cf_top k))
  rw [k'g1] at h5
  exact h5
 have HT := i' (fun v w' h => k'dx v (clipL (· + ·) p q) w' h (k'g3 (· + ·) p q))
 have HRes : Hid ((chainE (fun k => Pl.cf p k + Pl.cf q k) (max p.length q.length) = 0 ∧ (∀ k, (Pl.cf p k + Pl.cf q k).natAbs < Top) ∧ clipL (· + ·) p q = zipL (· + ·) p q) ∨ (chainE (fun k => Pl.cf p k + Pl.cf q k) (max p.length q.length) = 7 ∧ ∃ k, ¬ (Pl.cf p k + Pl.cf q k).natAbs < Top)) := by
  by_cases h : ∀ k, (Pl.cf p k + Pl.cf q k).natAbs < Top
  ·exact Or.inl ⟨k'g5 h _, h, k'g4 h⟩
  ·obtain ⟨k, hk⟩ := Classical.not_forall.1 h
   refine Or.inr ⟨k'g6 hk _ ?_, k, hk⟩
   rcases Nat.lt_or_ge k (max p.length q.length) with g | g
   ·exact g
   ·exfalso
    rw [Pl.cf_ge (by omega), Pl.cf_ge (by omega)] at hk
    exact hk (Nat.lt_of_le_of_lt (by simp) (Nat.lt_of_lt_of_le W0 W_Top))
 obtain ⟨ev, hev⟩ : ∃ ev, ev = chainE (fun k => Pl.cf p k + Pl.cf q k) (max p.length q.length) := ⟨_, rfl⟩
 rw [← hev] at HC HRes
 obtain ⟨rl, hrl⟩ : ∃ rl, rl = clipL (· + ·) p q := ⟨_, rfl⟩
 rw [← hrl] at HC HRes HT
 have HB0 := i' hb0
 have HCk := i' hc
 clear h1 h2 hp hq hc l1 l2 hev hrl hb0
 go_enter Tryz.func77, Tryz.ntmps77
 go_wp2_with fail
 refine HV1.out.mono ?_
 rintro e w1 ⟨rfl, b1⟩
 have B1 := i' b1
 clear b1
 go_wp2_with fail
 refine (HV2.out _ B1.out).mono ?_
 rintro e w2 ⟨rfl, b2⟩
 have B2 := i' (chain B1.out b2)
 clear b2
 go_wp2_with fail
 refine (HC.out _ B2.out).mono ?_
 rintro e w3 ⟨v3, rfl, r3, b3, k3⟩
 have B3 := i' ((HB0.out.trans (B2.out.mono HB0.out.size)).trans (b3.lowC hcw (HCk.out.below B2.out).lt))
 have K3 := i' k3
 have R3 := i' r3
 clear b3 k3 r3
 go_wp2_with fail
 refine (HT.out _ _ R3.out).mono ?_
 rintro e w4 ⟨v4, rfl, r4, b4⟩
 obtain ⟨a4, bb4, o4, c4, rfl, -⟩ := r4.open_
 have B4 := i' (chain B3.out b4)
 have K4 := i' (K3.out.below b4)
 have R4 := i' r4
 clear b4 r4
 rcases HRes.out with ⟨e1, e2, e3⟩ | ⟨e1, e2⟩
 ·rw [e1] at K4
  have HE := i' (And.intro e2 e3)
  clear e1 e2 e3
  go_wp2_with fail
  refine (k'dy _ _ _ _ _ K4.out).mono ?_
  rintro en w5 ⟨rfl, b5⟩
  have B5 := i' (chain B4.out b5)
  have R5 := i' (R4.out.below b5)
  clear b5
  go_wp2
  go_ret2
  exact Or.inl ⟨HE.out.1, _, rfl, by rw [← HE.out.2]; exact R5.out, B5.out⟩
 ·rw [e1] at K4
  have HE := i' e2
  clear e1 e2
  go_wp2_with fail
  refine (k'dz _ _ 7 (by decide) _ K4.out).mono ?_
  rintro en w5 ⟨rfl, b5⟩
  have B5 := i' (chain B4.out b5)
  clear b5
  go_wp2
  go_ret2
  exact Or.inr ⟨HE.out, rfl, B5.out⟩
theorem k'ga (p q : List Int) (v1 v2 : Value) (w : World) (h1 : Rp w v1 p) (h2 : Rp w v2 q) (hp : VP p) (hq : VP q) :
 Calls Tryz.prog 25 #[v1, v2] w (CmbPost_add p q w) := by
 obtain ⟨w0, hw0⟩ : ∃ w0 : World, w0 = w.alloc (.cells #[.int .i64 0] 96) := ⟨_, rfl⟩
 have B0 : Hid (Below w.heap.size w w0) := by show Below _ _ _; rw [hw0]; exact (Below.refl _ _).alloc (Nat.le_refl _) _
 have HK : Ck w0 w.heap.size 0 := by rw [hw0]; exact heap_alloc_new w _
 have HR := i' (k'g8 w.heap.size 0 p q v1 v2 w0 w (h1.below B0.out) (h2.below B0.out) hp hq HK B0.out (Nat.le_refl _))
 clear h1 h2 hp hq HK
 go_enter Tryz.func25, Tryz.ntmps25
 go_wp2_with fail
 rw [← hw0]
 clear hw0
 refine HR.out.mono ?_
 rintro en w1 (⟨h5, v5, rfl, r5, b5⟩ | ⟨h5, rfl, b5⟩)
 ·obtain ⟨a5, bb5, o5, c5, rfl, -⟩ := r5.open_
  have H5 := i' (And.intro h5 (And.intro r5 b5))
  clear h5 r5 b5
  go_wp2
  go_ret2
  exact Or.inl ⟨H5.out.1, _, rfl, H5.out.2.1, H5.out.2.2⟩
 ·have H5 := i' (And.intro h5 b5)
  clear h5 b5
  go_wp2
  go_ret2
  exact Or.inr ⟨H5.out.1, rfl, H5.out.2⟩
theorem k'gv (L1 L2 : List (Bool × ByteArray)) (v1 v2 : Value) (e : Int) (w : World) (h1 : Rw w v1 L1) (h2 : Rw w v2 L2) (z1 : Small L1) (z2 : Small L2) (he : ckm L1 L2 = e) (h0 : e ≠ 0) :
 Calls Tryz.prog 27 #[v1, v2] w (ResE e w) := by
 have HV1 := i' (fun w' (hb : Below w.heap.size w w') => k'd6 L1 v1 w' (h1.below hb) z1)
 have HV2 := i' (fun w' (hb : Below w.heap.size w w') => k'd6 L2 v2 w' (h2.below hb) z2)
 have HD1 := i' (fun w' (hb : Below w.heap.size w w') => k'da L1 v1 w' (h1.below hb))
 have HD2 := i' (fun w' (hb : Below w.heap.size w w') => k'da L2 v2 w' (h2.below hb))
 have HG1 := i' (fun w' (hb : Below w.heap.size w w') => k'dc L1 v1 w' (h1.below hb) z1)
 have HG2 := i' (fun w' (hb : Below w.heap.size w w') => k'dc L2 v2 w' (h2.below hb) z2)
 have G1 := k'fb L1
 have G2 := k'fb L2
 have L1b := k'fc (L := L1)
 have L2b := k'fc (L := L2)
 unfold ckm at he
 obtain ⟨p1, b1, o1, c1, rfl, -, -, -, -⟩ := h1
 obtain ⟨p2, b2, o2, c2, rfl, -, -, -, -⟩ := h2
 clear z1 z2
 generalize vldP L1 = x1 at *
 generalize vldP L2 = x2 at *
 generalize glb L1 = g1 at *
 generalize glb L2 = g2 at *
 generalize L1.length = n1 at *
 generalize L2.length = n2 at *
 cases x1
 ·have HR : Hid (e = 2) := he.symm
  clear he L1b L2b
  go_enter Tryz.func27, Tryz.ntmps27
  go_wp2_with fail
  refine (HV1.out _ (Below.refl _ _)).mono ?_
  rintro e w1 ⟨rfl, b1⟩
  have B1 := i' (b1)
  clear b1
  go_wp2
  go_ret2
  exact ⟨by rw [HR.out]; rfl, B1.out⟩
 have hn1 := L1b rfl
 clear L1b
 cases x2
 ·have HR : Hid (e = 2) := he.symm
  clear he L2b
  go_enter Tryz.func27, Tryz.ntmps27
  go_wp2_with fail
  refine (HV1.out _ (Below.refl _ _)).mono ?_
  rintro e w1 ⟨rfl, b1⟩
  have B1 := i' (b1)
  clear b1
  go_wp2_with fail
  refine (HV2.out _ B1.out).mono ?_
  rintro e w2 ⟨rfl, b2⟩
  have B2 := i' (chain B1.out b2)
  clear b2
  go_wp2
  go_ret2
  exact ⟨by rw [HR.out]; rfl, B2.out⟩
 have hn2 := L2b rfl
 clear L2b
 rw [show (true && true) = true from rfl, if_pos rfl] at he
 by_cases hz : n1 = 0 ∨ n2 = 0
 ·rw [if_pos hz] at he
  exact absurd he.symm h0
 rw [if_neg hz] at he
 have hz1 : ((n1 : Int) == 0) = false := by simp; omega
 have hz2 : ((n2 : Int) == 0) = false := by simp; omega
 by_cases hd : (n1 : Int) - 1 + ((n2 : Int) - 1) > 24
 ·rw [if_pos (Or.inl hd)] at he
  have HR : Hid (e = 7) := he.symm
  obtain ⟨sd, hsd⟩ : ∃ sd : Int, (n1 : Int) - 1 + ((n2 : Int) - 1) = sd := ⟨_, rfl⟩
  have hs1 : 24 < sd ∧ sd ≤ 48 := by omega
  have hs2 : IntKind.i64.wrap sd = sd := IntWalk.i64_in _ (by omega)
  have hs3 : decide (24 < sd) = true := decide_eq_true hs1.1
  clear he hd hz
  go_enter Tryz.func27, Tryz.ntmps27
  go_wp2_with fail
  refine (HV1.out _ (Below.refl _ _)).mono ?_
  rintro e w1 ⟨rfl, b1⟩
  have B1 := i' (b1)
  clear b1
  go_wp2_with fail
  refine (HV2.out _ B1.out).mono ?_
  rintro e w2 ⟨rfl, b2⟩
  have B2 := i' (chain B1.out b2)
  clear b2
  go_wp2_with fail
  refine (HD1.out _ B2.out).mono ?_
  rintro e w3 ⟨rfl, b3⟩
  have B3 := i' (chain B2.out b3)
  clear b3
  go_wp2_with fail
  refine (HD2.out _ B3.out).mono ?_
  rintro e w4 ⟨rfl, b4⟩
  have B4 := i' (chain B3.out b4)
  clear b4
  go_wp2
  go_ret2
  exact ⟨by rw [HR.out]; rfl, B4.out⟩
 ·by_cases hb : g1 + g2 + 5 > 65536
  ·rw [if_pos (Or.inr hb)] at he
   have HR : Hid (e = 7) := he.symm
   have hs3 : decide (24 < (n1 : Int) - 1 + ((n2 : Int) - 1)) = false := by rw [decide_eq_false_iff_not]; omega
   have hs4 : decide (65536 < g1 + g2 + 5) = true := decide_eq_true hb
   clear he hz
   go_enter Tryz.func27, Tryz.ntmps27
   go_wp2_with fail
   refine (HV1.out _ (Below.refl _ _)).mono ?_
   rintro e w1 ⟨rfl, b1⟩
   have B1 := i' (b1)
   clear b1
   go_wp2_with fail
   refine (HV2.out _ B1.out).mono ?_
   rintro e w2 ⟨rfl, b2⟩
   have B2 := i' (chain B1.out b2)
   clear b2
   go_wp2_with fail
   refine (HD1.out _ B2.out).mono ?_
   rintro e w3 ⟨rfl, b3⟩
   have B3 := i' (chain B2.out b3)
   clear b3
   go_wp2_with fail
   refine (HD2.out _ B3.out).mono ?_
   rintro e w4 ⟨rfl, b4⟩
   have B4 := i' (chain B3.out b4)
   clear b4
   go_wp2_with fail
   refine (HG1.out _ B4.out).mono ?_
   rintro e w5 ⟨rfl, b5⟩
   have B5 := i' (chain B4.out b5)
   clear b5
   go_wp2_with fail
   refine (HG2.out _ B5.out).mono ?_
   rintro e w6 ⟨rfl, b6⟩
   have B6 := i' (chain B5.out b6)
   clear b6
   go_wp2
   go_ret2
   exact ⟨by rw [HR.out]; rfl, B6.out⟩
  ·rw [if_neg (by omega)] at he
   exact absurd he.symm h0
theorem k'i6 (f : Int → Int → Int) (h0 : f 0 0 = 0) (p q : List Int) (k : Nat) : Pl.cf (zipL f p q) k = f (Pl.cf p k) (Pl.cf q k) := by
 by_cases g : k < (zipL f p q).length
 ·rw [Pl.cf_lt g]; simp [zipL]
 ·rw [Pl.cf_ge (by omega)]
  have : ¬ k < max p.length q.length := by simpa [zipL] using g
  rw [Pl.cf_ge (p := p) (by omega), Pl.cf_ge (p := q) (by omega), h0]
theorem k'i7 (p q : List Int) : Pl.trim (zipL (· + ·) p q) = Pl.trim (Pl.add p q) :=
 Pl.nrm_ext (Pl.nrm_trim _) (Pl.nrm_trim _) fun k => by rw [Pl.cf_trim, Pl.cf_trim, k'i6 _ (by decide), Pl.cf_add]
theorem k'ic (L : List (Bool × ByteArray)) (B : Int) (hB : 0 ≤ B) (h : ∀ x ∈ L, lenV x.1 x.2 ≤ B) : glb L ≤ B := by
 have key : ∀ (L : List (Bool × ByteArray)) (m : Int), m ≤ B → (∀ x ∈ L, lenV x.1 x.2 ≤ B) → L.foldl (fun m x => max m (lenV x.1 x.2)) m ≤ B := by
  intro L
  induction L with
  | nil => intro m hm _; exact hm
  | cons x L ih =>
   intro m hm hx
   refine ih _ ?_ (fun y hy => hx y (List.mem_cons_of_mem _ hy))
   have := hx x List.mem_cons_self
   show max m (lenV x.1 x.2) ≤ B
   omega
 exact key L 0 hB h
theorem k'jv (L1 L2 : List (Bool × ByteArray)) (v1 v2 : Value) (e : Int) (w : World) (h1 : Rw w v1 L1) (h2 : Rw w v2 L2) (z1 : Small L1) (z2 : Small L2) (he : ckg L1 L2 = e) (h0 : e ≠ 0) :
 Calls Tryz.prog 55 #[v1, v2] w (ResE e w) := by
 have HV1 := i' (fun w' (hb : Below w.heap.size w w') => k'd6 L1 v1 w' (h1.below hb) z1)
 have HV2 := i' (fun w' (hb : Below w.heap.size w w') => k'd6 L2 v2 w' (h2.below hb) z2)
 have HD1 := i' (fun w' (hb : Below w.heap.size w w') => k'da L1 v1 w' (h1.below hb))
 have HD2 := i' (fun w' (hb : Below w.heap.size w w') => k'da L2 v2 w' (h2.below hb))
 have HG1 := i' (fun w' (hb : Below w.heap.size w w') => k'dc L1 v1 w' (h1.below hb) z1)
 have HG2 := i' (fun w' (hb : Below w.heap.size w w') => k'dc L2 v2 w' (h2.below hb) z2)
 have G1 := k'fb L1
 have G2 := k'fb L2
 have L1b := k'fc (L := L1)
 have L2b := k'fc (L := L2)
 unfold ckg at he
 obtain ⟨p1, b1, o1, c1, rfl, -, -, -, -⟩ := h1
 obtain ⟨p2, b2, o2, c2, rfl, -, -, -, -⟩ := h2
 clear z1 z2
 generalize vldP L1 = x1 at *
 generalize vldP L2 = x2 at *
 generalize glb L1 = g1 at *
 generalize glb L2 = g2 at *
 generalize L1.length = n1 at *
 generalize L2.length = n2 at *
 cases x1
 ·have HR : Hid (e = 2) := he.symm
  clear he L1b L2b
  go_enter Tryz.func55, Tryz.ntmps55
  go_wp2_with fail
  refine (HV1.out _ (Below.refl _ _)).mono ?_
  rintro e w1 ⟨rfl, b1⟩
  have B1 := i' (b1)
  clear b1
  go_wp2
  go_ret2
  exact ⟨by rw [HR.out]; rfl, B1.out⟩
 have hn1 := L1b rfl
 clear L1b
 cases x2
 ·have HR : Hid (e = 2) := he.symm
  clear he L2b
  go_enter Tryz.func55, Tryz.ntmps55
  go_wp2_with fail
  refine (HV1.out _ (Below.refl _ _)).mono ?_
  rintro e w1 ⟨rfl, b1⟩
  have B1 := i' (b1)
  clear b1
  go_wp2_with fail
  refine (HV2.out _ B1.out).mono ?_
  rintro e w2 ⟨rfl, b2⟩
  have B2 := i' (chain B1.out b2)
  clear b2
  go_wp2
  go_ret2
  exact ⟨by rw [HR.out]; rfl, B2.out⟩
 have hn2 := L2b rfl
 clear L2b
 rw [show (true && true) = true from rfl, if_pos rfl] at he
 have HH := he
 clear he
 obtain ⟨sd, hsd⟩ : ∃ sd : Int, max ((n1 : Int) - 1) ((n2 : Int) - 1) = sd := ⟨_, rfl⟩
 obtain ⟨gb, hgb⟩ : ∃ gb : Int, max g1 g2 = gb := ⟨_, rfl⟩
 rw [hsd, hgb] at HH
 have hsd1 : -1 ≤ sd ∧ sd ≤ 24 := by omega
 have hgb1 : 0 ≤ gb ∧ gb ≤ 65536 := by omega
 obtain ⟨s2, hs2⟩ : ∃ s2 : Int, (sd + 3) * (sd + 3) = s2 := ⟨_, rfl⟩
 have hs21 : 0 ≤ s2 ∧ s2 ≤ 27 * 27 := by
  have h1 := Int.mul_le_mul (show sd + 3 ≤ 27 by omega) (show sd + 3 ≤ 27 by omega) (by omega) (by omega)
  have h2 := Int.mul_nonneg (show 0 ≤ sd + 3 by omega) (show 0 ≤ sd + 3 by omega)
  omega
 obtain ⟨m, hm⟩ : ∃ m : Int, s2 * (gb + 8) = m := ⟨_, rfl⟩
 have hm1 : 0 ≤ m ∧ m ≤ 27 * 27 * 65544 := by
  have h1 := Int.mul_le_mul hs21.2 (show gb + 8 ≤ 65544 by omega) (by omega) (by omega)
  have h2 := Int.mul_nonneg hs21.1 (show 0 ≤ gb + 8 by omega)
  omega
 have w1' : IntKind.i64.wrap ((sd + 3) * (sd + 3)) = s2 := by rw [hs2]; exact IntWalk.i64_in _ (by omega)
 have w2' : IntKind.i64.wrap (s2 * (gb + 8)) = m := by rw [hm]; exact IntWalk.i64_in _ (by omega)
 rw [hs2, hm] at HH
 by_cases hz : 0 < n1 ∧ 0 < n2 ∧ m > 65536
 ·rw [if_pos hz] at HH
  obtain ⟨hz1, hz2, hz3⟩ := hz
  have HR : Hid (e = 7) := HH.symm
  have hz4 : decide (65536 < m) = true := decide_eq_true hz3
  clear HH hs2 hm
  go_enter Tryz.func55, Tryz.ntmps55
  go_wp2_with fail
  refine (HV1.out _ (Below.refl _ _)).mono ?_
  rintro e w1 ⟨rfl, b1⟩
  have B1 := i' (b1)
  clear b1
  go_wp2_with fail
  refine (HV2.out _ B1.out).mono ?_
  rintro e w2 ⟨rfl, b2⟩
  have B2 := i' (chain B1.out b2)
  clear b2
  go_wp2_with fail
  refine (HD1.out _ B2.out).mono ?_
  rintro e w3 ⟨rfl, b3⟩
  have B3 := i' (chain B2.out b3)
  clear b3
  go_wp2_with fail
  refine (HD2.out _ B3.out).mono ?_
  rintro e w4 ⟨rfl, b4⟩
  have B4 := i' (chain B3.out b4)
  clear b4
  go_wp2_with fail
  refine (HG1.out _ B4.out).mono ?_
  rintro e w5 ⟨rfl, b5⟩
  have B5 := i' (chain B4.out b5)
  clear b5
  go_wp2_with fail
  refine (HG2.out _ B5.out).mono ?_
  rintro e w6 ⟨rfl, b6⟩
  have B6 := i' (chain B5.out b6)
  clear b6
  go_wp2
  go_ret2
  exact ⟨by rw [HR.out]; rfl, B6.out⟩
 ·rw [if_neg hz] at HH
  exact absurd HH.symm h0
theorem k'kj (L : List (Bool × ByteArray)) (v : Value) (a b d : Bool) (s t u : ByteArray) (e : Int) (w : World) (h : Rw w v L) (z : Small L) (za : s.size ≤ 140737488351232) (zb' : t.size ≤ 140737488351232) (zd : u.size ≤ 140737488351232) (he : ckc L a s b t d u = e) (h0 : e ≠ 0) :
 Calls Tryz.prog 51 #[v, .agg #[.bool a, .string s], .agg #[.bool b, .string t], .agg #[.bool d, .string u]] w (ResE e w) := by
 obtain ⟨w0, hw0⟩ : ∃ w0 : World, w0 = ((w.alloc (.cells #[.bool a, .string s] 44)).alloc (.cells #[.bool b, .string t] 44)).alloc (.cells #[.bool d, .string u] 44) := ⟨_, rfl⟩
 have B0 : Hid (Below w.heap.size w w0) := by show Below _ _ _; rw [hw0]; exact (((Below.refl _ _).alloc (Nat.le_refl _) _).alloc (by simp) _).alloc (by simp; omega) _
 have C0 : Hid (Bw2 w0 w.heap.size a s ∧ Bw2 w0 (w.heap.size + 1) b t ∧ Bw2 w0 (w.heap.size + 1 + 1) d u) := by
  rw [hw0]
  exact ⟨⟨by simp [go_sem], by simp [go_sem]⟩, ⟨by simp [go_sem], by simp [go_sem]⟩, ⟨by simp [go_sem], by simp [go_sem]⟩⟩
 have HV := i' (k'd6 L v w0 (h.below B0.out) z)
 have HVa := i' (fun w => k'3z a s w za)
 have HVb := i' (fun w => k'3z b t w zb')
 have HVd := i' (fun w => k'3z d u w zd)
 have HSg := i' (fun w => k'4k d u w zd)
 have HG := i' (fun v w h => k'dc [(a, s), (b, t), (d, u)] v w h (by intro x hx; simp at hx; rcases hx with rfl | rfl | rfl <;> assumption))
 have G3 := k'fb [(a, s), (b, t), (d, u)]
 have HTl := i' (fun w' (hb : Below w.heap.size w w') => show vldP L = true → Calls Tryz.prog 107 #[v, .int .i64 (glb [(a, s), (b, t), (d, u)] + 1)] w' (BPost (tlg L (glb [(a, s), (b, t), (d, u)] + 1)) w') from fun hv => k'fe L v _ w' (h.below hb) z (k'fc hv) (by omega))
 have HW := i' (fun w => k'kh w a b d s t u)
 unfold ckc at he
 generalize tlg L (glb [(a, s), (b, t), (d, u)] + 1) = x6 at *
 generalize glb [(a, s), (b, t), (d, u)] = g at *
 generalize sgV d u = sg at *
 generalize vldP L = x1 at *
 generalize vld a s = x2 at *
 generalize vld b t = x3 at *
 generalize vld d u = x4 at *
 obtain ⟨pq, bq, oq, cq, rfl, -, -, -, -⟩ := h
 have hwg : IntKind.i64.wrap (g + 1) = g + 1 := IntWalk.i64_in _ (by omega)
 have g30 := G3.1
 have g31 := G3.2
 clear z za zb' zd G3
 cases x1
 ·obtain rfl : 2 = e := he
  go_enter Tryz.func51, Tryz.ntmps51
  go_wp2_with fail
  rw [← hw0]
  clear hw0
  refine HV.out.mono ?_
  rintro e w1 ⟨rfl, b1⟩
  have E := i' b1
  clear b1
  obtain ⟨c0, c1⟩ := C0.out.1.below E.out
  obtain ⟨c2, c3⟩ := C0.out.2.1.below E.out
  obtain ⟨c4, c5⟩ := C0.out.2.2.below E.out
  have B9 := i' (chain B0.out E.out)
  go_wp2
  go_ret2
  exact ⟨rfl, B9.out⟩
 have HTl2 := i' (fun w' hb => HTl.out w' hb rfl)
 clear HTl
 cases x2
 ·obtain rfl : 2 = e := he
  go_enter Tryz.func51, Tryz.ntmps51
  go_wp2_with fail
  rw [← hw0]
  clear hw0
  refine HV.out.mono ?_
  rintro e w1 ⟨rfl, b1⟩
  have E := i' b1
  clear b1
  obtain ⟨c0, c1⟩ := C0.out.1.below E.out
  obtain ⟨c2, c3⟩ := C0.out.2.1.below E.out
  obtain ⟨c4, c5⟩ := C0.out.2.2.below E.out
  go_wp2_with fail
  refine (HVa.out _).mono ?_
  rintro e w2 ⟨rfl, b2⟩
  have E := i' (chain E.out b2)
  clear b2 c0 c1 c2 c3 c4 c5
  obtain ⟨c0, c1⟩ := C0.out.1.below E.out
  obtain ⟨c2, c3⟩ := C0.out.2.1.below E.out
  obtain ⟨c4, c5⟩ := C0.out.2.2.below E.out
  have B9 := i' (chain B0.out E.out)
  go_wp2
  go_ret2
  exact ⟨rfl, B9.out⟩
 cases x3
 ·obtain rfl : 2 = e := he
  go_enter Tryz.func51, Tryz.ntmps51
  go_wp2_with fail
  rw [← hw0]
  clear hw0
  refine HV.out.mono ?_
  rintro e w1 ⟨rfl, b1⟩
  have E := i' b1
  clear b1
  obtain ⟨c0, c1⟩ := C0.out.1.below E.out
  obtain ⟨c2, c3⟩ := C0.out.2.1.below E.out
  obtain ⟨c4, c5⟩ := C0.out.2.2.below E.out
  go_wp2_with fail
  refine (HVa.out _).mono ?_
  rintro e w2 ⟨rfl, b2⟩
  have E := i' (chain E.out b2)
  clear b2 c0 c1 c2 c3 c4 c5
  obtain ⟨c0, c1⟩ := C0.out.1.below E.out
  obtain ⟨c2, c3⟩ := C0.out.2.1.below E.out
  obtain ⟨c4, c5⟩ := C0.out.2.2.below E.out
  go_wp2_with fail
  refine (HVb.out _).mono ?_
  rintro e w3 ⟨rfl, b2⟩
  have E := i' (chain E.out b2)
  clear b2 c0 c1 c2 c3 c4 c5
  obtain ⟨c0, c1⟩ := C0.out.1.below E.out
  obtain ⟨c2, c3⟩ := C0.out.2.1.below E.out
  obtain ⟨c4, c5⟩ := C0.out.2.2.below E.out
  have B9 := i' (chain B0.out E.out)
  go_wp2
  go_ret2
  exact ⟨rfl, B9.out⟩
 cases x4
 ·obtain rfl : 2 = e := he
  go_enter Tryz.func51, Tryz.ntmps51
  go_wp2_with fail
  rw [← hw0]
  clear hw0
  refine HV.out.mono ?_
  rintro e w1 ⟨rfl, b1⟩
  have E := i' b1
  clear b1
  obtain ⟨c0, c1⟩ := C0.out.1.below E.out
  obtain ⟨c2, c3⟩ := C0.out.2.1.below E.out
  obtain ⟨c4, c5⟩ := C0.out.2.2.below E.out
  go_wp2_with fail
  refine (HVa.out _).mono ?_
  rintro e w2 ⟨rfl, b2⟩
  have E := i' (chain E.out b2)
  clear b2 c0 c1 c2 c3 c4 c5
  obtain ⟨c0, c1⟩ := C0.out.1.below E.out
  obtain ⟨c2, c3⟩ := C0.out.2.1.below E.out
  obtain ⟨c4, c5⟩ := C0.out.2.2.below E.out
  go_wp2_with fail
  refine (HVb.out _).mono ?_
  rintro e w3 ⟨rfl, b2⟩
  have E := i' (chain E.out b2)
  clear b2 c0 c1 c2 c3 c4 c5
  obtain ⟨c0, c1⟩ := C0.out.1.below E.out
  obtain ⟨c2, c3⟩ := C0.out.2.1.below E.out
  obtain ⟨c4, c5⟩ := C0.out.2.2.below E.out
  go_wp2_with fail
  refine (HVd.out _).mono ?_
  rintro e w4 ⟨rfl, b2⟩
  have E := i' (chain E.out b2)
  clear b2 c0 c1 c2 c3 c4 c5
  obtain ⟨c0, c1⟩ := C0.out.1.below E.out
  obtain ⟨c2, c3⟩ := C0.out.2.1.below E.out
  obtain ⟨c4, c5⟩ := C0.out.2.2.below E.out
  have B9 := i' (chain B0.out E.out)
  go_wp2
  go_ret2
  exact ⟨rfl, B9.out⟩
 rw [if_pos (by rfl)] at he
 by_cases hsg : sg ≤ 0
 ·rw [if_pos hsg] at he
  subst he
  go_enter Tryz.func51, Tryz.ntmps51
  go_wp2_with fail
  rw [← hw0]
  clear hw0
  refine HV.out.mono ?_
  rintro e w1 ⟨rfl, b1⟩
  have E := i' b1
  clear b1
  obtain ⟨c0, c1⟩ := C0.out.1.below E.out
  obtain ⟨c2, c3⟩ := C0.out.2.1.below E.out
  obtain ⟨c4, c5⟩ := C0.out.2.2.below E.out
  go_wp2_with fail
  refine (HVa.out _).mono ?_
  rintro e w2 ⟨rfl, b2⟩
  have E := i' (chain E.out b2)
  clear b2 c0 c1 c2 c3 c4 c5
  obtain ⟨c0, c1⟩ := C0.out.1.below E.out
  obtain ⟨c2, c3⟩ := C0.out.2.1.below E.out
  obtain ⟨c4, c5⟩ := C0.out.2.2.below E.out
  go_wp2_with fail
  refine (HVb.out _).mono ?_
  rintro e w3 ⟨rfl, b2⟩
  have E := i' (chain E.out b2)
  clear b2 c0 c1 c2 c3 c4 c5
  obtain ⟨c0, c1⟩ := C0.out.1.below E.out
  obtain ⟨c2, c3⟩ := C0.out.2.1.below E.out
  obtain ⟨c4, c5⟩ := C0.out.2.2.below E.out
  go_wp2_with fail
  refine (HVd.out _).mono ?_
  rintro e w4 ⟨rfl, b2⟩
  have E := i' (chain E.out b2)
  clear b2 c0 c1 c2 c3 c4 c5
  obtain ⟨c0, c1⟩ := C0.out.1.below E.out
  obtain ⟨c2, c3⟩ := C0.out.2.1.below E.out
  obtain ⟨c4, c5⟩ := C0.out.2.2.below E.out
  go_wp2_with fail
  refine (HSg.out _).mono ?_
  rintro e w5 ⟨rfl, b2⟩
  have E := i' (chain E.out b2)
  clear b2 c0 c1 c2 c3 c4 c5
  obtain ⟨c0, c1⟩ := C0.out.1.below E.out
  obtain ⟨c2, c3⟩ := C0.out.2.1.below E.out
  obtain ⟨c4, c5⟩ := C0.out.2.2.below E.out
  have B9 := i' (chain B0.out E.out)
  go_wp2
  go_ret2
  exact ⟨rfl, B9.out⟩
 rw [if_neg hsg] at he
 cases x6
 ·exact absurd he.symm h0
 ·rw [if_pos rfl] at he
  subst he
  clear h0
  go_enter Tryz.func51, Tryz.ntmps51
  go_wp2_with fail
  rw [← hw0]
  clear hw0
  refine HV.out.mono ?_
  rintro e w1 ⟨rfl, b1⟩
  have E := i' b1
  clear b1
  obtain ⟨c0, c1⟩ := C0.out.1.below E.out
  obtain ⟨c2, c3⟩ := C0.out.2.1.below E.out
  obtain ⟨c4, c5⟩ := C0.out.2.2.below E.out
  go_wp2_with fail
  refine (HVa.out _).mono ?_
  rintro e w2 ⟨rfl, b2⟩
  have E := i' (chain E.out b2)
  clear b2 c0 c1 c2 c3 c4 c5
  obtain ⟨c0, c1⟩ := C0.out.1.below E.out
  obtain ⟨c2, c3⟩ := C0.out.2.1.below E.out
  obtain ⟨c4, c5⟩ := C0.out.2.2.below E.out
  go_wp2_with fail
  refine (HVb.out _).mono ?_
  rintro e w3 ⟨rfl, b2⟩
  have E := i' (chain E.out b2)
  clear b2 c0 c1 c2 c3 c4 c5
  obtain ⟨c0, c1⟩ := C0.out.1.below E.out
  obtain ⟨c2, c3⟩ := C0.out.2.1.below E.out
  obtain ⟨c4, c5⟩ := C0.out.2.2.below E.out
  go_wp2_with fail
  refine (HVd.out _).mono ?_
  rintro e w4 ⟨rfl, b2⟩
  have E := i' (chain E.out b2)
  clear b2 c0 c1 c2 c3 c4 c5
  obtain ⟨c0, c1⟩ := C0.out.1.below E.out
  obtain ⟨c2, c3⟩ := C0.out.2.1.below E.out
  obtain ⟨c4, c5⟩ := C0.out.2.2.below E.out
  go_wp2_with fail
  refine (HSg.out _).mono ?_
  rintro e w5 ⟨rfl, b2⟩
  have E := i' (chain E.out b2)
  clear b2 c0 c1 c2 c3 c4 c5
  obtain ⟨c0, c1⟩ := C0.out.1.below E.out
  obtain ⟨c2, c3⟩ := C0.out.2.1.below E.out
  obtain ⟨c4, c5⟩ := C0.out.2.2.below E.out
  go_wp2_with fail
  obtain ⟨w6, hw6⟩ : ∃ w6 : World, w6 = w5.alloc (.cells #[.bool a, .string s, .bool b, .string t, .bool d, .string u] 44) := ⟨_, rfl⟩
  have hg := HW.out w5
  rw [← hw6] at hg ⊢
  have E6 : Hid (Below w0.heap.size w0 w6) := by rw [hw6]; exact E.out.alloc E.out.size _
  clear hw6 c0 c1 c2 c3 c4 c5
  refine (HG.out _ _ hg).mono ?_
  rintro e w7 ⟨rfl, b7⟩
  have E := i' (chain E6.out b7)
  clear b7 hg E6
  obtain ⟨c0, c1⟩ := C0.out.1.below E.out
  obtain ⟨c2, c3⟩ := C0.out.2.1.below E.out
  obtain ⟨c4, c5⟩ := C0.out.2.2.below E.out
  go_wp2_with fail
  refine (HTl2.out _ (chain B0.out E.out)).mono ?_
  rintro e w8 ⟨rfl, b8⟩
  have E := i' (chain E.out b8)
  clear b8 c0 c1 c2 c3 c4 c5
  obtain ⟨c0, c1⟩ := C0.out.1.below E.out
  obtain ⟨c2, c3⟩ := C0.out.2.1.below E.out
  obtain ⟨c4, c5⟩ := C0.out.2.2.below E.out
  have B9 := i' (chain B0.out E.out)
  go_wp2
  go_ret2
  exact ⟨rfl, B9.out⟩
theorem k'q6 (d b s m : Int) (w : World) (q0 : d < 0) :
 Calls Tryz.prog 9 #[.int .i64 d, .int .i64 b, .int .i64 s, .int .i64 m] w (Ret (.bool true) w) := by
 have HK := i' k'l8
 unfold BPost at HK
 unfold Ret
 go_enter Tryz.func9, Tryz.ntmps9
 go_wp2_with fail
 refine (HK.out _).mono ?_
 rintro e x1 ⟨rfl, b1⟩
 have E := i' b1
 clear b1
 go_wp2
 go_ret
 exact ⟨rfl, E.out⟩
theorem k'q7 (d b s m : Int) (w : World) (q0 : ¬ d < 0) (q1 : 24 < d) :
 Calls Tryz.prog 9 #[.int .i64 d, .int .i64 b, .int .i64 s, .int .i64 m] w (Ret (.bool true) w) := by
 have HK := i' k'l8
 unfold BPost at HK
 unfold Ret
 go_enter Tryz.func9, Tryz.ntmps9
 go_wp2_with fail
 refine (HK.out _).mono ?_
 rintro e x1 ⟨rfl, b1⟩
 have E := i' b1
 clear b1
 go_wp2
 go_ret
 exact ⟨rfl, E.out⟩
theorem k'q8 (d b s m : Int) (w : World) (q0 : ¬ d < 0) (q1 : ¬ 24 < d) (q2 : b < 1) :
 Calls Tryz.prog 9 #[.int .i64 d, .int .i64 b, .int .i64 s, .int .i64 m] w (Ret (.bool true) w) := by
 have HK := i' k'l8
 unfold BPost at HK
 unfold Ret
 go_enter Tryz.func9, Tryz.ntmps9
 go_wp2_with fail
 refine (HK.out _).mono ?_
 rintro e x1 ⟨rfl, b1⟩
 have E := i' b1
 clear b1
 go_wp2
 go_ret
 exact ⟨rfl, E.out⟩
theorem k'q9 (d b s m : Int) (w : World) (q0 : ¬ d < 0) (q1 : ¬ 24 < d) (q2 : ¬ b < 1) (q3 : 65536 < b) :
 Calls Tryz.prog 9 #[.int .i64 d, .int .i64 b, .int .i64 s, .int .i64 m] w (Ret (.bool true) w) := by
 have HK := i' k'l8
 unfold BPost at HK
 unfold Ret
 go_enter Tryz.func9, Tryz.ntmps9
 go_wp2_with fail
 refine (HK.out _).mono ?_
 rintro e x1 ⟨rfl, b1⟩
 have E := i' b1
 clear b1
 go_wp2
 go_ret
 exact ⟨rfl, E.out⟩
theorem k'qa (d b s m : Int) (w : World) (q0 : ¬ d < 0) (q1 : ¬ 24 < d) (q2 : ¬ b < 1) (q3 : ¬ 65536 < b) (q4 : s < 0) :
 Calls Tryz.prog 9 #[.int .i64 d, .int .i64 b, .int .i64 s, .int .i64 m] w (Ret (.bool true) w) := by
 have HK := i' k'l8
 unfold BPost at HK
 unfold Ret
 go_enter Tryz.func9, Tryz.ntmps9
 go_wp2_with fail
 refine (HK.out _).mono ?_
 rintro e x1 ⟨rfl, b1⟩
 have E := i' b1
 clear b1
 go_wp2
 go_ret
 exact ⟨rfl, E.out⟩
theorem k'qb (d b s m : Int) (w : World) (q0 : ¬ d < 0) (q1 : ¬ 24 < d) (q2 : ¬ b < 1) (q3 : ¬ 65536 < b) (q4 : ¬ s < 0) (q5 : 24 < s) :
 Calls Tryz.prog 9 #[.int .i64 d, .int .i64 b, .int .i64 s, .int .i64 m] w (Ret (.bool true) w) := by
 have HK := i' k'l8
 unfold BPost at HK
 unfold Ret
 go_enter Tryz.func9, Tryz.ntmps9
 go_wp2_with fail
 refine (HK.out _).mono ?_
 rintro e x1 ⟨rfl, b1⟩
 have E := i' b1
 clear b1
 go_wp2
 go_ret
 exact ⟨rfl, E.out⟩
theorem k'qc (d b s m : Int) (w : World) (q0 : ¬ d < 0) (q1 : ¬ 24 < d) (q2 : ¬ b < 1) (q3 : ¬ 65536 < b) (q4 : ¬ s < 0) (q5 : ¬ 24 < s) (q6 : m < 1) :
 Calls Tryz.prog 9 #[.int .i64 d, .int .i64 b, .int .i64 s, .int .i64 m] w (Ret (.bool true) w) := by
 have HK := i' k'l8
 unfold BPost at HK
 unfold Ret
 go_enter Tryz.func9, Tryz.ntmps9
 go_wp2_with fail
 refine (HK.out _).mono ?_
 rintro e x1 ⟨rfl, b1⟩
 have E := i' b1
 clear b1
 go_wp2
 go_ret
 exact ⟨rfl, E.out⟩
theorem k'qd (d b s m : Int) (w : World) (q0 : ¬ d < 0) (q1 : ¬ 24 < d) (q2 : ¬ b < 1) (q3 : ¬ 65536 < b) (q4 : ¬ s < 0) (q5 : ¬ 24 < s) (q6 : ¬ m < 1) (q7 : 65536 < m) :
 Calls Tryz.prog 9 #[.int .i64 d, .int .i64 b, .int .i64 s, .int .i64 m] w (Ret (.bool true) w) := by
 have HK := i' k'l8
 unfold BPost at HK
 unfold Ret
 go_enter Tryz.func9, Tryz.ntmps9
 go_wp2_with fail
 refine (HK.out _).mono ?_
 rintro e x1 ⟨rfl, b1⟩
 have E := i' b1
 clear b1
 go_wp2
 go_ret
 exact ⟨rfl, E.out⟩
def CutA (D S : Nat) (w wx : World) (g h : Nat) : Prop := Aw wx g (List.replicate D 0) ∧ Aw wx h (List.replicate S 0) ∧ g ≠ h ∧ w.heap.size ≤ g ∧ w.heap.size ≤ h ∧ Below w.heap.size w wx
theorem CutA.k1 (D S : Nat) (w : World) : CutA D S w ((w.alloc (.cells (wv (List.replicate D 0)).toArray 44)).alloc (.cells (wv (List.replicate S 0)).toArray 44)) w.heap.size (w.heap.size + 1) :=
 ⟨(Aw.made w _).alloc _, by have := Aw.made (w.alloc (.cells (wv (List.replicate D 0)).toArray 44)) (List.replicate S 0); simpa using this, by omega, Nat.le_refl _, by omega, (k'56 _ _).alloc (by simp) _⟩
theorem CutA.k2 (D S : Nat) (w : World) : CutA D S w ((w.alloc (.cells (wv (List.replicate S 0)).toArray 44)).alloc (.cells (wv (List.replicate D 0)).toArray 44)) (w.heap.size + 1) w.heap.size :=
 ⟨by have := Aw.made (w.alloc (.cells (wv (List.replicate S 0)).toArray 44)) (List.replicate D 0); simpa using this, (Aw.made w _).alloc _, by omega, by omega, Nat.le_refl _, (k'56 _ _).alloc (by simp) _⟩
theorem CutA.drew {D S : Nat} {w wx : World} {g h : Nat} (c : CutA D S w wx g h) : CutA D S w wx.drew g h := ⟨c.1.drewN 1, c.2.1.drewN 1, c.2.2.1, c.2.2.2.1, c.2.2.2.2.1, c.2.2.2.2.2.drew⟩
def mono (d : Nat) (a : Int) : List Int := (List.replicate (d + 1) 0).set d a
theorem k'qe (d : Nat) (a : Int) : (mono d a).length = d + 1 := by simp [mono]
theorem k'qf (d b s m b' m' D S dm cm mx2 my2 nn gg st pr L3 M5 : Nat) (A B : Int) (fe fc fg fr : Bool) (w : World) (hd : d ≤ 24) (hb0 : 1 ≤ b) (hb : b ≤ 65536) (hs : s ≤ 24) (hm0 : 1 ≤ m) (hm : m ≤ 65536)
 (eb : (b : Int) - 1 = (b' : Int)) (em : (m : Int) - 1 = (m' : Int)) (eD : (d : Int) + 1 = (D : Int)) (eS : (s : Int) + 1 = (S : Int)) (eM5 : (b : Int) + (m : Int) + 5 = (M5 : Int)) (eL : (d : Int) + (s : Int) + 1 = (L3 : Int))
 (e1 : (d : Int) * (m : Int) = (dm : Int)) (e2 : (d : Int) * ((m : Int) + 1) = (cm : Int)) (e3 : max (d : Int) (s : Int) = (mx2 : Int)) (e4 : max (b : Int) (m : Int) = (my2 : Int)) (e5 : ((mx2 : Int) + 3) * ((mx2 : Int) + 3) = (nn : Int)) (e6 : (nn : Int) * ((my2 : Int) + 8) = (gg : Int))
 (e7 : (s : Int) ≤ d → (d : Int) - s + 1 = (st : Int)) (e8 : (st : Int) * ((m : Int) + 1) = (pr : Int)) (hpr : (s : Int) ≤ d → 0 < pr) (bd : dm ≤ 10000000 ∧ cm ≤ 10000000 ∧ nn ≤ 10000 ∧ gg ≤ 1000000000 ∧ st ≤ 25 ∧ pr ≤ 10000000)
 (f1 : decide (65536 < (b : Int) + (dm : Int) + 8) = fe) (f2 : decide (65536 < (b : Int) + (cm : Int) + 8) = fc) (f3 : decide (65536 < (gg : Int)) = fg) (f4 : decide (65536 < (b : Int) + (pr : Int)) = fr)
 (HPb : ∀ w', Calls Tryz.prog 59 #[.int .i64 (b' : Int)] w' (Ret (.agg #[.bool (zb A), .string (zs A)]) w'))
 (HPm : ∀ w', Calls Tryz.prog 59 #[.int .i64 (m' : Int)] w' (Ret (.agg #[.bool (zb B), .string (zs B)]) w'))
 (HP0 : ∀ w', Calls Tryz.prog 59 #[.int .i64 0] w' (Ret (.agg #[.bool false, .string ⟨#[1]⟩]) w'))
 (HM : (24 < (d : Int) + s ∧ (∀ w' va vb, Rp w' va (mono d A) → Rp w' vb (mono s B) → Calls Tryz.prog 27 #[va, vb] w' fun e w'' => ∃ a n c, e = .returned (.tuple #[.slice a n c, .int .i64 7]) ∧ Below w'.heap.size w' w'')) ∨ ((d : Int) + s ≤ 24 ∧ (65536 : Int) < (M5 : Int) ∧ (∀ w' va vb, Rp w' va (mono d A) → Rp w' vb (mono s B) → Calls Tryz.prog 27 #[va, vb] w' fun e w'' => ∃ a n c, e = .returned (.tuple #[.slice a n c, .int .i64 7]) ∧ Below w'.heap.size w' w'')) ∨ ((d : Int) + s ≤ 24 ∧ ¬ (65536 : Int) < (M5 : Int) ∧ (∀ w' va vb, Rp w' va (mono d A) → Rp w' vb (mono s B) → Calls Tryz.prog 27 #[va, vb] w' fun e w'' => ∃ a c, e = .returned (.tuple #[.slice a L3 c, .int .i64 0]) ∧ Below w'.heap.size w' w'')))
 (HA : ((b : Int) = 65536 ∧ (∀ w' va, Rp w' va (mono d A) → Calls Tryz.prog 25 #[va, va] w' fun e w'' => ∃ a n c, e = .returned (.tuple #[.slice a n c, .int .i64 7]) ∧ Below w'.heap.size w' w'')) ∨ ((b : Int) ≠ 65536 ∧ (∀ w' va, Rp w' va (mono d A) → Calls Tryz.prog 25 #[va, va] w' fun e w'' => ∃ a c, e = .returned (.tuple #[.slice a D c, .int .i64 0]) ∧ Below w'.heap.size w' w'')))
 (HE : ∀ w' va, Rp w' va (mono d A) → Calls Tryz.prog 42 #[va, .agg #[.bool (zb B), .string (zs B), .bool false, .string ⟨#[1]⟩]] w' fun e w'' => ∃ z t x, e = .returned (.tuple #[.agg #[.bool z, .string t], .int .i64 x]) ∧ (x == 7) = fe ∧ Below w'.heap.size w' w'')
 (HC : ∀ w' va, Rp w' va (mono d A) → Calls Tryz.prog 51 #[va, .agg #[.bool (zb B), .string (zs B)], .agg #[.bool false, .string ⟨#[1]⟩], .agg #[.bool false, .string ⟨#[1]⟩]] w' fun e w'' => ∃ a n c x, e = .returned (.tuple #[.slice a n c, .int .i64 x]) ∧ (x == 7) = fc ∧ Below w'.heap.size w' w'')
 (HG : (∀ w' va vb, Rp w' va (mono d A) → Rp w' vb (mono s B) → Calls Tryz.prog 55 #[va, vb] w' fun e w'' => ∃ a n c x, e = .returned (.tuple #[.slice a n c, .int .i64 x]) ∧ (x == 7) = fg ∧ Below w'.heap.size w' w''))
 (HR : ((d : Int) < s ∧ (∀ w' va vb, Rp w' va (mono d A) → Rp w' vb (mono s B) → Calls Tryz.prog 53 #[va, vb] w' fun e w'' => ∃ a n c x, e = .returned (.tuple #[.slice a n c, .int .i64 x]) ∧ (x == 7) = false ∧ Below w'.heap.size w' w'')) ∨ ((s : Int) ≤ d ∧ (∀ w' va vb, Rp w' va (mono d A) → Rp w' vb (mono s B) → Calls Tryz.prog 53 #[va, vb] w' fun e w'' => ∃ a n c x, e = .returned (.tuple #[.slice a n c, .int .i64 x]) ∧ (x == 7) = fr ∧ Below w'.heap.size w' w''))) :
 Calls Tryz.prog 9 #[.int .i64 (d : Int), .int .i64 (b : Int), .int .i64 (s : Int), .int .i64 (m : Int)] w (Ret (.bool true) w) := by
 have HK := i' k'l8
 have HPb := i' HPb
 have HPm := i' HPm
 have HP0 := i' HP0
 have HM := i' HM
 have HA := i' HA
 have HE := i' HE
 have HC := i' HC
 have HG := i' HG
 have HR := i' HR
 obtain ⟨bd1, bd2, bd3, bd4, bd5, bd6⟩ := bd
 have hmx : mx2 ≤ 24 := by omega
 have hmy : my2 ≤ 65536 := by omega
 have hD : D = d + 1 := by omega
 have hS : S = s + 1 := by omega
 have hmk1 := fun w => k'cm D w (by omega)
 have hmk2 := fun w => k'cm S w (by omega)
 have HD := i' hD
 have HS := i' hS
 have E7 := i' e7
 have HPR := i' hpr
 clear hD hS e7 hpr
 have iD : (d : Int) < (D : Int) := by omega
 have iS : (s : Int) < (S : Int) := by omega
 unfold BPost at HK
 unfold Ret at *
 go_enter Tryz.func9, Tryz.ntmps9
 go_upto_region 3 with (fail)
 go_cut [9, 10] (fun s7 s8 wx => ∃ (g7 g8 : Nat), s7 = .slice (some ⟨g7, 0, none⟩) D D ∧ s8 = .slice (some ⟨g8, 0, none⟩) S S ∧ Hid (CutA D S w wx g7 g8))
 case first =>
  rename_i J0 K0 hRJ hMK
  go_region
  all_goals
   refine hMK _ _ (Met.intro (hRJ _ _ ?_))
   (repeat apply Exists.intro)
   refine ⟨?_, rfl⟩
   refine ⟨_, _, rfl, rfl, ?_⟩
   show CutA _ _ _ _ _ _
   first
    | with_reducible exact CutA.k1 D S w
    | with_reducible exact CutA.k2 D S w
    | with_reducible exact (CutA.k1 D S w).drew
    | with_reducible exact (CutA.k2 D S w).drew
    | exact CutA.k1 D S w
    | exact CutA.k2 D S w
    | fail
 obtain ⟨g7, g8, rfl, rfl, hcut⟩ := hcut
 obtain ⟨A7, A8, hne, hg7, hg8, bxx⟩ := hcut.out
 have A7 := i' A7
 have A8 := i' A8
 have E := i' bxx
 have NE := i' (And.intro hne (And.intro hg7 hg8))
 obtain ⟨y3, hy3⟩ : ∃ y : World, y = wc := ⟨_, rfl⟩
 subst hy3
 clear bxx hcut hne hg7 hg8 hmk1 hmk2
 go_wp2_with fail
 refine (HPb.out _).mono ?_
 rintro e x1 ⟨rfl, d1⟩
 have A7 := i' (A7.out.below d1)
 have A8 := i' (A8.out.below d1)
 have E := i' (chain E.out d1)
 clear d1
 go_wp2_with fail
 refine (HPm.out _).mono ?_
 rintro e x2 ⟨rfl, d2⟩
 have A7 := i' (A7.out.below d2)
 have A8 := i' (A8.out.below d2)
 have E := i' (chain E.out d2)
 clear d2
 obtain ⟨c0, c1⟩ := A7.out.cell d (by simp; omega)
 obtain ⟨c2, c3⟩ := A8.out.cell s (by simp; omega)
 have c4 := A7.out.free (d * 2)
 have c5 := A7.out.free (d * 2 + 1)
 have c6 := A8.out.free (s * 2)
 have c7 := A8.out.free (s * 2 + 1)
 have n1 : ¬ g7 = g8 := NE.out.1
 have n2 : ¬ g8 = g7 := fun e => n1 e.symm
 obtain ⟨u, hu⟩ : ∃ u : World, u = (((x2.setCell ⟨g7, d * 2, none⟩ (.bool (zb A))).setCell ⟨g7, d * 2 + 1, none⟩ (.string (zs A))).setCell ⟨g8, s * 2, none⟩ (.bool (zb B))).setCell ⟨g8, s * 2 + 1, none⟩ (.string (zs B)) := ⟨_, rfl⟩
 have A7 : Hid (Aw u g7 (mono d A)) := by
  show Aw _ _ _
  rw [hu]
  have := A7.out.set d (by simp; omega) A
  rw [HD.out] at this
  exact (this.other _ _ n1).other _ _ n1
 have A8 : Hid (Aw u g8 (mono s B)) := by
  show Aw _ _ _
  rw [hu]
  have := ((A8.out.other ⟨g7, d * 2, none⟩ (.bool (zb A)) n2).other ⟨g7, d * 2 + 1, none⟩ (.string (zs A)) n2).set s (by simp; omega) B
  rw [HS.out] at this
  exact this
 have E : Hid (Below w.heap.size w u) := by
  show Below _ _ _
  rw [hu]
  exact (((E.out.setCell (p := ⟨g7, d * 2, none⟩) NE.out.2.1 _).setCell (p := ⟨g7, d * 2 + 1, none⟩) NE.out.2.1 _).setCell (p := ⟨g8, s * 2, none⟩) NE.out.2.2 _).setCell (p := ⟨g8, s * 2 + 1, none⟩) NE.out.2.2 _
 have RA : Hid (Rp u (.slice (some ⟨g7, 0, none⟩) D D) (mono d A)) := Rp.of_whole A7.out D D (by rw [k'qe, HD.out]) (Nat.le_refl _) (by unfold maxLen; omega)
 have RB : Hid (Rp u (.slice (some ⟨g8, 0, none⟩) S S) (mono s B)) := Rp.of_whole A8.out S S (by rw [k'qe, HS.out]) (Nat.le_refl _) (by unfold maxLen; omega)
 have Hu := i' hu
 clear hu A7 A8
 go_upto_region 5 with (fail)
 rw [← Hu.out]
 clear Hu c0 c1 c2 c3 c4 c5 c6 c7 n1 n2 NE
 rcases HM.out with ⟨q1, HM⟩ | ⟨q1, q2, HM⟩ | ⟨q1, q2, HM⟩
 all_goals
  have HM := i' HM
  go_wp2_with fail
  refine (HM.out _ _ _ RA.out RB.out).mono ?_
  first
   | (rintro e x3 ⟨ra, rn, rc, rfl, d3⟩)
   | (rintro e x3 ⟨ra, rc, rfl, d3⟩)
  have RA := i' (RA.out.below d3)
  have RB := i' (RB.out.below d3)
  have E := i' (chain E.out d3)
  clear d3 HM
  rcases HA.out with ⟨q3, HA⟩ | ⟨q3, HA⟩
  all_goals
   have HA := i' HA
   first
    | (have Q4 : Hid (((b : Int) == 65536) = true) := by (show _ = _; rw [beq_iff_eq]; exact q3))
    | (have Q4 : Hid (((b : Int) == 65536) = false) := by (show _ = _; rw [beq_eq_false_iff_ne]; exact q3))
   clear q3
   go_wp2_with fail
   refine (HA.out _ _ RA.out).mono ?_
   first
    | (rintro e x4 ⟨rb, rm, rd, rfl, d4⟩)
    | (rintro e x4 ⟨rb, rd, rfl, d4⟩)
   have RA := i' (RA.out.below d4)
   have RB := i' (RB.out.below d4)
   have E := i' (chain E.out d4)
   clear d4 HA
   go_upto_region 11 with (fail)
   rw [Q4.out]
   go_wp2_with fail
   refine (HPm.out _).mono ?_
   rintro e x5 ⟨rfl, d5⟩
   obtain ⟨v, hv⟩ : ∃ v : World, v = x5.alloc (.cells #[.bool (zb B), .string (zs B), .bool false, .string ⟨#[1]⟩] 59) := ⟨_, rfl⟩
   have T : Hid (ZC4 (.bool (zb B)) (.string (zs B)) (.bool false) (.string ⟨#[1]⟩) v x5.heap.size) := by rw [hv]; exact ZC4.made0 _
   have D5 : Hid (Below x4.heap.size x4 v) := by rw [hv]; exact d5.alloc d5.size _
   have RA := i' (RA.out.below D5.out)
   have RB := i' (RB.out.below D5.out)
   have E := i' (chain E.out D5.out)
   have Hv := i' hv
   clear d5 hv D5
   go_upto_region 14 with (fail)
   rw [← Hv.out]
   clear Hv
   obtain ⟨⟨k0, k1, k2, k3⟩, _⟩ := T.out
   go_wp2_with fail
   refine (HE.out _ _ RA.out).mono ?_
   rintro e x6 ⟨z6, t6, xe, rfl, he, d6⟩
   clear k0 k1 k2 k3 T
   have RA := i' (RA.out.below d6)
   have RB := i' (RB.out.below d6)
   have E := i' (chain E.out d6)
   clear d6
   go_wp2_with fail
   refine (HPm.out _).mono ?_
   rintro e x7 ⟨rfl, d7⟩
   have RA := i' (RA.out.below (chain (k'56 _ _) d7))
   have RB := i' (RB.out.below (chain (k'56 _ _) d7))
   have E := i' (chain E.out (chain (k'56 _ _) d7))
   clear d7 he
   go_wp2_with fail
   refine (HP0.out _).mono ?_
   rintro e x8 ⟨rfl, d8⟩
   have RA := i' (RA.out.below d8)
   have RB := i' (RB.out.below d8)
   have E := i' (chain E.out d8)
   clear d8
   go_wp2_with fail
   refine (HP0.out _).mono ?_
   rintro e x9 ⟨rfl, d9⟩
   have RA := i' (RA.out.below d9)
   have RB := i' (RB.out.below d9)
   have E := i' (chain E.out d9)
   clear d9
   go_wp2_with fail
   refine (HC.out _ _ RA.out).mono ?_
   rintro e x10 ⟨a10, n10, c10, xc, rfl, hc, d10⟩
   have RA := i' (RA.out.below d10)
   have RB := i' (RB.out.below d10)
   have E := i' (chain E.out d10)
   clear d10
   go_wp2_with fail
   refine (HG.out _ _ _ RA.out RB.out).mono ?_
   rintro e x11 ⟨a11, n11, c11, xg, rfl, hg, d11⟩
   have RA := i' (RA.out.below d11)
   have RB := i' (RB.out.below d11)
   have E := i' (chain E.out d11)
   clear d11 hc
   rcases HR.out with ⟨q5, HR⟩ | ⟨q5, HR⟩
   all_goals
    have HR := i' HR
    (try have e7 := E7.out q5)
    go_wp2_with fail
    refine (HR.out _ _ _ RA.out RB.out).mono ?_
    rintro e x12 ⟨a12, n12, c12, xr, rfl, hr, d12⟩
    have E := i' (chain E.out d12)
    clear d12 hg
    go_wp2_with fail
    refine (HK.out _).mono ?_
    rintro e x13 ⟨rfl, d13⟩
    have E := i' (chain E.out d13)
    clear d13
    go_wp2
    go_ret
    exact ⟨rfl, E.out⟩
def tm (p : List Int) (n d : Int) (i : Nat) : Int := Pl.cf p i * (n ^ i * d ^ (p.length - 1 - i))
def Fresh (B : Nat) (v : Value) : Prop := ∃ (p : Option Addr) (n c : Nat), v = .slice p n c ∧ ∀ a, p = some a → B ≤ a.block
theorem Fresh.any {B : Nat} {p : Option Addr} {n c : Nat} (h : Fresh B (.slice p n c)) (m : Nat) : Fresh B (.slice p m c) := by
 obtain ⟨q, n', c', h1, h2⟩ := h
 injection h1 with e1 e2 e3
 subst e1
 exact ⟨p, m, c, rfl, h2⟩
theorem Fresh.le {B B' : Nat} {v : Value} (h : Fresh B v) (hb : B' ≤ B) : Fresh B' v := by
 obtain ⟨q, n, c, h1, h2⟩ := h
 exact ⟨q, n, c, h1, fun a ha => Nat.le_trans hb (h2 a ha)⟩
def RPFresh (B : Nat) (p : List Int) (w : World) (e : Ending) (w' : World) : Prop := ∃ v, e = .returned v ∧ RP w' v p ∧ Fresh B v ∧ Below w.heap.size w w'
def NBk (v : Value) (g : Nat) : Prop := ∀ (a : Addr) (n c : Nat), v = .slice (some a) n c → a.block ≠ g
theorem RP.set4 {w : World} {g : Nat} {v : Value} {p : List Int} {b0 b1 : Bool} {q q' : Option Addr} {n c n' c' : Nat} (h : RP w v p) (hb : p ≠ [] → NBk v g) (z : ZC4 (.bool b0) (.slice q n c) (.bool b1) (.slice q' n' c') w g) (u0 u1 u2 u3 : Value) : RP ((((w.setCell ⟨g, 0, none⟩ u0).setCell ⟨g, 1, none⟩ u1).setCell ⟨g, 2, none⟩ u2).setCell ⟨g, 3, none⟩ u3) v p := by
 obtain ⟨a, b, off, cap, rfl, h2, h3, h4, h5⟩ := h
 refine ⟨a, b, off, cap, rfl, h2, h3, h4, fun k hk => ?_⟩
 obtain ⟨u, g1, g2, g3⟩ := h5 k hk
 have hp0 : p ≠ [] := by intro e; rw [e] at hk; exact absurd hk (Nat.not_lt_zero _)
 obtain rfl := h4 hp0
 have hn := hb hp0 ⟨b, off, none⟩ _ _ rfl
 simp only at hn
 have hn2 : ¬ g = b := fun e => hn e.symm
 refine ⟨u, ?_, ?_, g3.set4 z _ _ _ _⟩
 ·simp [go_sem, g1, hn, hn2]
 ·simp [go_sem, g2, hn, hn2]
theorem RP.nb {w : World} {g : Nat} {v : Value} {p : List Int} (h : RP w v p) (hp : p ≠ []) (hg : w.heap.size ≤ g) : NBk v g := by
 obtain ⟨a, b, off, cap, rfl, h2, h3, h4, h5⟩ := h
 obtain rfl := h4 hp
 obtain ⟨u, g1, -, -⟩ := h5 0 (List.length_pos_iff.2 hp)
 have hbl := World.block_lt_of_cell? w _ g1
 simp only at hbl
 intro a n c e
 injection e with e1 e2 e3
 injection e1 with e1
 subst e1
 exact Nat.ne_of_lt (Nat.lt_of_lt_of_le hbl hg)
theorem Fresh.nb {B g : Nat} {v : Value} (h : Fresh B v) (hg : g < B) : NBk v g := by
 obtain ⟨q, n, c, rfl, h2⟩ := h
 intro a n' c' e
 injection e with e1 e2 e3
 have := h2 a e1
 omega
def CutV (vx : Value) (p : List Int) (x s y t : Value) (X Y : Int) (B : Nat) (wb wx : World) (g : Nat) : Prop := B ≤ g ∧ ZC4 x s y t wx g ∧ RP wx vx p ∧ Rz wx s X ∧ Rz wx t Y ∧ Below B wb wx
section
variable {vx x s y t : Value} {p : List Int} {X Y : Int} {B g : Nat} {wb w3 : World} {tt : TypeId} {b0 b1 : Bool} {q q' : Option Addr} {n c n' c' : Nat}
theorem CutV.k1 (hr : RP w3 vx p) (hs : Rz w3 s X) (ht : Rz w3 t Y) (b : Below B wb w3) (hB : B ≤ w3.heap.size) : CutV vx p x s y t X Y B wb (w3.alloc (.cells #[x, s, y, t] tt)) w3.heap.size :=
 have hb := k'56 w3 (.cells #[x, s, y, t] tt)
 ⟨hB, ZC4.made0 _, hr.below hb, hs.below hb, ht.below hb, b.alloc hB _⟩
theorem CutV.k2 (z : ZC4 (.bool b0) (.slice q n c) (.bool b1) (.slice q' n' c') w3 g) (hg : B ≤ g) (hr : RP w3 vx p) (hn : p ≠ [] → NBk vx g) (hs : Rz w3 s X) (ht : Rz w3 t Y) (b : Below B wb w3) :
 CutV vx p x s y t X Y B wb ((((w3.setCell ⟨g, 0, none⟩ x).setCell ⟨g, 1, none⟩ s).setCell ⟨g, 2, none⟩ y).setCell ⟨g, 3, none⟩ t) g :=
 ⟨hg, z.set, hr.set4 hn z _ _ _ _, hs.set4 z _ _ _ _, ht.set4 z _ _ _ _, k'5g b hg _ _ _ _⟩
end
def tpw (a b : Int) : Nat → List Int
 | 0 => Pl.trim [1]
 | i + 1 => Pl.trim (Pl.mul (tpw a b i) (Pl.trim [a, b]))
def cof (p : List Int) (d : Int) (i : Nat) : Int := Pl.cf p i * d ^ (p.length - 1 - i)
def sfm (p : List Int) (a b d : Int) : Nat → List Int
 | 0 => []
 | i + 1 => Pl.trim (Pl.add (sfm p a b d i) (Pl.trim (Pl.scl (cof p d i) (tpw a b i))))
theorem Sz.prim {n : Nat} {p : List Int} (s : Sz n p) : Sz n (Pl.prim p) := fun k => by
 rw [Pl.cf_prim]
 exact Nat.lt_of_le_of_lt (Int.natAbs_ediv_le_natAbs _ _) (s k)
def Ap (w : World) (g : Nat) (p : List Int) : Prop := ∃ us : List Value, us.length = p.length ∧ w.heap[g]? = some (.cells (rv p us).toArray 52 (0, 0)) ∧ ∀ k (h : k < us.length) (h2 : k < p.length), Rz w us[k] p[k]
theorem Ap.lt {w : World} {g : Nat} {p : List Int} (h : Ap w g p) : g < w.heap.size := by obtain ⟨us, _, h, _⟩ := h; exact lt_of_block h
theorem Ap.cell {w : World} {g : Nat} {p : List Int} (h : Ap w g p) (k : Nat) (hk : k < p.length) : ∃ u, w.cell? ⟨g, k * 2, none⟩ = some (.bool (decide (p[k] < 0))) ∧ w.cell? ⟨g, k * 2 + 1, none⟩ = some u ∧ Rz w u p[k] := by
 obtain ⟨us, hl, h, hz⟩ := h
 obtain ⟨h1, h2⟩ := k'df hl k hk
 exact ⟨us[k], by rw [cell_of_row w g _ _ _ _ h, List.getElem?_toArray]; exact h1, by rw [cell_of_row w g _ _ _ _ h, List.getElem?_toArray]; exact h2, hz k (by omega) hk⟩
theorem Ap.free {w : World} {g : Nat} {p : List Int} (h : Ap w g p) (k : Nat) : w.frozen? ⟨g, k, none⟩ = false := by obtain ⟨us, _, h, _⟩ := h; exact frozen_of_row w g k _ _ h
theorem Ap.below {w w' : World} {g : Nat} {p : List Int} (h : Ap w g p) (hb : Below w.heap.size w w') : Ap w' g p := by
 obtain ⟨us, hl, h, hz⟩ := h
 exact ⟨us, hl, (hb.block g (lt_of_block h)).trans h, fun k h1 h2 => (hz k h1 h2).below hb⟩
theorem Ap.row {w : World} {g B n : Nat} {p : List Int} (h : Ap w g p) (hB : B ≤ g) (hn : p.length = n) (hm : n ≤ maxLen) : RowP w B (.slice (some ⟨g, 0, none⟩) n n) p := by
 obtain ⟨us, hl, h, hz⟩ := h
 subst hn
 refine ⟨us, hl, ⟨k'dd hl, Or.inr ⟨g, p.length, _, rfl, hB, h, Nat.le_refl _, hm, ?_, ?_⟩⟩, hz⟩
 ·simp [k'dd hl]
 ·simp only [List.toList_toArray]
  rw [List.take_of_length_le (by rw [k'dd hl]; exact Nat.le_refl _)]
theorem k'ml {p : List Int} {us : List Value} (h : us.length = p.length) (k : Nat) (z : Int) (u : Value) : ((rv p us).set (k * 2) (.bool (decide (z < 0)))).set (k * 2 + 1) u = rv (p.set k z) (us.set k u) := by
 induction p generalizing us k with
 | nil => cases us with
  | nil => rfl
  | cons u us => simp at h
 | cons y p ih =>
  cases us with
  | nil => simp at h
  | cons x us =>
   cases k with
   | zero => rfl
   | succ k =>
    have h2 : us.length = p.length := by simpa using h
    rw [show (k + 1) * 2 = k * 2 + 1 + 1 by omega]
    simp only [rv, List.set_cons_succ]
    rw [ih h2]
theorem Rz.set {w : World} {v old u : Value} {z : Int} {p : Addr} (h : Rz w v z) (hp : w.cell? p = some old) (hno : ∀ n, old ≠ .int .i64 n) : Rz (w.setCell p u) v z := by
 obtain ⟨q, b, off, cap, h1, h2, h3, h4, h5, h6⟩ := h
 refine ⟨q, b, off, cap, h1, h2, h3, h4, h5.imp id (fun g => ⟨g.1, g.2.set _ _⟩), fun k hk => ?_⟩
 rw [World.cell?_setCell_other]
 ·exact h6 k hk
 ·intro e
  subst e
  rw [h6 k hk] at hp
  exact hno _ (Option.some.inj hp).symm
theorem Ap.set {w : World} {g : Nat} {p : List Int} {z : Int} {u : Value} (h : Ap w g p) (k : Nat) (hk : k < p.length) (hu : Rz w u z) : Ap ((w.setCell ⟨g, k * 2, none⟩ (.bool (decide (z < 0)))).setCell ⟨g, k * 2 + 1, none⟩ u) g (p.set k z) := by
 obtain ⟨u0, g0, g1, g2⟩ := h.cell k hk
 obtain ⟨us, hl, h, hz⟩ := h
 have h1 := heap_setCell_same w g (k * 2) _ _ (.bool (decide (z < 0))) h
 have h2 := heap_setCell_same _ g (k * 2 + 1) _ _ u h1
 have hs : ∀ {v' : Value} {z' : Int}, Rz w v' z' → Rz ((w.setCell ⟨g, k * 2, none⟩ (.bool (decide (z < 0)))).setCell ⟨g, k * 2 + 1, none⟩ u) v' z' := fun h' =>
  (h'.set (u := .bool (decide (z < 0))) g0 (fun _ => by simp)).set (old := u0) ((World.cell?_setCell_other w ⟨g, k * 2, none⟩ ⟨g, k * 2 + 1, none⟩ (.bool (decide (z < 0))) (by simp)).trans g1) g2.noint
 refine ⟨us.set k u, by simp [hl], h2.trans ?_, fun j h3 h4 => ?_⟩
 ·rw [← k'ml hl]
  simp
 ·by_cases e : j = k
  ·subst e
   have e1 : (us.set j u)[j]'h3 = u := by simp
   have e2 : (p.set j z)[j]'h4 = z := by simp
   rw [e1, e2]
   exact hs hu
  ·have e1 : (us.set k u)[j]'h3 = us[j]'(by simpa using h3) := by rw [List.getElem_set_ne (Ne.symm e)]
   have e2 : (p.set k z)[j]'h4 = p[j]'(by simpa using h4) := by rw [List.getElem_set_ne (Ne.symm e)]
   rw [e1, e2]
   exact hs (hz j _ _)
theorem Ap.stored {w : World} {g : Nat} {p : List Int} (h : Ap w g p) (k : Nat) (hk : k < p.length) {v : Value} {z : Int} (hv : Rz w v z) (x : Value) (u : Value) : Rz ((w.setCell ⟨g, k * 2, none⟩ x).setCell ⟨g, k * 2 + 1, none⟩ u) v z := by
 obtain ⟨u0, g0, g1, g2⟩ := h.cell k hk
 exact (hv.set (u := x) g0 (fun _ => by simp)).set (old := u0) ((World.cell?_setCell_other w ⟨g, k * 2, none⟩ ⟨g, k * 2 + 1, none⟩ x (by simp)).trans g1) g2.noint
theorem Ap.made (w : World) (n : Nat) : Ap (w.alloc (.cells (rv (List.replicate n 0) (List.replicate n (.slice none 0 0))).toArray 52)) w.heap.size (List.replicate n 0) :=
 ⟨List.replicate n (.slice none 0 0), by simp, heap_alloc_new w _, fun k h1 h2 => by
  have e1 : (List.replicate n (Value.slice none 0 0))[k]'h1 = .slice none 0 0 := by simp
  have e2 : (List.replicate n (0 : Int))[k]'h2 = 0 := by simp
  rw [e1, e2]
  exact k'h6 _⟩
theorem k'qj {x y : Int} (tx : x.natAbs < Top) (ty : y.natAbs < Top) (hy : 0 < y) : vldR (zb x) (zs x) (zb y) (zs y) = true := by
 unfold vldR
 rw [k'5s tx, k'9c (k'5s ty), sgzz, Int.sign_eq_one_of_pos hy]
 rfl
theorem k'qk (d : Nat) (a : Int) : mono d a = Pl.shift d [a] := by
 unfold mono Pl.shift
 rw [List.replicate_succ', List.set_append_right _ _ (by simp), List.length_replicate, Nat.sub_self, List.set_cons_zero]
theorem k'ql (d : Nat) (a : Int) (k : Nat) : Pl.cf (mono d a) k = if k = d then a else 0 := by
 rw [k'qk, Pl.cf_shift]
 by_cases h : d ≤ k
 ·rw [if_pos h]
  by_cases e : k = d
  ·subst e; simp [Pl.cf]
  ·rw [if_neg e, Pl.cf_ge (by simp; omega)]
 ·rw [if_neg h, if_neg (by omega)]
theorem k'qm (d : Nat) (a : Int) : mono d a ≠ [] := by
 intro e
 have := k'qe d a
 rw [e] at this
 simp at this
theorem k'qn {a : Int} (d : Nat) (ha : a ≠ 0) : Pl.Nrm (mono d a) := by
 intro h
 rw [← Pl.cf_lt (by omega), k'ql, k'qe]
 simpa using ha
theorem k'qo {d : Nat} {a x : Int} (h : x ∈ mono d a) : x = 0 ∨ x = a := by
 obtain ⟨k, hk, rfl⟩ := List.mem_iff_getElem.1 h
 rw [← Pl.cf_lt hk, k'ql]
 split
 ·exact Or.inr rfl
 ·exact Or.inl rfl
theorem k'qp (d : Nat) (a : Int) : Pl.mx (mono d a) = a.natAbs := by
 refine Nat.le_antisymm (Pl.mx_le fun k _ => ?_) ?_
 ·rw [k'ql]; split <;> simp
 ·have := Pl.mx_cf (mono d a) d
  rwa [k'ql, if_pos rfl] at this
theorem k'qq (n : Nat) : ((2 ^ n : Nat) : Int).natAbs = 2 ^ n := Int.natAbs_natCast _
theorem k'qr (n : Nat) : ((2 ^ n : Nat) : Int) ≠ 0 := by
 have h : 0 < 2 ^ n := Nat.pow_pos (by decide)
 intro e
 have := congrArg Int.natAbs e
 rw [k'qq] at this
 simp at this
theorem k'qs {n : Nat} (h : n < 65536) : ((2 ^ n : Nat) : Int).natAbs < Top := by
 rw [k'qq]
 obtain ⟨K, hK⟩ : ∃ K : Nat, K = 65536 := ⟨_, rfl⟩
 rw [← hK] at h
 exact Nat.lt_of_lt_of_le (Nat.pow_lt_pow_right (by decide) h) (k'j4 (by omega))
theorem k'qt {d n : Nat} (hd : d ≤ 24) (hn : n < 65536) : VP (mono d ((2 ^ n : Nat) : Int)) := by
 refine ⟨k'qn d (k'qr n), by rw [k'qe]; omega, fun a ha => ?_⟩
 rcases k'qo ha with rfl | rfl
 ·have := k'qs hn
  have h0 : (0 : Int).natAbs = 0 := rfl
  rw [h0]
  omega
 ·exact k'qs hn
theorem k'qu {n : Nat} (hn : n < 65536) : lenV (zb ((2 ^ n : Nat) : Int)) (zs ((2 ^ n : Nat) : Int)) = ((n + 1 : Nat) : Int) := by
 have ht := k'qs hn
 have hv := k'5s ht
 rw [k'9f hv]
 have hb := bv_zs ((2 ^ n : Nat) : Int)
 rw [k'qq] at hb
 have hp : 0 < 2 ^ n := Nat.pow_pos (by decide)
 rcases Nat.eq_zero_or_pos (zs ((2 ^ n : Nat) : Int)).size with g | g
 ·have := k'42 g
  rw [this] at hb
  have h0 : bv ⟨#[]⟩ = 0 := rfl
  omega
 ·obtain ⟨l, h1, h2, h3, h4⟩ := k'4d (k'40 hv) g
  rw [hb] at h3 h4
  rw [h1]
  have a1 : l - 1 ≤ n := (Nat.pow_le_pow_iff_right (by decide : 1 < 2)).1 h3
  have a2 : n < l := (Nat.pow_lt_pow_iff_right (by decide : 1 < 2)).1 h4
  omega
theorem k'qv : lenV (zb 0) (zs 0) = 0 := by rfl
theorem k'qw {d n : Nat} (hn : n < 65536) : glb (zl (mono d ((2 ^ n : Nat) : Int))) = ((n + 1 : Nat) : Int) := by
 have h1 : glb (zl (mono d ((2 ^ n : Nat) : Int))) ≤ ((n + 1 : Nat) : Int) := by
  refine k'ic _ _ (by omega) ?_
  intro x hx
  obtain ⟨z, hz, rfl⟩ := List.mem_map.1 hx
  rcases k'qo hz with rfl | rfl
  ·rw [k'qv]; omega
  ·rw [k'qu hn]; exact Int.le_refl _
 have h2 : (zb ((2 ^ n : Nat) : Int), zs ((2 ^ n : Nat) : Int)) ∈ zl (mono d ((2 ^ n : Nat) : Int)) := by
  refine List.mem_map.2 ⟨((2 ^ n : Nat) : Int), ?_, rfl⟩
  have hl : d < (mono d ((2 ^ n : Nat) : Int)).length := by rw [k'qe]; omega
  have := k'ql d ((2 ^ n : Nat) : Int) d
  rw [if_pos rfl, Pl.cf_lt hl] at this
  have h5 := List.getElem_mem hl
  rwa [this] at h5
 have h3 := k'fv h2
 simp only [k'qu hn] at h3
 omega
def SM (p q : List Int) : Prop := ∃ i, i ≤ 24 ∧ p = mono i 1 ∧ ((∃ j, j ≤ 24 ∧ q = mono j 1) ∨ q = [])
theorem k'qx (d : Nat) (a x : Int) : Pl.ev (mono d a) x = x ^ d * a := by
 rw [k'qk, Pl.ev_shift]
 simp [Pl.ev]
theorem k'qy {i j : Nat} (h : j ≤ i) : Pl.rest (mono i 1) (mono j 1) = [] := by
 refine Pl.Dv.rest_nil (k'qn j (by decide)) (k'qm j 1) ⟨1, by decide, mono (i - j) 1, fun x => ?_⟩
 rw [k'qx, k'qx, k'qx, Int.one_mul, Int.mul_one, Int.mul_one, Int.mul_one, ← Int.pow_add]
 congr 1
 omega
theorem k'qz : (1 : Int).natAbs < Top := k'je ⟨by decide, by decide⟩
theorem k'r0 : (0 : Int).natAbs < Top := k'je ⟨by decide, by decide⟩
theorem k'r1 {i : Nat} : ∀ a ∈ mono i 1, a.natAbs < Top := fun a ha => by
 rcases k'qo ha with rfl | rfl
 ·exact k'r0
 ·exact k'qz
theorem k'r2 : Pl.Euk SM := by
 refine ⟨?_, ?_, ?_, ?_⟩
 ·rintro p q ⟨i, hi, rfl, -⟩; exact k'r1
 ·rintro p q ⟨i, hi, rfl, ⟨j, hj, rfl⟩ | rfl⟩
  ·exact k'r1
  ·intro a ha; cases ha
 ·rintro p q ⟨i, hi, rfl, ⟨j, hj, rfl⟩ | rfl⟩ h1 h2
  ·rw [k'qp, k'qp]
   simp only [Int.natAbs_one, Nat.mul_one]
   refine Nat.lt_of_lt_of_le (m := 2 ^ 64) (Nat.pow_lt_pow_right (by decide) (by rw [k'qe]; omega)) (k'j4 (by decide))
  ·simp at h1
 ·rintro p q ⟨i, hi, rfl, ⟨j, hj, rfl⟩ | rfl⟩ h1 h2
  ·rw [k'qe, k'qe] at h2
   rw [k'qy (by omega)]
   exact ⟨j, hj, rfl, Or.inr rfl⟩
  ·simp at h1
theorem k'r3 (d : Nat) : Pl.cont (mono d 1) = 1 := by
 have h := Pl.cont_dvd_cf (mono d 1) d
 rw [k'ql, if_pos rfl] at h
 have h2 := Int.ofNat_dvd.1 (show ((Pl.cont (mono d 1) : Nat) : Int) ∣ ((1 : Nat) : Int) from h)
 exact Nat.dvd_one.1 h2
theorem k'r4 {a : Int} (d : Nat) (ha : 0 < a) : Pl.prim (mono d a) = mono d 1 := by
 have e : mono d a = Pl.scl a (mono d 1) := Pl.ext_cf (by rw [k'qe, Pl.scl_length, k'qe]) fun k _ => by
  rw [k'ql, Pl.cf_scl, k'ql]
  split <;> omega
 have h1 : Pl.prim (mono d 1) = mono d 1 := by
  have := Pl.scl_prim (mono d 1)
  rw [k'r3] at this
  rw [show ((1 : Nat) : Int) = 1 from rfl, Pl.scl_one] at this
  exact this
 rw [e, Pl.prim_scl (by omega), Int.sign_eq_one_of_pos ha, Pl.scl_one, h1]
theorem k'r5 {T : List Int} {w' w : World} {e : Ending} (h : ResP T w e w') : ∃ a c, e = .returned (.tuple #[.slice a T.length c, .int .i64 0]) ∧ Below w.heap.size w w' := by
 obtain ⟨v, h1, h2, h3⟩ := h
 obtain ⟨a, b, o, c, rfl, -⟩ := h2.open_
 exact ⟨a, c, h1, h3⟩
theorem out_x {T : List Int} {w' w : World} {e : Ending} {f : Bool} (hf : f = false) (h : ResP T w e w') : ∃ a n c x, e = .returned (.tuple #[.slice a n c, .int .i64 x]) ∧ ((x : Int) == 7) = f ∧ Below w.heap.size w w' := by
 obtain ⟨a, c, h1, h2⟩ := k'r5 h
 exact ⟨a, _, c, 0, h1, by rw [hf]; rfl, h2⟩
theorem out_7 {w' w : World} {e : Ending} (h : ResE 7 w e w') : ∃ a n c, e = .returned (.tuple #[.slice a n c, .int .i64 7]) ∧ Below w.heap.size w w' := ⟨none, 0, 0, h.1, h.2⟩
theorem k'r6 {w' w : World} {e : Ending} {f : Bool} (hf : f = true) (h : ResE 7 w e w') : ∃ a n c x, e = .returned (.tuple #[.slice a n c, .int .i64 x]) ∧ ((x : Int) == 7) = f ∧ Below w.heap.size w w' := ⟨none, 0, 0, 7, h.1, by rw [hf]; rfl, h.2⟩
theorem k'r7 : zb 1 = false ∧ zs 1 = ⟨#[1]⟩ := ⟨rfl, by rfl⟩
theorem k'r8 (d b s m : Nat) (w : World) (hd : d ≤ 24) (hb0 : 1 ≤ b) (hb : b ≤ 65536) (hs : s ≤ 24) (hm0 : 1 ≤ m) (hm : m ≤ 65536) :
 Calls Tryz.prog 9 #[.int .i64 (d : Int), .int .i64 (b : Int), .int .i64 (s : Int), .int .i64 (m : Int)] w (Ret (.bool true) w) := by
 obtain ⟨b', rfl⟩ : ∃ b', b = b' + 1 := ⟨b - 1, by omega⟩
 obtain ⟨m', rfl⟩ : ∃ m', m = m' + 1 := ⟨m - 1, by omega⟩
 obtain ⟨A, hA⟩ : ∃ A : Int, A = ((2 ^ b' : Nat) : Int) := ⟨_, rfl⟩
 obtain ⟨B, hB⟩ : ∃ B : Int, B = ((2 ^ m' : Nat) : Int) := ⟨_, rfl⟩
 have vp : VP (mono d A) := by rw [hA]; exact k'qt hd (by omega)
 have vq : VP (mono s B) := by rw [hB]; exact k'qt hs (by omega)
 have gp : glb (zl (mono d A)) = ((b' + 1 : Nat) : Int) := by rw [hA]; exact k'qw (by omega)
 have gq : glb (zl (mono s B)) = ((m' + 1 : Nat) : Int) := by rw [hB]; exact k'qw (by omega)
 have tA : A.natAbs < Top := by rw [hA]; exact k'qs (by omega)
 have tB : B.natAbs < Top := by rw [hB]; exact k'qs (by omega)
 have aA : A.natAbs = 2 ^ b' := by rw [hA]; exact k'qq _
 have pA : 0 < A := by have := k'qr b'; have := Int.natCast_nonneg (2 ^ b'); omega
 have pB : 0 < B := by have := k'qr m'; have := Int.natCast_nonneg (2 ^ m'); omega
 have lB : lenV (zb B) (zs B) = ((m' + 1 : Nat) : Int) := by rw [hB]; exact k'qu (by omega)
 have l1 : lenV (zb 1) (zs 1) = 1 := by rfl
 have smp := k'd7 vp.top
 have smq := k'd7 vq.top
 have zB : (zs B).size ≤ 140737488351232 := by have := k'5t tB; omega
 have z1 : (zs 1).size ≤ 140737488351232 := by have := k'5t k'qz; omega
 have lp : (zl (mono d A)).length = d + 1 := by rw [k'cc, k'qe]
 have lq : (zl (mono s B)).length = s + 1 := by rw [k'cc, k'qe]
 have HPb := fun w' => k'q5 b' (by omega) w'
 have HPm := fun w' => k'q5 m' (by omega) w'
 rw [← hA] at HPb
 rw [← hB] at HPm
 have HP0 := fun w' => k'q5 0 (by omega) w'
 have e1 : ((2 ^ 0 : Nat) : Int) = 1 := rfl
 rw [e1, k'r7.1, k'r7.2] at HP0
 clear hA hB
 have vr : vldR (zb B) (zs B) (zb 1) (zs 1) = true := k'qj tB k'qz (by decide)
 have gB1 : glb [(zb B, zs B), (zb 1, zs 1)] = ((m' + 1 : Nat) : Int) := by
  simp only [glb, List.foldl_cons, List.foldl_nil, lB, l1]
  omega
 have gB3 : glb [(zb B, zs B), (zb 1, zs 1), (zb 1, zs 1)] = ((m' + 1 : Nat) : Int) := by
  simp only [glb, List.foldl_cons, List.foldl_nil, lB, l1]
  omega
 have ev : ckv (zl (mono d A)) (zb B) (zs B) (zb 1) (zs 1) = if 65536 < ((b' + 1 : Nat) : Int) + ((d * (m' + 1) : Nat) : Int) + 8 then 7 else 0 := by
  unfold ckv tlg
  rw [vp.ok, vr, if_pos (show (true && true) = true from rfl), gB1, lp, gp]
  simp only [decide_eq_true_eq]
  have : (((d + 1 : Nat) : Int) - 1) * ((m' + 1 : Nat) : Int) = ((d * (m' + 1) : Nat) : Int) := by simp
  rw [this]
  by_cases h : 65536 < ((b' + 1 : Nat) : Int) + ((d * (m' + 1) : Nat) : Int) + 8
  ·rw [if_pos ⟨by omega, h⟩, if_pos h]
  ·rw [if_neg (fun hh => h hh.2), if_neg h]
 have cv : ckc (zl (mono d A)) (zb B) (zs B) (zb 1) (zs 1) (zb 1) (zs 1) = if 65536 < ((b' + 1 : Nat) : Int) + ((d * (m' + 1 + 1) : Nat) : Int) + 8 then 7 else 0 := by
  unfold ckc tlg
  rw [vp.ok, k'5s tB, k'5s k'qz, if_pos (show (true && true && true && true) = true from rfl), k'9c (k'5s k'qz), sgzz, if_neg (by decide), gB3, lp, gp]
  simp only [decide_eq_true_eq]
  have : (((d + 1 : Nat) : Int) - 1) * (((m' + 1 : Nat) : Int) + 1) = ((d * (m' + 1 + 1) : Nat) : Int) := by simp
  rw [this]
  by_cases h : 65536 < ((b' + 1 : Nat) : Int) + ((d * (m' + 1 + 1) : Nat) : Int) + 8
  ·rw [if_pos ⟨by omega, h⟩, if_pos h]
  ·rw [if_neg (fun hh => h hh.2), if_neg h]
 obtain ⟨n, hn⟩ : ∃ n : Nat, n = max d s + 3 := ⟨_, rfl⟩
 obtain ⟨k, hk⟩ : ∃ k : Nat, k = max (b' + 1) (m' + 1) := ⟨_, rfl⟩
 have gv : ckg (zl (mono d A)) (zl (mono s B)) = if 65536 < ((n * n * (k + 8) : Nat) : Int) then 7 else 0 := by
  unfold ckg
  rw [vp.ok, vq.ok, if_pos (show (true && true) = true from rfl), lp, lq, gp, gq]
  have a1 : max (((d + 1 : Nat) : Int) - 1) (((s + 1 : Nat) : Int) - 1) + 3 = (n : Int) := by omega
  have a2 : max ((b' + 1 : Nat) : Int) ((m' + 1 : Nat) : Int) + 8 = ((k + 8 : Nat) : Int) := by omega
  rw [a1, a2]
  have a3 : (n : Int) * (n : Int) * ((k + 8 : Nat) : Int) = ((n * n * (k + 8) : Nat) : Int) := by simp
  rw [a3]
  by_cases h : 65536 < ((n * n * (k + 8) : Nat) : Int)
  ·rw [if_pos ⟨by omega, by omega, h⟩, if_pos h]
  ·rw [if_neg (fun hh => h hh.2.2), if_neg h]
 have rv : ckd (zl (mono d A)) (zl (mono s B)) = if s ≤ d ∧ 65536 < ((b' + 1 : Nat) : Int) + (((d + 1 - s) * (m' + 1 + 1) : Nat) : Int) then 7 else 0 := by
  unfold ckd
  rw [vp.ok, vq.ok, if_pos (show (true && true) = true from rfl), lp, lq, gp, gq, if_neg (by omega)]
  by_cases hsd : s ≤ d
  ·have a1 : ((d + 1 : Nat) : Int) - ((s + 1 : Nat) : Int) + 1 = ((d + 1 - s : Nat) : Int) := by omega
   rw [a1]
   have a2 : ((d + 1 - s : Nat) : Int) * (((m' + 1 : Nat) : Int) + 1) = (((d + 1 - s) * (m' + 1 + 1) : Nat) : Int) := by simp
   rw [a2]
   by_cases h : 65536 < ((b' + 1 : Nat) : Int) + (((d + 1 - s) * (m' + 1 + 1) : Nat) : Int)
   ·rw [if_pos ⟨by omega, h⟩, if_pos ⟨hsd, h⟩]
   ·rw [if_neg (fun hh => h hh.2), if_neg (fun hh => h hh.2)]
  ·rw [if_neg (fun hh => by have := hh.1; omega), if_neg (fun hh => hsd hh.1)]
 have hdm : d * (m' + 1) ≤ 24 * 65536 := Nat.mul_le_mul hd hm
 have hcm : d * (m' + 1 + 1) ≤ 24 * 65537 := Nat.mul_le_mul hd (by omega)
 have hnn : n * n ≤ 27 * 27 := Nat.mul_le_mul (by omega) (by omega)
 have hgg : n * n * (k + 8) ≤ 27 * 27 * 65544 := Nat.mul_le_mul hnn (by omega)
 have hpr : (d + 1 - s) * (m' + 1 + 1) ≤ 25 * 65537 := Nat.mul_le_mul (by omega) (by omega)
 refine k'qf d (b' + 1) s (m' + 1) b' m' (d + 1) (s + 1) (d * (m' + 1)) (d * (m' + 1 + 1)) (max d s) k (n * n) (n * n * (k + 8)) (d + 1 - s) ((d + 1 - s) * (m' + 1 + 1)) (d + s + 1) (b' + 1 + (m' + 1) + 5) A B _ _ _ _ w hd hb0 hb hs hm0 hm
  (by omega) (by omega) (by omega) (by omega) (by omega) (by omega) (by simp) (by simp) (by omega) (by omega) ?_ (by simp) (fun h => by omega) (by simp) (fun h => Nat.mul_pos (by omega) (by omega)) ⟨by omega, by omega, by omega, by omega, by omega, by omega⟩ rfl rfl rfl rfl
  HPb HPm HP0 ?_ ?_ ?_ ?_ ?_ ?_
 ·have : ((max d s : Nat) : Int) + 3 = (n : Int) := by omega
  rw [this]; simp
 ·by_cases h1 : 24 < d + s
  ·refine Or.inl ⟨by omega, fun w' va vb ha hb => (k'gv (zl (mono d A)) (zl (mono s B)) va vb 7 w' ha hb smp smq ?_ (by decide)).mono fun _ _ h => out_7 h⟩
   unfold ckm
   rw [vp.ok, vq.ok, if_pos (show (true && true) = true from rfl), lp, lq, if_neg (by omega), if_pos (by omega)]
  ·by_cases h2 : 65536 < b' + 1 + (m' + 1) + 5
   ·refine Or.inr (Or.inl ⟨by omega, by omega, fun w' va vb ha hb => (k'gv (zl (mono d A)) (zl (mono s B)) va vb 7 w' ha hb smp smq ?_ (by decide)).mono fun _ _ h => out_7 h⟩)
    unfold ckm
    rw [vp.ok, vq.ok, if_pos (show (true && true) = true from rfl), lp, lq, gp, gq, if_neg (by omega), if_pos (by omega)]
   ·refine Or.inr (Or.inr ⟨by omega, by omega, fun w' va vb ha hb => (k'gz (mono d A) (mono s B) va vb w' ha hb vp vq ?_ (k'qm _ _) (k'qm _ _)).mono fun _ _ h => ?_⟩)
    ·unfold ckm
     rw [vp.ok, vq.ok, if_pos (show (true && true) = true from rfl), lp, lq, gp, gq, if_neg (by omega), if_neg (by omega)]
    ·have := k'r5 h
     rwa [Pl.mul_length _ _ (k'qm _ _) (k'qm _ _), k'qe, k'qe, show d + 1 + (s + 1) - 1 = d + s + 1 by omega] at this
 ·by_cases h1 : b' + 1 = 65536
  ·refine Or.inl ⟨by omega, fun w' va ha => (k'ga (mono d A) (mono d A) va va w' ha ha vp vp).mono fun _ _ h => ?_⟩
   rcases h with ⟨h, -⟩ | ⟨-, h⟩
   ·refine absurd (h d) ?_
    rw [k'ql, if_pos rfl]
    have e : (A + A).natAbs = 2 ^ (b' + 1) := by rw [Nat.pow_succ]; omega
    rw [e]
    unfold Top
    rw [← k'3m] at h1
    rw [h1]
    exact Nat.lt_irrefl _
   ·exact out_7 h
  ·refine Or.inr ⟨by omega, fun w' va ha => (k'ga (mono d A) (mono d A) va va w' ha ha vp vp).mono fun _ _ h => ?_⟩
   rcases h with ⟨-, h⟩ | ⟨⟨k, hk⟩, -⟩
   ·have := k'r5 h
    have e : Pl.trim (zipL (· + ·) (mono d A) (mono d A)) = mono d (A + A) := Pl.nrm_ext (Pl.nrm_trim _) (k'qn d (by omega)) fun k => by
     rw [k'i7, Pl.cf_trim, Pl.cf_add, k'ql, k'ql]
     split <;> omega
    rwa [e, k'qe] at this
   ·refine absurd ?_ hk
    rw [k'ql]
    split
    ·have e : (A + A).natAbs = 2 ^ (b' + 1) := by rw [Nat.pow_succ]; omega
     rw [e]
     have := k'qs (n := b' + 1) (by omega)
     rwa [k'qq] at this
    ·exact k'r0
 ·intro w' va ha
  by_cases h : 65536 < ((b' + 1 : Nat) : Int) + ((d * (m' + 1) : Nat) : Int) + 8
  ·rw [if_pos h] at ev
   have := k'j0 (zl (mono d A)) va (zb B) (zb 1) (zs B) (zs 1) 7 w' ha smp zB z1 ev (by decide)
   refine this.mono fun _ _ hh => ⟨_, _, 7, hh.1, ?_, hh.2⟩
   rw [decide_eq_true h]; rfl
  ·rw [if_neg h] at ev
   have := k'j8 (mono d A) va B 1 w' ha vp tB k'qz ev
   refine this.mono fun _ _ hh => ⟨_, _, 0, hh.1, ?_, hh.2⟩
   rw [decide_eq_false h]; rfl
 ·intro w' va ha
  by_cases h : 65536 < ((b' + 1 : Nat) : Int) + ((d * (m' + 1 + 1) : Nat) : Int) + 8
  ·rw [if_pos h] at cv
   exact (k'kj (zl (mono d A)) va (zb B) (zb 1) (zb 1) (zs B) (zs 1) (zs 1) 7 w' ha smp zB z1 z1 cv (by decide)).mono fun _ _ hh => k'r6 (decide_eq_true h) hh
  ·rw [if_neg h] at cv
   exact (k'ko (mono d A) va B 1 1 w' ha vp tB k'qz k'qz cv).mono fun _ _ hh => out_x (decide_eq_false h) hh
 ·intro w' va vb ha hb
  by_cases h : 65536 < ((n * n * (k + 8) : Nat) : Int)
  ·rw [if_pos h] at gv
   exact (k'jv (zl (mono d A)) (zl (mono s B)) va vb 7 w' ha hb smp smq gv (by decide)).mono fun _ _ hh => k'r6 (decide_eq_true h) hh
  ·rw [if_neg h] at gv
   refine (k'jw (mono d A) (mono s B) va vb w' ha hb vp vq gv SM k'r2 (fun _ => ?_) (fun _ => ?_)).mono fun _ _ hh => out_x (decide_eq_false h) hh
   ·rw [k'r4 d pA, k'r4 s pB]; exact ⟨d, hd, rfl, Or.inl ⟨s, hs, rfl⟩⟩
   ·rw [k'r4 d pA, k'r4 s pB]; exact ⟨s, hs, rfl, Or.inl ⟨d, hd, rfl⟩⟩
 ·by_cases hsd : s ≤ d
  ·refine Or.inr ⟨by omega, fun w' va vb ha hb => ?_⟩
   by_cases h : 65536 < ((b' + 1 : Nat) : Int) + (((d + 1 - s) * (m' + 1 + 1) : Nat) : Int)
   ·rw [if_pos ⟨hsd, h⟩] at rv
    exact (k'fz (zl (mono d A)) (zl (mono s B)) va vb 7 w' ha hb smp smq rv (by decide)).mono fun _ _ hh => k'r6 (decide_eq_true h) hh
   ·rw [if_neg (fun hh => h hh.2)] at rv
    exact (k'g0 (mono d A) (mono s B) va vb w' ha hb vp vq rv).mono fun _ _ hh => out_x (decide_eq_false h) hh
  ·refine Or.inl ⟨by omega, fun w' va vb ha hb => ?_⟩
   rw [if_neg (fun hh => hsd hh.1)] at rv
   exact (k'g0 (mono d A) (mono s B) va vb w' ha hb vp vq rv).mono fun _ _ hh => out_x rfl hh
theorem k'r9 (d b s m : Int) (w : World) : Calls Tryz.prog 9 #[.int .i64 d, .int .i64 b, .int .i64 s, .int .i64 m] w (Ret (.bool true) w) := by
 by_cases q0 : d < 0
 ·exact k'q6 d b s m w q0
 by_cases q1 : 24 < d
 ·exact k'q7 d b s m w q0 q1
 by_cases q2 : b < 1
 ·exact k'q8 d b s m w q0 q1 q2
 by_cases q3 : 65536 < b
 ·exact k'q9 d b s m w q0 q1 q2 q3
 by_cases q4 : s < 0
 ·exact k'qa d b s m w q0 q1 q2 q3 q4
 by_cases q5 : 24 < s
 ·exact k'qb d b s m w q0 q1 q2 q3 q4 q5
 by_cases q6 : m < 1
 ·exact k'qc d b s m w q0 q1 q2 q3 q4 q5 q6
 by_cases q7 : 65536 < m
 ·exact k'qd d b s m w q0 q1 q2 q3 q4 q5 q6 q7
 obtain ⟨d, rfl⟩ : ∃ n : Nat, d = n := ⟨d.toNat, by omega⟩
 obtain ⟨b, rfl⟩ : ∃ n : Nat, b = n := ⟨b.toNat, by omega⟩
 obtain ⟨s, rfl⟩ : ∃ n : Nat, s = n := ⟨s.toNat, by omega⟩
 obtain ⟨m, rfl⟩ : ∃ n : Nat, m = n := ⟨m.toNat, by omega⟩
 exact k'r8 d b s m w (by omega) (by omega) (by omega) (by omega) (by omega) (by omega)
end Go.Proofs.YtepddegphdlbeaaGreat
namespace Go.Proofs.YtepddegphdlbeaaGreat
open Go.ChangeShapes Go.WideShapes Go.ChangeAt Go.RowKit Go.Joins
open Go.ChangeMaps (open_string shut_string)
theorem k'ra (os : Os) (started : os.Started) (H : Type) (enc : TypeId × Value → H) :
 ReturnsInHanded {} Tryz.checked os 9 .any (Rows.polyLimitsSpec.pre6 enc Tryz.prog Tryz.f9 Rows.polyLimitsRow.domain false) (Rows.polyLimitsSpec.post enc Tryz.prog Tryz.f9 false true false false) := by
 refine returnsInHanded_of_change (C := Tryz.checked) Tryz.own started (by kernel_rfl) Tryz.func9
  (ChangeSpec.witness6 (enc := enc) (C := Tryz.checked) false ⟨#[], #[.int .i64 0, .int .i64 0, .int .i64 0, .int .i64 0], []⟩ 8 (by kernel_rfl) (by kernel_rfl) (by kernel_rfl) (by kernel_rfl)) ?_
 intro W base args ds gs before hval0 hW hcnd _
 have hval : ∀ (j : Nat) t v, Tryz.f9.params[j]? = some t → args[j]? = some v → Value.okWide Tryz.prog W .any base t v := hval0
 have hW' := hW
 obtain ⟨p, q, hA0, hV, rfl, hfz, hnd⟩ := hW
 have hA : DataW.TrodAll enc Tryz.prog W 0 (fun _ => true) true Tryz.f9.params.toList args.toList ds p := hA0
 rw [Tryz.params9] at hA hval
 obtain ⟨v0, v1, v2, v3, d0, d1, d2, d3, p0, p1, p2, p3, rfl, rfl, rfl, h0, h1, h2, h3⟩ := trodAll_four hA
 obtain ⟨rfl, rfl⟩ := trodVars_none hV
 obtain ⟨n0, rfl, rfl, rfl, wn0⟩ := open_int Tryz.underlying3 (hval 0 3 v0 rfl rfl) h0
 obtain ⟨n1, rfl, rfl, rfl, wn1⟩ := open_int Tryz.underlying3 (hval 1 3 v1 rfl rfl) h1
 obtain ⟨n2, rfl, rfl, rfl, wn2⟩ := open_int Tryz.underlying3 (hval 2 3 v2 rfl rfl) h2
 obtain ⟨n3, rfl, rfl, rfl, wn3⟩ := open_int Tryz.underlying3 (hval 3 3 v3 rfl rfl) h3
 clear hA0 hval0
 refine (k'r9 n0 n1 n2 n3 W).mono fun e W' ⟨he, bel⟩ => ?_
 subst he
 exact ⟨_, rfl, _, _, _, [], _, [], hW', trodAll_mk1 (shut_bool Tryz.underlying4 _), trodAll_mk4 (shut_int Tryz.underlying3 wn0) (shut_int Tryz.underlying3 wn1) (shut_int Tryz.underlying3 wn2) (shut_int Tryz.underlying3 wn3), rfl, bel.frame _, fun h => by cases h⟩
theorem plimits_holds : Rows.PolyLimitsSaid :=
 OpenClaim.holds_of_wide 9 Tryz.f9 rfl rfl rfl rfl rfl rfl rfl ⟨rfl, rfl, rfl, rfl, rfl⟩ rfl rfl rfl rfl rfl (by kernel_rfl) Tryz.func9 (by kernel_rfl)
  (of_decide_eq_true (by kernel_rfl)) (by unfold Func.isWrapper; first | (rw [if_pos (by decide +kernel)]; kernel_rfl) | (rw [if_neg (by decide +kernel)]; exact ⟨rfl, rfl⟩))
  (fun os started H enc _ => k'ra os started H enc)
end Go.Proofs.YtepddegphdlbeaaGreat
