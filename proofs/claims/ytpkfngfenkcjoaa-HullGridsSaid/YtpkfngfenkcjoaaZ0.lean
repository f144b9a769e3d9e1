/- What the theorem leans on, part 0: Va, Vb, Vc, Vd, Vf, Vh, Vi, Ve, Vg, Vj. -/
import Derived.Test.YtpkfngfenkcjoaaProg
import Derived.WalkKit
import Derived.WalkSpells
import Derived.WalkLawsBesides
import Derived.Lib.Hide
import Derived.Deep.QuietTactic
import Derived.BigQuiet
import Derived.Deep.RegionHeld3
import Derived.IntWalk
import Derived.Deep.DeepCutAuto

/- Vectors as values; what a call leaves as it was; the leaves: sums, differences, products, smaller and greater ones. -/
set_option linter.all false
namespace Go.Proofs.Ytpkfngfenkcjoaa
open Go.RowKit

/-- A vector as a value. -/
abbrev vv (x y z : Int) : Value := .agg #[.int .i64 x, .int .i64 y, .int .i64 z]
def Ret (v : Value) (w : World) (e : Ending) (w' : World) : Prop := e = .returned v ∧ Below w.heap.size w w'
def Qt (v : Value) (w : World) (e : Ending) (w' : World) : Prop := e = .returned v ∧ w = w'
/-- A word of 64 bits. -/
def I64 (n : Int) : Prop := -9223372036854775808 ≤ n ∧ n ≤ 9223372036854775807

theorem at_old {w wr : World} (hb : Below w.heap.size w wr) {a : Addr} {v : Value} (h : w.cell? a = some v) : wr.cell? a = some v :=
  (hb.cell (World.block_lt_of_cell? w a h)).trans h
theorem chain {w0 W W' : World} (h : Below w0.heap.size w0 W) (k : Below W.heap.size W W') : Below w0.heap.size w0 W' := h.trans (k.mono h.size)
theorem keep1 {w0 W' : World} (hb : Below w0.heap.size w0 W') {p : Addr} {v : Value} (h : w0.cell? p = some v) : W'.cell? p = some v := at_old hb h
theorem keepf {w0 W' : World} (hb : Below w0.heap.size w0 W') {p : Addr} {v : Value} (h : w0.cell? p = some v) (hf : w0.frozen? p = false) : W'.frozen? p = false :=
  (hb.frozen (World.block_lt_of_cell? w0 p h)).trans hf
theorem below_one (w : World) (o : Obj) : Below w.heap.size w (w.alloc o) := (Below.refl _ _).alloc (Nat.le_refl _) _
theorem undrew {w w' : World} (b : Below w.drew.heap.size w.drew w') : Below w.heap.size w w' := ⟨b.os, b.tape, b.output, b.size, b.block⟩
theorem below_drewN {B : Nat} {w w' : World} (h : Below B w w') (n : Nat) : Below B w (w'.drewN n) := ⟨h.os, h.tape, h.output, h.size, h.block⟩
theorem cell_drew (w : World) (a : Addr) : w.drew.cell? a = w.cell? a := rfl
theorem wrap_in {n : Int} (h : -9223372036854775808 ≤ n ∧ n ≤ 9223372036854775807) : IntKind.i64.wrap n = n := Go.IntWalk.i64_in n h

theorem sub1_any (x y s : Int) (h : IntKind.i64.wrap (x - y) = s) (w : World) : Calls Try.prog 76 #[.int .i64 x, .int .i64 y] w (Qt (.int .i64 s) w) := by
  go_enter Try.func76, Try.ntmps76
  go_wp2
  go_ret
  exact ⟨rfl, rfl⟩
theorem mul1_any (x y s : Int) (h : IntKind.i64.wrap (x * y) = s) (w : World) : Calls Try.prog 90 #[.int .i64 x, .int .i64 y] w (Qt (.int .i64 s) w) := by
  go_enter Try.func90, Try.ntmps90
  go_wp2
  go_ret
  exact ⟨rfl, rfl⟩
theorem isnan_any (x : Int) (w : World) : Calls Try.prog 89 #[.int .i64 x] w (Qt (.bool false) w) := by
  go_enter Try.func89, Try.ntmps89
  go_wp2
  go_ret
  exact ⟨rfl, rfl⟩
/-- -1, 0 or 1. -/
def cmpI (a b : Int) : Int := if a < b then -1 else if b < a then 1 else 0
theorem cmp_any (x y : Int) (w : World) : Calls Try.prog 73 #[.int .i64 x, .int .i64 y] w (Qt (.int .i64 (cmpI x y)) w) := by
  rcases Int.lt_trichotomy x y with h | h | h
  · have E : cmpI x y = -1 := by simp [cmpI, h]
    rw [E]
    go_enter Try.func73, Try.ntmps73
    go_wp2
    go_ret
    exact ⟨rfl, rfl⟩
  · subst h
    have E : cmpI x x = 0 := by simp [cmpI]
    rw [E]
    go_enter Try.func73, Try.ntmps73
    go_wp2
    go_ret
    exact ⟨rfl, rfl⟩
  · have h2 : ¬ x < y := by omega
    have E : cmpI x y = 1 := by simp [cmpI, h, h2]
    rw [E]
    go_enter Try.func73, Try.ntmps73
    go_wp2
    go_ret
    exact ⟨rfl, rfl⟩
end Go.Proofs.Ytpkfngfenkcjoaa

/- A vector in memory; vector.within, vector.Valid, vector.Point. -/
set_option linter.all false
namespace Go.Proofs.Ytpkfngfenkcjoaa
open Go.RowKit

/-- The parts of a vector in a block. -/
def V3 (w : World) (g : Nat) (x y z : Int) : Prop := w.cell? ⟨g, 0, none⟩ = some (.int .i64 x) ∧ w.cell? ⟨g, 1, none⟩ = some (.int .i64 y) ∧ w.cell? ⟨g, 2, none⟩ = some (.int .i64 z)
theorem V3.below {w w' : World} {g : Nat} {x y z : Int} (h : V3 w g x y z) (hb : Below w.heap.size w w') : V3 w' g x y z := ⟨keep1 hb h.1, keep1 hb h.2.1, keep1 hb h.2.2⟩
def inB (m x : Int) : Bool := decide (-m ≤ x ∧ x ≤ m)
/-- Parts of a limited magnitude. -/
def inV (m x y z : Int) : Bool := inB m x && (inB m y && inB m z)
theorem inB_lo {m x : Int} (h : x < -m) : inB m x = false := by unfold inB; rw [decide_eq_false_iff_not]; omega
theorem inB_hi {m x : Int} (h : m < x) : inB m x = false := by unfold inB; rw [decide_eq_false_iff_not]; omega
theorem inB_ok {m x : Int} (h : ¬ x < -m) (h2 : ¬ m < x) : inB m x = true := by unfold inB; rw [decide_eq_true_iff]; omega
theorem inB_iff {m x : Int} : inB m x = true ↔ -m ≤ x ∧ x ≤ m := by unfold inB; rw [decide_eq_true_iff]
theorem inV_iff {m x y z : Int} : inV m x y z = true ↔ (-m ≤ x ∧ x ≤ m) ∧ (-m ≤ y ∧ y ≤ m) ∧ (-m ≤ z ∧ z ≤ m) := by
  unfold inV; rw [Bool.and_eq_true, Bool.and_eq_true, inB_iff, inB_iff, inB_iff]

set_option maxRecDepth 100000 in
set_option maxHeartbeats 2000000 in
theorem within_0lo (m x y z : Int) (g : Nat) (w : World) (hm : 0 ≤ m ∧ m ≤ 1099511627776) (h : V3 w g x y z) (nx : x < -m) :
    Calls Try.prog 48 #[.int .i64 m, .slice (some ⟨g, 0, none⟩) 3 3] w (Qt (.bool false) w) := by
  obtain ⟨h0, h1, h2⟩ := h
  have hneg : IntKind.i64.wrap (-m) = -m := wrap_in (by omega)
  go_enter Try.func48, Try.ntmps48
  go_wp2
  refine wp_loop_rounds 4 ?_
  rw [rounds_succ]
  go_wp2
  go_ret
  exact ⟨rfl, rfl⟩

set_option maxRecDepth 100000 in
set_option maxHeartbeats 2000000 in
theorem within_0hi (m x y z : Int) (g : Nat) (w : World) (hm : 0 ≤ m ∧ m ≤ 1099511627776) (h : V3 w g x y z) (nx : ¬ x < -m) (px : m < x) :
    Calls Try.prog 48 #[.int .i64 m, .slice (some ⟨g, 0, none⟩) 3 3] w (Qt (.bool false) w) := by
  obtain ⟨h0, h1, h2⟩ := h
  have hneg : IntKind.i64.wrap (-m) = -m := wrap_in (by omega)
  go_enter Try.func48, Try.ntmps48
  go_wp2
  refine wp_loop_rounds 4 ?_
  rw [rounds_succ]
  go_wp2
  go_ret
  exact ⟨rfl, rfl⟩

set_option maxRecDepth 100000 in
set_option maxHeartbeats 2000000 in
theorem within_1lo (m x y z : Int) (g : Nat) (w : World) (hm : 0 ≤ m ∧ m ≤ 1099511627776) (h : V3 w g x y z) (nx : ¬ x < -m) (px : ¬ m < x) (ny : y < -m) :
    Calls Try.prog 48 #[.int .i64 m, .slice (some ⟨g, 0, none⟩) 3 3] w (Qt (.bool false) w) := by
  obtain ⟨h0, h1, h2⟩ := h
  have hneg : IntKind.i64.wrap (-m) = -m := wrap_in (by omega)
  go_enter Try.func48, Try.ntmps48
  go_wp2
  refine wp_loop_rounds 4 ?_
  rw [rounds_succ]
  go_wp2
  rw [rounds_succ]
  go_wp2
  go_ret
  exact ⟨rfl, rfl⟩

set_option maxRecDepth 100000 in
set_option maxHeartbeats 2000000 in
theorem within_1hi (m x y z : Int) (g : Nat) (w : World) (hm : 0 ≤ m ∧ m ≤ 1099511627776) (h : V3 w g x y z) (nx : ¬ x < -m) (px : ¬ m < x) (ny : ¬ y < -m) (py : m < y) :
    Calls Try.prog 48 #[.int .i64 m, .slice (some ⟨g, 0, none⟩) 3 3] w (Qt (.bool false) w) := by
  obtain ⟨h0, h1, h2⟩ := h
  have hneg : IntKind.i64.wrap (-m) = -m := wrap_in (by omega)
  go_enter Try.func48, Try.ntmps48
  go_wp2
  refine wp_loop_rounds 4 ?_
  rw [rounds_succ]
  go_wp2
  rw [rounds_succ]
  go_wp2
  go_ret
  exact ⟨rfl, rfl⟩

set_option maxRecDepth 100000 in
set_option maxHeartbeats 2000000 in
theorem within_2lo (m x y z : Int) (g : Nat) (w : World) (hm : 0 ≤ m ∧ m ≤ 1099511627776) (h : V3 w g x y z) (nx : ¬ x < -m) (px : ¬ m < x) (ny : ¬ y < -m) (py : ¬ m < y) (nz : z < -m) :
    Calls Try.prog 48 #[.int .i64 m, .slice (some ⟨g, 0, none⟩) 3 3] w (Qt (.bool false) w) := by
  obtain ⟨h0, h1, h2⟩ := h
  have hneg : IntKind.i64.wrap (-m) = -m := wrap_in (by omega)
  go_enter Try.func48, Try.ntmps48
  go_wp2
  refine wp_loop_rounds 4 ?_
  rw [rounds_succ]
  go_wp2
  rw [rounds_succ]
  go_wp2
  rw [rounds_succ]
  go_wp2
  go_ret
  exact ⟨rfl, rfl⟩

set_option maxRecDepth 100000 in
set_option maxHeartbeats 2000000 in
theorem within_2hi (m x y z : Int) (g : Nat) (w : World) (hm : 0 ≤ m ∧ m ≤ 1099511627776) (h : V3 w g x y z) (nx : ¬ x < -m) (px : ¬ m < x) (ny : ¬ y < -m) (py : ¬ m < y) (nz : ¬ z < -m) (pz : m < z) :
    Calls Try.prog 48 #[.int .i64 m, .slice (some ⟨g, 0, none⟩) 3 3] w (Qt (.bool false) w) := by
  obtain ⟨h0, h1, h2⟩ := h
  have hneg : IntKind.i64.wrap (-m) = -m := wrap_in (by omega)
  go_enter Try.func48, Try.ntmps48
  go_wp2
  refine wp_loop_rounds 4 ?_
  rw [rounds_succ]
  go_wp2
  rw [rounds_succ]
  go_wp2
  rw [rounds_succ]
  go_wp2
  go_ret
  exact ⟨rfl, rfl⟩

set_option maxRecDepth 100000 in
set_option maxHeartbeats 2000000 in
theorem within_3 (m x y z : Int) (g : Nat) (w : World) (hm : 0 ≤ m ∧ m ≤ 1099511627776) (h : V3 w g x y z) (nx : ¬ x < -m) (px : ¬ m < x) (ny : ¬ y < -m) (py : ¬ m < y) (nz : ¬ z < -m) (pz : ¬ m < z) :
    Calls Try.prog 48 #[.int .i64 m, .slice (some ⟨g, 0, none⟩) 3 3] w (Qt (.bool true) w) := by
  obtain ⟨h0, h1, h2⟩ := h
  have hneg : IntKind.i64.wrap (-m) = -m := wrap_in (by omega)
  go_enter Try.func48, Try.ntmps48
  go_wp2
  refine wp_loop_rounds 4 ?_
  rw [rounds_succ]
  go_wp2
  rw [rounds_succ]
  go_wp2
  rw [rounds_succ]
  go_wp2
  rw [rounds_succ]
  go_wp2
  go_ret
  exact ⟨rfl, rfl⟩

theorem within3 (m x y z : Int) (g : Nat) (w : World) (hm : 0 ≤ m ∧ m ≤ 1099511627776) (h : V3 w g x y z) :
    Calls Try.prog 48 #[.int .i64 m, .slice (some ⟨g, 0, none⟩) 3 3] w (Qt (.bool (inV m x y z)) w) := by
  unfold inV
  by_cases a1 : x < -m
  · rw [inB_lo a1]; exact within_0lo m x y z g w hm h a1
  by_cases b1 : m < x
  · rw [inB_hi b1]; exact within_0hi m x y z g w hm h a1 b1
  rw [inB_ok a1 b1]
  by_cases a2 : y < -m
  · rw [inB_lo a2]; exact within_1lo m x y z g w hm h a1 b1 a2
  by_cases b2 : m < y
  · rw [inB_hi b2]; exact within_1hi m x y z g w hm h a1 b1 a2 b2
  rw [inB_ok a2 b2]
  by_cases a3 : z < -m
  · rw [inB_lo a3]; exact within_2lo m x y z g w hm h a1 b1 a2 b2 a3
  by_cases b3 : m < z
  · rw [inB_hi b3]; exact within_2hi m x y z g w hm h a1 b1 a2 b2 a3 b3
  rw [inB_ok a3 b3]
  exact within_3 m x y z g w hm h a1 b1 a2 b2 a3 b3

set_option maxRecDepth 100000 in
set_option maxHeartbeats 2000000 in
theorem Valid_any (x y z : Int) (w : World) : Calls Try.prog 24 #[vv x y z] w (Ret (.bool (inV 16777216 x y z)) w) := by
  have HW := Lib.hid (fun g w h => within3 16777216 x y z g w (by omega) h)
  generalize inV 16777216 x y z = r at *
  go_enter Try.func24, Try.ntmps24
  go_wp2_with fail
  obtain ⟨w0, hw0⟩ : ∃ w0 : World, w0 = (w.alloc (.cells #[.int .i64 x, .int .i64 y, .int .i64 z] 24)).alloc (.cells #[.int .i64 x, .int .i64 y, .int .i64 z] 3) := ⟨_, rfl⟩
  have hb0 : Hid (Below w.heap.size w w0) := by rw [hw0]; exact (below_one w _).alloc (by simp) _
  have hv : Hid (V3 w0 (w.heap.size + 1) x y z) := by rw [hw0]; exact ⟨by simp [go_sem], by simp [go_sem], by simp [go_sem]⟩
  rw [← hw0]
  clear hw0
  refine (HW.out _ _ hv.out).mono ?_
  rintro e wa ⟨rfl, rfl⟩
  go_wp2
  go_ret
  exact ⟨rfl, hb0.out⟩

set_option maxRecDepth 100000 in
set_option maxHeartbeats 2000000 in
theorem Point_any (x y z : Int) (w : World) : Calls Try.prog 34 #[vv x y z] w (Ret (.bool (inV 1048576 x y z)) w) := by
  have HW := Lib.hid (fun g w h => within3 1048576 x y z g w (by omega) h)
  generalize inV 1048576 x y z = r at *
  go_enter Try.func34, Try.ntmps34
  go_wp2_with fail
  obtain ⟨w0, hw0⟩ : ∃ w0 : World, w0 = (w.alloc (.cells #[.int .i64 x, .int .i64 y, .int .i64 z] 24)).alloc (.cells #[.int .i64 x, .int .i64 y, .int .i64 z] 3) := ⟨_, rfl⟩
  have hb0 : Hid (Below w.heap.size w w0) := by rw [hw0]; exact (below_one w _).alloc (by simp) _
  have hv : Hid (V3 w0 (w.heap.size + 1) x y z) := by rw [hw0]; exact ⟨by simp [go_sem], by simp [go_sem], by simp [go_sem]⟩
  rw [← hw0]
  clear hw0
  refine (HW.out _ _ hv.out).mono ?_
  rintro e wa ⟨rfl, rfl⟩
  go_wp2
  go_ret
  exact ⟨rfl, hb0.out⟩
end Go.Proofs.Ytpkfngfenkcjoaa

/- A list of vectors in memory; vector.allValid. -/
set_option linter.all false
namespace Go.Proofs.Ytpkfngfenkcjoaa
open Go.RowKit

/-- A slice value reads as a list of vectors. -/
def Rv (w : World) (v : Value) (L : List (Int × Int × Int)) : Prop :=
  ∃ (p : Option Addr) (b off cap : Nat), v = .slice p L.length cap ∧ L.length ≤ cap ∧ cap ≤ maxLen ∧ (0 < L.length → p = some ⟨b, off, none⟩) ∧
    ∀ k (h : k < L.length), w.cell? ⟨b, off + k * 3, none⟩ = some (.int .i64 L[k].1) ∧ w.cell? ⟨b, off + k * 3 + 1, none⟩ = some (.int .i64 L[k].2.1) ∧ w.cell? ⟨b, off + k * 3 + 2, none⟩ = some (.int .i64 L[k].2.2)
theorem Rv.below {w w' : World} {v : Value} {L : List (Int × Int × Int)} (h : Rv w v L) (hb : Below w.heap.size w w') : Rv w' v L := by
  obtain ⟨p, b, off, cap, h1, h2, h3, h4, h5⟩ := h
  exact ⟨p, b, off, cap, h1, h2, h3, h4, fun k hk => ⟨keep1 hb (h5 k hk).1, keep1 hb (h5 k hk).2.1, keep1 hb (h5 k hk).2.2⟩⟩
def inL (m : Int) (L : List (Int × Int × Int)) : Bool := L.all fun a => inV m a.1 a.2.1 a.2.2
theorem inL_false {m : Int} {L : List (Int × Int × Int)} {k : Nat} (hk : k < L.length) (h : inV m L[k].1 L[k].2.1 L[k].2.2 = false) : inL m L = false := by
  unfold inL
  rw [List.all_eq_false]
  exact ⟨_, List.getElem_mem hk, by simp [h]⟩
theorem inL_true {m : Int} {L : List (Int × Int × Int)} (h : ∀ k (hk : k < L.length), inV m L[k].1 L[k].2.1 L[k].2.2 = true) : inL m L = true := by
  unfold inL
  rw [List.all_eq_true]
  intro x hx
  obtain ⟨k, hk, rfl⟩ := List.mem_iff_getElem.1 hx
  exact h k hk

set_option maxRecDepth 100000 in
set_option maxHeartbeats 2000000 in
theorem allValid_any (L : List (Int × Int × Int)) (v : Value) (w : World) (h : Rv w v L) :
    Calls Try.prog 65 #[v] w (Ret (.bool (inL 16777216 L)) w) := by
  obtain ⟨p, b, off, cap, rfl, h2, h3, h4, h5⟩ := h
  have HV := Lib.hid (fun x y z w => Valid_any x y z w)
  have H4 := Lib.hid h4
  have H5 := Lib.hid h5
  have HF : Hid (∀ k (hk : k < L.length), inV 16777216 L[k].1 L[k].2.1 L[k].2.2 = false → inL 16777216 L = false) := fun k hk h => inL_false hk h
  have HT : Hid ((∀ k (hk : k < L.length), inV 16777216 L[k].1 L[k].2.1 L[k].2.2 = true) → inL 16777216 L = true) := fun h => inL_true h
  generalize inL 16777216 L = res at *
  clear h4 h5
  have hmx : L.length ≤ 9223372036854775807 := by unfold maxLen at h3; omega
  clear h2 h3
  obtain ⟨n, hn⟩ : ∃ n, n = L.length := ⟨_, rfl⟩
  rw [← hn] at hmx ⊢
  have HN := Lib.hid hn
  clear hn
  go_enter Try.func65, Try.ntmps65
  go_wp2
  go_loopw [4, 7] (fun _ iv wr => ∃ (wz : World) (k : Nat), wz = wr ∧ k ≤ n ∧ iv = .int .i64 (k : Int) ∧ Hid (∀ j (hj : j < L.length), j < k → inV 16777216 L[j].1 L[j].2.1 L[j].2.2 = true) ∧ Hid (Below w.heap.size w wz))
    (fun _ iv _ => n - (intOf iv).toNat)
  case atStart => exact ⟨w, 0, rfl, Nat.zero_le _, rfl, fun j _ hj => absurd hj (Nat.not_lt_zero _), Below.refl _ _⟩
  case round =>
    obtain ⟨wz, k, rfl, hk, rfl, hall, hbl⟩ := hrel
    by_cases hlt : k < n
    · have hkl : k < L.length := by have h5 : n = L.length := HN.out; omega
      obtain ⟨x, y, z, hL⟩ : ∃ x y z, L[k] = (x, y, z) := ⟨_, _, _, rfl⟩
      obtain rfl := H4.out (by omega)
      have c0 : wz.cell? ⟨b, off + k * 3, none⟩ = some (.int .i64 x) := by
        have := keep1 hbl.out (H5.out k hkl).1
        simpa [hL] using this
      have c1 : wz.cell? ⟨b, off + k * 3 + 1, none⟩ = some (.int .i64 y) := by
        have := keep1 hbl.out (H5.out k hkl).2.1
        simpa [hL] using this
      have c2 : wz.cell? ⟨b, off + k * 3 + 2, none⟩ = some (.int .i64 z) := by
        have := keep1 hbl.out (H5.out k hkl).2.2
        simpa [hL] using this
      have HVk : Hid (∀ w, Calls Try.prog 24 #[vv x y z] w (Ret (.bool (inV 16777216 x y z)) w)) := fun w => HV.out x y z w
      have hR : Hid (inV 16777216 x y z = true → ∀ j (hj : j < L.length), j < k + 1 → inV 16777216 L[j].1 L[j].2.1 L[j].2.2 = true) := by
        intro hs j hj hjk
        rcases Nat.lt_or_ge j k with g | g
        · exact hall.out j hj g
        · obtain rfl : j = k := by omega
          rw [hL]; exact hs
      have hF : Hid (inV 16777216 x y z = false → res = false) := fun hs => HF.out k hkl (by rw [hL]; exact hs)
      have HB2 := Lib.hid (hbl.out.alloc hbl.out.size (.cells #[.int .i64 x, .int .i64 y, .int .i64 z] 24))
      clear hkl hL hall
      by_cases hsz : inV 16777216 x y z = true
      · have HR := Lib.hid (hR.out hsz)
        rw [hsz] at HVk
        clear hR hF hsz
        go_wp2_with fail
        refine (HVk.out _).mono ?_
        rintro e w5 ⟨rfl, b5⟩
        have HB2 := Lib.hid (chain HB2.out b5)
        clear b5
        go_wp2
        go_roundw
        case rel => exact ⟨_, k + 1, rfl, by omega, by go_num, HR.out, HB2⟩
        case measure => simp [intOf]; omega
      · rw [Bool.not_eq_true] at hsz
        have HF := Lib.hid (hF.out hsz)
        rw [hsz] at HVk
        clear hR hF hsz
        go_wp2_with fail
        refine (HVk.out _).mono ?_
        rintro e w5 ⟨rfl, b5⟩
        have HB2 := Lib.hid (chain HB2.out b5)
        clear b5
        go_wp2
        go_ret
        exact ⟨by rw [HF.out]; rfl, HB2.out⟩
    · have HA : Hid (res = true) := HT.out (fun j hj => hall.out j hj (by have h5 : n = L.length := HN.out; omega))
      clear hall
      go_wp2
      go_ret
      exact ⟨by rw [HA.out]; rfl, hbl.out⟩
end Go.Proofs.Ytpkfngfenkcjoaa

/- vector.combine over what is done with the parts: sums, differences, products. -/
set_option linter.all false
namespace Go.Proofs.Ytpkfngfenkcjoaa
open Go.RowKit

set_option maxRecDepth 100000 in
set_option maxHeartbeats 4000000 in
theorem combine_sub (x1 x2 x3 y1 y2 y3 r1 r2 r3 : Int) (w : World) (H1 : ∀ w', Calls Try.prog 76 #[.int .i64 x1, .int .i64 y1] w' (Qt (.int .i64 r1) w')) (H2 : ∀ w', Calls Try.prog 76 #[.int .i64 x2, .int .i64 y2] w' (Qt (.int .i64 r2) w')) (H3 : ∀ w', Calls Try.prog 76 #[.int .i64 x3, .int .i64 y3] w' (Qt (.int .i64 r3) w')) :
    Calls Try.prog 75 #[vv x1 x2 x3, vv y1 y2 y3, (.func (.func 76) #[] #[])] w (Ret (vv r1 r2 r3) w) := by
  have K1 := Lib.hid H1
  have K2 := Lib.hid H2
  have K3 := Lib.hid H3
  clear H1 H2 H3
  go_enter Try.func75, Try.ntmps75
  go_upto_region 1 with (fail)
  obtain ⟨w0, hw0⟩ : ∃ w0 : World, w0 = ((w.alloc (.cells #[.int .i64 x1, .int .i64 x2, .int .i64 x3] 24)).alloc (.cells #[.int .i64 y1, .int .i64 y2, .int .i64 y3] 24)).alloc (.cells #[.int .i64 0, .int .i64 0, .int .i64 0] 24) := ⟨_, rfl⟩
  have hb0 : Hid (Below w.heap.size w w0) := by rw [hw0]; exact ((below_one w _).alloc (by simp) _).alloc (by simp; omega) _
  have hv0 : Hid (V3 w0 w.heap.size x1 x2 x3) := by rw [hw0]; exact ⟨by simp [go_sem], by simp [go_sem], by simp [go_sem]⟩
  have hv1 : Hid (V3 w0 (w.heap.size + 1) y1 y2 y3) := by rw [hw0]; exact ⟨by simp [go_sem], by simp [go_sem], by simp [go_sem]⟩
  have hv2 : Hid (V3 w0 (w.heap.size + 1 + 1) 0 0 0) := by rw [hw0]; exact ⟨by simp [go_sem], by simp [go_sem], by simp [go_sem]⟩
  have f20 : w0.frozen? ⟨w.heap.size + 1 + 1, 0, none⟩ = false := by rw [hw0]; simp [go_sem]
  have f21 : w0.frozen? ⟨w.heap.size + 1 + 1, 1, none⟩ = false := by rw [hw0]; simp [go_sem]
  have f22 : w0.frozen? ⟨w.heap.size + 1 + 1, 2, none⟩ = false := by rw [hw0]; simp [go_sem]
  rw [← hw0]
  have hsz : w0.heap.size = w.heap.size + 3 := by rw [hw0]; simp
  have Hsz := Lib.hid hsz
  clear hw0 hsz
  obtain ⟨c00, c01, c02⟩ := hv0.out
  obtain ⟨c10, c11, c12⟩ := hv1.out
  obtain ⟨c20, c21, c22⟩ := hv2.out
  have n02 : ¬ (w.heap.size = w.heap.size + 1 + 1) := by omega
  have n20 : ¬ (w.heap.size + 1 + 1 = w.heap.size) := by omega
  have n12 : ¬ (w.heap.size + 1 = w.heap.size + 1 + 1) := by omega
  have n21 : ¬ (w.heap.size + 1 + 1 = w.heap.size + 1) := by omega
  go_region_held3 (fun W' => W'.cell? ⟨w.heap.size, 0, none⟩ = some (.int .i64 x1) ∧ W'.cell? ⟨w.heap.size, 1, none⟩ = some (.int .i64 x2) ∧ W'.cell? ⟨w.heap.size, 2, none⟩ = some (.int .i64 x3) ∧ W'.cell? ⟨w.heap.size + 1, 0, none⟩ = some (.int .i64 y1) ∧ W'.cell? ⟨w.heap.size + 1, 1, none⟩ = some (.int .i64 y2) ∧ W'.cell? ⟨w.heap.size + 1, 2, none⟩ = some (.int .i64 y3)) (go_keep)
    (first
      | (go_at_call 76; (with_reducible refine (K1.out _).mono ?_); rintro e w1 ⟨rfl, rfl⟩)
      | (go_at_call 76; (with_reducible refine (K2.out _).mono ?_); rintro e w1 ⟨rfl, rfl⟩)
      | (go_at_call 76; (with_reducible refine (K3.out _).mono ?_); rintro e w1 ⟨rfl, rfl⟩)
      | fail)
  have HZ := Lib.hid ((((hb0.out.setCell (p := ⟨w.heap.size + 1 + 1, 0, none⟩) (by simp; omega) (.int .i64 r1)).setCell (p := ⟨w.heap.size + 1 + 1, 1, none⟩) (by simp; omega) (.int .i64 r2)).setCell (p := ⟨w.heap.size + 1 + 1, 2, none⟩) (by simp; omega) (.int .i64 r3)))
  go_wp2
  exact bodyPost_ret (v := vv r1 r2 r3) (by simp [results, Try.results75, go_sem, c20, c21, c22]) rfl ⟨rfl, HZ.out.drew⟩

set_option maxRecDepth 100000 in
set_option maxHeartbeats 4000000 in
theorem combine_mul (x1 x2 x3 y1 y2 y3 r1 r2 r3 : Int) (w : World) (H1 : ∀ w', Calls Try.prog 90 #[.int .i64 x1, .int .i64 y1] w' (Qt (.int .i64 r1) w')) (H2 : ∀ w', Calls Try.prog 90 #[.int .i64 x2, .int .i64 y2] w' (Qt (.int .i64 r2) w')) (H3 : ∀ w', Calls Try.prog 90 #[.int .i64 x3, .int .i64 y3] w' (Qt (.int .i64 r3) w')) :
    Calls Try.prog 75 #[vv x1 x2 x3, vv y1 y2 y3, (.func (.func 90) #[] #[])] w (Ret (vv r1 r2 r3) w) := by
  have K1 := Lib.hid H1
  have K2 := Lib.hid H2
  have K3 := Lib.hid H3
  clear H1 H2 H3
  go_enter Try.func75, Try.ntmps75
  go_upto_region 1 with (fail)
  obtain ⟨w0, hw0⟩ : ∃ w0 : World, w0 = ((w.alloc (.cells #[.int .i64 x1, .int .i64 x2, .int .i64 x3] 24)).alloc (.cells #[.int .i64 y1, .int .i64 y2, .int .i64 y3] 24)).alloc (.cells #[.int .i64 0, .int .i64 0, .int .i64 0] 24) := ⟨_, rfl⟩
  have hb0 : Hid (Below w.heap.size w w0) := by rw [hw0]; exact ((below_one w _).alloc (by simp) _).alloc (by simp; omega) _
  have hv0 : Hid (V3 w0 w.heap.size x1 x2 x3) := by rw [hw0]; exact ⟨by simp [go_sem], by simp [go_sem], by simp [go_sem]⟩
  have hv1 : Hid (V3 w0 (w.heap.size + 1) y1 y2 y3) := by rw [hw0]; exact ⟨by simp [go_sem], by simp [go_sem], by simp [go_sem]⟩
  have hv2 : Hid (V3 w0 (w.heap.size + 1 + 1) 0 0 0) := by rw [hw0]; exact ⟨by simp [go_sem], by simp [go_sem], by simp [go_sem]⟩
  have f20 : w0.frozen? ⟨w.heap.size + 1 + 1, 0, none⟩ = false := by rw [hw0]; simp [go_sem]
  have f21 : w0.frozen? ⟨w.heap.size + 1 + 1, 1, none⟩ = false := by rw [hw0]; simp [go_sem]
  have f22 : w0.frozen? ⟨w.heap.size + 1 + 1, 2, none⟩ = false := by rw [hw0]; simp [go_sem]
  rw [← hw0]
  have hsz : w0.heap.size = w.heap.size + 3 := by rw [hw0]; simp
  have Hsz := Lib.hid hsz
  clear hw0 hsz
  obtain ⟨c00, c01, c02⟩ := hv0.out
  obtain ⟨c10, c11, c12⟩ := hv1.out
  obtain ⟨c20, c21, c22⟩ := hv2.out
  have n02 : ¬ (w.heap.size = w.heap.size + 1 + 1) := by omega
  have n20 : ¬ (w.heap.size + 1 + 1 = w.heap.size) := by omega
  have n12 : ¬ (w.heap.size + 1 = w.heap.size + 1 + 1) := by omega
  have n21 : ¬ (w.heap.size + 1 + 1 = w.heap.size + 1) := by omega
  go_region_held3 (fun W' => W'.cell? ⟨w.heap.size, 0, none⟩ = some (.int .i64 x1) ∧ W'.cell? ⟨w.heap.size, 1, none⟩ = some (.int .i64 x2) ∧ W'.cell? ⟨w.heap.size, 2, none⟩ = some (.int .i64 x3) ∧ W'.cell? ⟨w.heap.size + 1, 0, none⟩ = some (.int .i64 y1) ∧ W'.cell? ⟨w.heap.size + 1, 1, none⟩ = some (.int .i64 y2) ∧ W'.cell? ⟨w.heap.size + 1, 2, none⟩ = some (.int .i64 y3)) (go_keep)
    (first
      | (go_at_call 90; (with_reducible refine (K1.out _).mono ?_); rintro e w1 ⟨rfl, rfl⟩)
      | (go_at_call 90; (with_reducible refine (K2.out _).mono ?_); rintro e w1 ⟨rfl, rfl⟩)
      | (go_at_call 90; (with_reducible refine (K3.out _).mono ?_); rintro e w1 ⟨rfl, rfl⟩)
      | fail)
  have HZ := Lib.hid ((((hb0.out.setCell (p := ⟨w.heap.size + 1 + 1, 0, none⟩) (by simp; omega) (.int .i64 r1)).setCell (p := ⟨w.heap.size + 1 + 1, 1, none⟩) (by simp; omega) (.int .i64 r2)).setCell (p := ⟨w.heap.size + 1 + 1, 2, none⟩) (by simp; omega) (.int .i64 r3)))
  go_wp2
  exact bodyPost_ret (v := vv r1 r2 r3) (by simp [results, Try.results75, go_sem, c20, c21, c22]) rfl ⟨rfl, HZ.out.drew⟩
end Go.Proofs.Ytpkfngfenkcjoaa

/- vector.checked, difference, products, dot, cross, nearest, and what Between does with each part. -/
set_option linter.all false
namespace Go.Proofs.Ytpkfngfenkcjoaa
open Go.RowKit

set_option maxRecDepth 100000 in
set_option maxHeartbeats 4000000 in
theorem checked_ok (x y z : Int) (h : inV 16777216 x y z = true) (w : World) :
    Calls Try.prog 74 #[vv x y z] w (Ret (.tuple #[vv x y z, .int .i64 0]) w) := by
  have HV := Lib.hid (fun w => Valid_any x y z w)
  rw [h] at HV
  go_enter Try.func74, Try.ntmps74
  go_wp2_with fail
  obtain ⟨w0, hw0⟩ : ∃ w0 : World, w0 = (w.alloc (.cells #[.int .i64 x, .int .i64 y, .int .i64 z] 24)).alloc (.cells #[.int .i64 0, .int .i64 0, .int .i64 0] 24) := ⟨_, rfl⟩
  have hb0 : Hid (Below w.heap.size w w0) := by rw [hw0]; exact (below_one w _).alloc (by simp) _
  have hv0 : Hid (V3 w0 w.heap.size x y z) := by rw [hw0]; exact ⟨by simp [go_sem], by simp [go_sem], by simp [go_sem]⟩
  have hv1 : Hid (V3 w0 (w.heap.size + 1) 0 0 0) := by rw [hw0]; exact ⟨by simp [go_sem], by simp [go_sem], by simp [go_sem]⟩
  have f10 : w0.frozen? ⟨w.heap.size + 1, 0, none⟩ = false := by rw [hw0]; simp [go_sem]
  have f11 : w0.frozen? ⟨w.heap.size + 1, 1, none⟩ = false := by rw [hw0]; simp [go_sem]
  have f12 : w0.frozen? ⟨w.heap.size + 1, 2, none⟩ = false := by rw [hw0]; simp [go_sem]
  rw [← hw0]
  have hsz : w0.heap.size = w.heap.size + 2 := by rw [hw0]; simp
  have Hsz := Lib.hid hsz
  clear hw0 hsz
  refine (HV.out _).mono ?_
  rintro e wa ⟨rfl, ba⟩
  obtain ⟨c00, c01, c02⟩ := hv0.out.below ba
  obtain ⟨c10, c11, c12⟩ := hv1.out.below ba
  have g0 := keepf ba hv1.out.1 f10
  have g1 := keepf ba hv1.out.2.1 f11
  have g2 := keepf ba hv1.out.2.2 f12
  have HB := Lib.hid (chain hb0.out ba)
  clear ba f10 f11 f12
  have HZ := Lib.hid (((HB.out.setCell (p := ⟨w.heap.size + 1, 0, none⟩) (by simp) (.int .i64 x)).setCell (p := ⟨w.heap.size + 1, 1, none⟩) (by simp) (.int .i64 y)).setCell (p := ⟨w.heap.size + 1, 2, none⟩) (by simp) (.int .i64 z))
  go_wp2
  exact bodyPost_ret (v := .tuple #[vv x y z, .int .i64 0]) (by simp [results, Try.results74, go_sem, c10, c11, c12]) rfl ⟨rfl, HZ.out⟩

set_option maxRecDepth 100000 in
set_option maxHeartbeats 4000000 in
theorem checked_bad (x y z : Int) (h : inV 16777216 x y z = false) (w : World) :
    Calls Try.prog 74 #[vv x y z] w (Ret (.tuple #[vv 0 0 0, .int .i64 3]) w) := by
  have HV := Lib.hid (fun w => Valid_any x y z w)
  rw [h] at HV
  go_enter Try.func74, Try.ntmps74
  go_wp2_with fail
  obtain ⟨w0, hw0⟩ : ∃ w0 : World, w0 = (w.alloc (.cells #[.int .i64 x, .int .i64 y, .int .i64 z] 24)).alloc (.cells #[.int .i64 0, .int .i64 0, .int .i64 0] 24) := ⟨_, rfl⟩
  have hb0 : Hid (Below w.heap.size w w0) := by rw [hw0]; exact (below_one w _).alloc (by simp) _
  have hv0 : Hid (V3 w0 w.heap.size x y z) := by rw [hw0]; exact ⟨by simp [go_sem], by simp [go_sem], by simp [go_sem]⟩
  have hv1 : Hid (V3 w0 (w.heap.size + 1) 0 0 0) := by rw [hw0]; exact ⟨by simp [go_sem], by simp [go_sem], by simp [go_sem]⟩
  have f10 : w0.frozen? ⟨w.heap.size + 1, 0, none⟩ = false := by rw [hw0]; simp [go_sem]
  have f11 : w0.frozen? ⟨w.heap.size + 1, 1, none⟩ = false := by rw [hw0]; simp [go_sem]
  have f12 : w0.frozen? ⟨w.heap.size + 1, 2, none⟩ = false := by rw [hw0]; simp [go_sem]
  rw [← hw0]
  have hsz : w0.heap.size = w.heap.size + 2 := by rw [hw0]; simp
  have Hsz := Lib.hid hsz
  clear hw0 hsz
  refine (HV.out _).mono ?_
  rintro e wa ⟨rfl, ba⟩
  obtain ⟨c00, c01, c02⟩ := hv0.out.below ba
  obtain ⟨c10, c11, c12⟩ := hv1.out.below ba
  have g0 := keepf ba hv1.out.1 f10
  have g1 := keepf ba hv1.out.2.1 f11
  have g2 := keepf ba hv1.out.2.2 f12
  have HB := Lib.hid (chain hb0.out ba)
  clear ba f10 f11 f12
  have HZ := Lib.hid (((HB.out.setCell (p := ⟨w.heap.size + 1, 0, none⟩) (by simp) (.int .i64 0)).setCell (p := ⟨w.heap.size + 1, 1, none⟩) (by simp) (.int .i64 0)).setCell (p := ⟨w.heap.size + 1, 2, none⟩) (by simp) (.int .i64 0))
  go_wp2
  exact bodyPost_ret (v := .tuple #[vv 0 0 0, .int .i64 3]) (by simp [results, Try.results74, go_sem, c10, c11, c12]) rfl ⟨rfl, HZ.out⟩

set_option maxRecDepth 100000 in
set_option maxHeartbeats 4000000 in
theorem difference_any (x1 x2 x3 y1 y2 y3 r1 r2 r3 : Int) (h1 : IntKind.i64.wrap (x1 - y1) = r1) (h2 : IntKind.i64.wrap (x2 - y2) = r2) (h3 : IntKind.i64.wrap (x3 - y3) = r3) (w : World) :
    Calls Try.prog 68 #[vv x1 x2 x3, vv y1 y2 y3] w (Ret (vv r1 r2 r3) w) := by
  have HC := Lib.hid (fun w => combine_sub x1 x2 x3 y1 y2 y3 r1 r2 r3 w (sub1_any _ _ _ h1) (sub1_any _ _ _ h2) (sub1_any _ _ _ h3))
  clear h1 h2 h3
  go_enter Try.func68, Try.ntmps68
  go_wp2_with fail
  obtain ⟨w0, hw0⟩ : ∃ w0 : World, w0 = ((w.alloc (.cells #[.int .i64 x1, .int .i64 x2, .int .i64 x3] 24)).alloc (.cells #[.int .i64 y1, .int .i64 y2, .int .i64 y3] 24)).alloc (.cells #[.int .i64 0, .int .i64 0, .int .i64 0] 24) := ⟨_, rfl⟩
  have hb0 : Hid (Below w.heap.size w w0) := by rw [hw0]; exact ((below_one w _).alloc (by simp) _).alloc (by simp; omega) _
  have hv0 : Hid (V3 w0 w.heap.size x1 x2 x3) := by rw [hw0]; exact ⟨by simp [go_sem], by simp [go_sem], by simp [go_sem]⟩
  have hv1 : Hid (V3 w0 (w.heap.size + 1) y1 y2 y3) := by rw [hw0]; exact ⟨by simp [go_sem], by simp [go_sem], by simp [go_sem]⟩
  have hv2 : Hid (V3 w0 (w.heap.size + 1 + 1) 0 0 0) := by rw [hw0]; exact ⟨by simp [go_sem], by simp [go_sem], by simp [go_sem]⟩
  have f20 : w0.frozen? ⟨w.heap.size + 1 + 1, 0, none⟩ = false := by rw [hw0]; simp [go_sem]
  have f21 : w0.frozen? ⟨w.heap.size + 1 + 1, 1, none⟩ = false := by rw [hw0]; simp [go_sem]
  have f22 : w0.frozen? ⟨w.heap.size + 1 + 1, 2, none⟩ = false := by rw [hw0]; simp [go_sem]
  rw [← hw0]
  have hsz : w0.heap.size = w.heap.size + 3 := by rw [hw0]; simp
  have Hsz := Lib.hid hsz
  clear hw0 hsz
  refine (HC.out _).mono ?_
  rintro e wa ⟨rfl, ba⟩
  obtain ⟨c20, c21, c22⟩ := hv2.out.below ba
  have g0 := keepf ba hv2.out.1 f20
  have g1 := keepf ba hv2.out.2.1 f21
  have g2 := keepf ba hv2.out.2.2 f22
  have HB := Lib.hid (chain hb0.out ba)
  clear ba f20 f21 f22
  have HZ := Lib.hid (((HB.out.setCell (p := ⟨w.heap.size + 1 + 1, 0, none⟩) (by simp; omega) (.int .i64 r1)).setCell (p := ⟨w.heap.size + 1 + 1, 1, none⟩) (by simp; omega) (.int .i64 r2)).setCell (p := ⟨w.heap.size + 1 + 1, 2, none⟩) (by simp; omega) (.int .i64 r3))
  go_wp2
  exact bodyPost_ret (v := vv r1 r2 r3) (by simp [results, Try.results68, go_sem, c20, c21, c22]) rfl ⟨rfl, HZ.out⟩

set_option maxRecDepth 100000 in
set_option maxHeartbeats 4000000 in
theorem products_any (x1 x2 x3 y1 y2 y3 r1 r2 r3 : Int) (h1 : IntKind.i64.wrap (x1 * y1) = r1) (h2 : IntKind.i64.wrap (x2 * y2) = r2) (h3 : IntKind.i64.wrap (x3 * y3) = r3) (w : World) :
    Calls Try.prog 77 #[vv x1 x2 x3, vv y1 y2 y3] w (Ret (vv r1 r2 r3) w) := by
  have HC := Lib.hid (fun w => combine_mul x1 x2 x3 y1 y2 y3 r1 r2 r3 w (mul1_any _ _ _ h1) (mul1_any _ _ _ h2) (mul1_any _ _ _ h3))
  clear h1 h2 h3
  go_enter Try.func77, Try.ntmps77
  go_wp2_with fail
  obtain ⟨w0, hw0⟩ : ∃ w0 : World, w0 = ((w.alloc (.cells #[.int .i64 x1, .int .i64 x2, .int .i64 x3] 24)).alloc (.cells #[.int .i64 y1, .int .i64 y2, .int .i64 y3] 24)).alloc (.cells #[.int .i64 0, .int .i64 0, .int .i64 0] 24) := ⟨_, rfl⟩
  have hb0 : Hid (Below w.heap.size w w0) := by rw [hw0]; exact ((below_one w _).alloc (by simp) _).alloc (by simp; omega) _
  have hv0 : Hid (V3 w0 w.heap.size x1 x2 x3) := by rw [hw0]; exact ⟨by simp [go_sem], by simp [go_sem], by simp [go_sem]⟩
  have hv1 : Hid (V3 w0 (w.heap.size + 1) y1 y2 y3) := by rw [hw0]; exact ⟨by simp [go_sem], by simp [go_sem], by simp [go_sem]⟩
  have hv2 : Hid (V3 w0 (w.heap.size + 1 + 1) 0 0 0) := by rw [hw0]; exact ⟨by simp [go_sem], by simp [go_sem], by simp [go_sem]⟩
  have f20 : w0.frozen? ⟨w.heap.size + 1 + 1, 0, none⟩ = false := by rw [hw0]; simp [go_sem]
  have f21 : w0.frozen? ⟨w.heap.size + 1 + 1, 1, none⟩ = false := by rw [hw0]; simp [go_sem]
  have f22 : w0.frozen? ⟨w.heap.size + 1 + 1, 2, none⟩ = false := by rw [hw0]; simp [go_sem]
  rw [← hw0]
  have hsz : w0.heap.size = w.heap.size + 3 := by rw [hw0]; simp
  have Hsz := Lib.hid hsz
  clear hw0 hsz
  refine (HC.out _).mono ?_
  rintro e wa ⟨rfl, ba⟩
  obtain ⟨c20, c21, c22⟩ := hv2.out.below ba
  have g0 := keepf ba hv2.out.1 f20
  have g1 := keepf ba hv2.out.2.1 f21
  have g2 := keepf ba hv2.out.2.2 f22
  have HB := Lib.hid (chain hb0.out ba)
  clear ba f20 f21 f22
  have HZ := Lib.hid (((HB.out.setCell (p := ⟨w.heap.size + 1 + 1, 0, none⟩) (by simp; omega) (.int .i64 r1)).setCell (p := ⟨w.heap.size + 1 + 1, 1, none⟩) (by simp; omega) (.int .i64 r2)).setCell (p := ⟨w.heap.size + 1 + 1, 2, none⟩) (by simp; omega) (.int .i64 r3))
  go_wp2
  exact bodyPost_ret (v := vv r1 r2 r3) (by simp [results, Try.results77, go_sem, c20, c21, c22]) rfl ⟨rfl, HZ.out⟩

set_option maxRecDepth 100000 in
set_option maxHeartbeats 4000000 in
theorem dot_any (x1 x2 x3 y1 y2 y3 r1 r2 r3 s t : Int) (h1 : IntKind.i64.wrap (x1 * y1) = r1) (h2 : IntKind.i64.wrap (x2 * y2) = r2) (h3 : IntKind.i64.wrap (x3 * y3) = r3) (h4 : IntKind.i64.wrap (r1 + r2) = s) (h5 : IntKind.i64.wrap (s + r3) = t) (w : World) :
    Calls Try.prog 69 #[vv x1 x2 x3, vv y1 y2 y3] w (Ret (.int .i64 t) w) := by
  have HC := Lib.hid (fun w => products_any x1 x2 x3 y1 y2 y3 r1 r2 r3 h1 h2 h3 w)
  clear h1 h2 h3
  go_enter Try.func69, Try.ntmps69
  go_wp2_with fail
  obtain ⟨w0, hw0⟩ : ∃ w0 : World, w0 = (w.alloc (.cells #[.int .i64 x1, .int .i64 x2, .int .i64 x3] 24)).alloc (.cells #[.int .i64 y1, .int .i64 y2, .int .i64 y3] 24) := ⟨_, rfl⟩
  have hb0 : Hid (Below w.heap.size w w0) := by rw [hw0]; exact (below_one w _).alloc (by simp) _
  have hv0 : Hid (V3 w0 w.heap.size x1 x2 x3) := by rw [hw0]; exact ⟨by simp [go_sem], by simp [go_sem], by simp [go_sem]⟩
  have hv1 : Hid (V3 w0 (w.heap.size + 1) y1 y2 y3) := by rw [hw0]; exact ⟨by simp [go_sem], by simp [go_sem], by simp [go_sem]⟩
  rw [← hw0]
  have hsz : w0.heap.size = w.heap.size + 2 := by rw [hw0]; simp
  have Hsz := Lib.hid hsz
  clear hw0 hsz
  refine (HC.out _).mono ?_
  rintro e wa ⟨rfl, ba⟩
  have HB := Lib.hid (chain hb0.out ba)
  clear ba
  have HZ := Lib.hid (chain HB.out (below_one wa (.cells #[.int .i64 r1, .int .i64 r2, .int .i64 r3] 24)))
  go_wp2
  go_ret
  exact ⟨rfl, HZ.out⟩

set_option maxRecDepth 100000 in
set_option maxHeartbeats 4000000 in
theorem cross_any (x1 x2 x3 y1 y2 y3 a1 a2 b1 b2 c1 c2 r1 r2 r3 : Int) (h1 : IntKind.i64.wrap (x2 * y3) = a1) (h2 : IntKind.i64.wrap (x3 * y2) = a2) (h3 : IntKind.i64.wrap (x3 * y1) = b1) (h4 : IntKind.i64.wrap (x1 * y3) = b2) (h5 : IntKind.i64.wrap (x1 * y2) = c1) (h6 : IntKind.i64.wrap (x2 * y1) = c2)
    (h7 : IntKind.i64.wrap (a1 - a2) = r1) (h8 : IntKind.i64.wrap (b1 - b2) = r2) (h9 : IntKind.i64.wrap (c1 - c2) = r3) (w : World) :
    Calls Try.prog 66 #[vv x1 x2 x3, vv y1 y2 y3] w (Ret (vv r1 r2 r3) w) := by
  go_enter Try.func66, Try.ntmps66
  go_upto_region 1 with (fail)
  obtain ⟨w0, hw0⟩ : ∃ w0 : World, w0 = ((w.alloc (.cells #[.int .i64 x1, .int .i64 x2, .int .i64 x3] 24)).alloc (.cells #[.int .i64 y1, .int .i64 y2, .int .i64 y3] 24)).alloc (.cells #[.int .i64 0, .int .i64 0, .int .i64 0] 24) := ⟨_, rfl⟩
  have hb0 : Hid (Below w.heap.size w w0) := by rw [hw0]; exact ((below_one w _).alloc (by simp) _).alloc (by simp; omega) _
  have hv0 : Hid (V3 w0 w.heap.size x1 x2 x3) := by rw [hw0]; exact ⟨by simp [go_sem], by simp [go_sem], by simp [go_sem]⟩
  have hv1 : Hid (V3 w0 (w.heap.size + 1) y1 y2 y3) := by rw [hw0]; exact ⟨by simp [go_sem], by simp [go_sem], by simp [go_sem]⟩
  have hv2 : Hid (V3 w0 (w.heap.size + 1 + 1) 0 0 0) := by rw [hw0]; exact ⟨by simp [go_sem], by simp [go_sem], by simp [go_sem]⟩
  have f20 : w0.frozen? ⟨w.heap.size + 1 + 1, 0, none⟩ = false := by rw [hw0]; simp [go_sem]
  have f21 : w0.frozen? ⟨w.heap.size + 1 + 1, 1, none⟩ = false := by rw [hw0]; simp [go_sem]
  have f22 : w0.frozen? ⟨w.heap.size + 1 + 1, 2, none⟩ = false := by rw [hw0]; simp [go_sem]
  rw [← hw0]
  have hsz : w0.heap.size = w.heap.size + 3 := by rw [hw0]; simp
  have Hsz := Lib.hid hsz
  clear hw0 hsz
  obtain ⟨c00, c01, c02⟩ := hv0.out
  obtain ⟨c10, c11, c12⟩ := hv1.out
  obtain ⟨c20, c21, c22⟩ := hv2.out
  have n02 : ¬ (w.heap.size = w.heap.size + 1 + 1) := by omega
  have n20 : ¬ (w.heap.size + 1 + 1 = w.heap.size) := by omega
  have n12 : ¬ (w.heap.size + 1 = w.heap.size + 1 + 1) := by omega
  have n21 : ¬ (w.heap.size + 1 + 1 = w.heap.size + 1) := by omega
  have HZ := Lib.hid (((hb0.out.setCell (p := ⟨w.heap.size + 1 + 1, 0, none⟩) (by simp; omega) (.int .i64 r1)).setCell (p := ⟨w.heap.size + 1 + 1, 1, none⟩) (by simp; omega) (.int .i64 r2)).setCell (p := ⟨w.heap.size + 1 + 1, 2, none⟩) (by simp; omega) (.int .i64 r3))
  go_wp2
  exact bodyPost_ret (v := vv r1 r2 r3) (by simp [results, Try.results66, go_sem, c20, c21, c22]) rfl ⟨rfl, HZ.out⟩
end Go.Proofs.Ytpkfngfenkcjoaa

/- vector.Add, Sub, Dot, Cross, Distance2 as walks over what their calls give. -/
set_option linter.all false
namespace Go.Proofs.Ytpkfngfenkcjoaa
open Go.RowKit

theorem rv2 {w : World} {g : Nat} {x1 x2 x3 y1 y2 y3 : Int} (h : w.cell? ⟨g, 0, none⟩ = some (.int .i64 x1) ∧ w.cell? ⟨g, 1, none⟩ = some (.int .i64 x2) ∧ w.cell? ⟨g, 2, none⟩ = some (.int .i64 x3) ∧ w.cell? ⟨g, 3, none⟩ = some (.int .i64 y1) ∧ w.cell? ⟨g, 4, none⟩ = some (.int .i64 y2) ∧ w.cell? ⟨g, 5, none⟩ = some (.int .i64 y3)) :
    Rv w (.slice (some ⟨g, 0, none⟩) 2 2) [(x1, x2, x3), (y1, y2, y3)] := by
  obtain ⟨h0, h1, h2, h3, h4, h5⟩ := h
  refine ⟨_, g, 0, 2, rfl, Nat.le_refl _, by decide, fun _ => rfl, fun k hk => ?_⟩
  simp only [List.length_cons, List.length_nil] at hk
  obtain rfl | rfl : k = 0 ∨ k = 1 := by omega
  · exact ⟨h0, h1, h2⟩
  · exact ⟨h3, h4, h5⟩
theorem rv3 {w : World} {g : Nat} {x1 x2 x3 y1 y2 y3 z1 z2 z3 : Int} (h : w.cell? ⟨g, 0, none⟩ = some (.int .i64 x1) ∧ w.cell? ⟨g, 1, none⟩ = some (.int .i64 x2) ∧ w.cell? ⟨g, 2, none⟩ = some (.int .i64 x3) ∧ w.cell? ⟨g, 3, none⟩ = some (.int .i64 y1) ∧ w.cell? ⟨g, 4, none⟩ = some (.int .i64 y2) ∧ w.cell? ⟨g, 5, none⟩ = some (.int .i64 y3) ∧ w.cell? ⟨g, 6, none⟩ = some (.int .i64 z1) ∧ w.cell? ⟨g, 7, none⟩ = some (.int .i64 z2) ∧ w.cell? ⟨g, 8, none⟩ = some (.int .i64 z3)) :
    Rv w (.slice (some ⟨g, 0, none⟩) 3 3) [(x1, x2, x3), (y1, y2, y3), (z1, z2, z3)] := by
  obtain ⟨h0, h1, h2, h3, h4, h5, h6, h7, h8⟩ := h
  refine ⟨_, g, 0, 3, rfl, Nat.le_refl _, by decide, fun _ => rfl, fun k hk => ?_⟩
  simp only [List.length_cons, List.length_nil] at hk
  obtain rfl | rfl | rfl : k = 0 ∨ k = 1 ∨ k = 2 := by omega
  · exact ⟨h0, h1, h2⟩
  · exact ⟨h3, h4, h5⟩
  · exact ⟨h6, h7, h8⟩

set_option maxRecDepth 100000 in
set_option maxHeartbeats 4000000 in
theorem Sub_bad (x1 x2 x3 y1 y2 y3 : Int) (h : inL 16777216 [(x1, x2, x3), (y1, y2, y3)] = false) (w : World) :
    Calls Try.prog 67 #[vv x1 x2 x3, vv y1 y2 y3] w (Ret (.tuple #[vv 0 0 0, .int .i64 2]) w) := by
  have HA := Lib.hid (fun v w h => allValid_any [(x1, x2, x3), (y1, y2, y3)] v w h)
  rw [h] at HA
  clear h
  go_enter Try.func67, Try.ntmps67
  go_wp2_with fail
  obtain ⟨w0, hw0⟩ : ∃ w0 : World, w0 = (((w.alloc (.cells #[.int .i64 x1, .int .i64 x2, .int .i64 x3] 24)).alloc (.cells #[.int .i64 y1, .int .i64 y2, .int .i64 y3] 24)).alloc (.cells #[.int .i64 0, .int .i64 0, .int .i64 0] 24)).alloc (.cells #[.int .i64 x1, .int .i64 x2, .int .i64 x3, .int .i64 y1, .int .i64 y2, .int .i64 y3] 24) := ⟨_, rfl⟩
  have hb0 : Hid (Below w.heap.size w w0) := by rw [hw0]; exact (((below_one w _).alloc (by simp) _).alloc (by simp; omega) _).alloc (by simp; omega) _
  have hv0 : Hid (V3 w0 w.heap.size x1 x2 x3) := by rw [hw0]; exact ⟨by simp [go_sem], by simp [go_sem], by simp [go_sem]⟩
  have hv1 : Hid (V3 w0 (w.heap.size + 1) y1 y2 y3) := by rw [hw0]; exact ⟨by simp [go_sem], by simp [go_sem], by simp [go_sem]⟩
  have hv2 : Hid (V3 w0 (w.heap.size + 1 + 1) 0 0 0) := by rw [hw0]; exact ⟨by simp [go_sem], by simp [go_sem], by simp [go_sem]⟩
  have hv3 : Hid (Rv w0 (.slice (some ⟨w.heap.size + 1 + 1 + 1, 0, none⟩) 2 2) [(x1, x2, x3), (y1, y2, y3)]) := by rw [hw0]; exact rv2 (by simp [go_sem])
  have f20 : w0.frozen? ⟨w.heap.size + 1 + 1, 0, none⟩ = false := by rw [hw0]; simp [go_sem]
  have f21 : w0.frozen? ⟨w.heap.size + 1 + 1, 1, none⟩ = false := by rw [hw0]; simp [go_sem]
  have f22 : w0.frozen? ⟨w.heap.size + 1 + 1, 2, none⟩ = false := by rw [hw0]; simp [go_sem]
  have F2 := Lib.hid (And.intro f20 (And.intro f21 f22))
  clear f20 f21 f22
  rw [← hw0]
  clear hw0
  refine (HA.out _ _ hv3.out).mono ?_
  rintro e wa ⟨rfl, ba⟩
  obtain ⟨k20, k21, k22⟩ := hv2.out.below ba
  have g20 := keepf ba hv2.out.1 F2.out.1
  have g21 := keepf ba hv2.out.2.1 F2.out.2.1
  have g22 := keepf ba hv2.out.2.2 F2.out.2.2
  have HB := Lib.hid (chain hb0.out ba)
  clear ba
  have HZ := Lib.hid (((HB.out.setCell (p := ⟨w.heap.size + 1 + 1, 0, none⟩) (by simp; omega) (.int .i64 0)).setCell (p := ⟨w.heap.size + 1 + 1, 1, none⟩) (by simp; omega) (.int .i64 0)).setCell (p := ⟨w.heap.size + 1 + 1, 2, none⟩) (by simp; omega) (.int .i64 0))
  go_wp2
  exact bodyPost_ret (v := .tuple #[vv 0 0 0, .int .i64 2]) (by simp [results, Try.results67, go_sem, k20, k21, k22]) rfl ⟨rfl, HZ.out⟩

set_option maxRecDepth 100000 in
set_option maxHeartbeats 4000000 in
theorem Cross_bad (x1 x2 x3 y1 y2 y3 : Int) (h : inL 16777216 [(x1, x2, x3), (y1, y2, y3)] = false) (w : World) :
    Calls Try.prog 44 #[vv x1 x2 x3, vv y1 y2 y3] w (Ret (.tuple #[vv 0 0 0, .int .i64 2]) w) := by
  have HA := Lib.hid (fun v w h => allValid_any [(x1, x2, x3), (y1, y2, y3)] v w h)
  rw [h] at HA
  clear h
  go_enter Try.func44, Try.ntmps44
  go_wp2_with fail
  obtain ⟨w0, hw0⟩ : ∃ w0 : World, w0 = (((w.alloc (.cells #[.int .i64 x1, .int .i64 x2, .int .i64 x3] 24)).alloc (.cells #[.int .i64 y1, .int .i64 y2, .int .i64 y3] 24)).alloc (.cells #[.int .i64 0, .int .i64 0, .int .i64 0] 24)).alloc (.cells #[.int .i64 x1, .int .i64 x2, .int .i64 x3, .int .i64 y1, .int .i64 y2, .int .i64 y3] 24) := ⟨_, rfl⟩
  have hb0 : Hid (Below w.heap.size w w0) := by rw [hw0]; exact (((below_one w _).alloc (by simp) _).alloc (by simp; omega) _).alloc (by simp; omega) _
  have hv0 : Hid (V3 w0 w.heap.size x1 x2 x3) := by rw [hw0]; exact ⟨by simp [go_sem], by simp [go_sem], by simp [go_sem]⟩
  have hv1 : Hid (V3 w0 (w.heap.size + 1) y1 y2 y3) := by rw [hw0]; exact ⟨by simp [go_sem], by simp [go_sem], by simp [go_sem]⟩
  have hv2 : Hid (V3 w0 (w.heap.size + 1 + 1) 0 0 0) := by rw [hw0]; exact ⟨by simp [go_sem], by simp [go_sem], by simp [go_sem]⟩
  have hv3 : Hid (Rv w0 (.slice (some ⟨w.heap.size + 1 + 1 + 1, 0, none⟩) 2 2) [(x1, x2, x3), (y1, y2, y3)]) := by rw [hw0]; exact rv2 (by simp [go_sem])
  have f20 : w0.frozen? ⟨w.heap.size + 1 + 1, 0, none⟩ = false := by rw [hw0]; simp [go_sem]
  have f21 : w0.frozen? ⟨w.heap.size + 1 + 1, 1, none⟩ = false := by rw [hw0]; simp [go_sem]
  have f22 : w0.frozen? ⟨w.heap.size + 1 + 1, 2, none⟩ = false := by rw [hw0]; simp [go_sem]
  have F2 := Lib.hid (And.intro f20 (And.intro f21 f22))
  clear f20 f21 f22
  rw [← hw0]
  clear hw0
  refine (HA.out _ _ hv3.out).mono ?_
  rintro e wa ⟨rfl, ba⟩
  obtain ⟨k20, k21, k22⟩ := hv2.out.below ba
  have g20 := keepf ba hv2.out.1 F2.out.1
  have g21 := keepf ba hv2.out.2.1 F2.out.2.1
  have g22 := keepf ba hv2.out.2.2 F2.out.2.2
  have HB := Lib.hid (chain hb0.out ba)
  clear ba
  have HZ := Lib.hid (((HB.out.setCell (p := ⟨w.heap.size + 1 + 1, 0, none⟩) (by simp; omega) (.int .i64 0)).setCell (p := ⟨w.heap.size + 1 + 1, 1, none⟩) (by simp; omega) (.int .i64 0)).setCell (p := ⟨w.heap.size + 1 + 1, 2, none⟩) (by simp; omega) (.int .i64 0))
  go_wp2
  exact bodyPost_ret (v := .tuple #[vv 0 0 0, .int .i64 2]) (by simp [results, Try.results44, go_sem, k20, k21, k22]) rfl ⟨rfl, HZ.out⟩

set_option maxRecDepth 100000 in
set_option maxHeartbeats 4000000 in
theorem Dot_bad (x1 x2 x3 y1 y2 y3 : Int) (h : inL 16777216 [(x1, x2, x3), (y1, y2, y3)] = false) (w : World) :
    Calls Try.prog 49 #[vv x1 x2 x3, vv y1 y2 y3] w (Ret (.tuple #[.int .i64 0, .int .i64 2]) w) := by
  have HA := Lib.hid (fun v w h => allValid_any [(x1, x2, x3), (y1, y2, y3)] v w h)
  rw [h] at HA
  clear h
  go_enter Try.func49, Try.ntmps49
  go_wp2_with fail
  obtain ⟨w0, hw0⟩ : ∃ w0 : World, w0 = ((w.alloc (.cells #[.int .i64 x1, .int .i64 x2, .int .i64 x3] 24)).alloc (.cells #[.int .i64 y1, .int .i64 y2, .int .i64 y3] 24)).alloc (.cells #[.int .i64 x1, .int .i64 x2, .int .i64 x3, .int .i64 y1, .int .i64 y2, .int .i64 y3] 24) := ⟨_, rfl⟩
  have hb0 : Hid (Below w.heap.size w w0) := by rw [hw0]; exact ((below_one w _).alloc (by simp) _).alloc (by simp; omega) _
  have hv0 : Hid (V3 w0 w.heap.size x1 x2 x3) := by rw [hw0]; exact ⟨by simp [go_sem], by simp [go_sem], by simp [go_sem]⟩
  have hv1 : Hid (V3 w0 (w.heap.size + 1) y1 y2 y3) := by rw [hw0]; exact ⟨by simp [go_sem], by simp [go_sem], by simp [go_sem]⟩
  have hv2 : Hid (Rv w0 (.slice (some ⟨w.heap.size + 1 + 1, 0, none⟩) 2 2) [(x1, x2, x3), (y1, y2, y3)]) := by rw [hw0]; exact rv2 (by simp [go_sem])
  rw [← hw0]
  clear hw0
  refine (HA.out _ _ hv2.out).mono ?_
  rintro e wa ⟨rfl, ba⟩
  have HB := Lib.hid (chain hb0.out ba)
  clear ba
  go_wp2
  go_ret2
  exact ⟨rfl, HB.out⟩

set_option maxRecDepth 100000 in
set_option maxHeartbeats 4000000 in
theorem Distance2_bad (x1 x2 x3 y1 y2 y3 : Int) (h : inL 16777216 [(x1, x2, x3), (y1, y2, y3)] = false) (w : World) :
    Calls Try.prog 47 #[vv x1 x2 x3, vv y1 y2 y3] w (Ret (.tuple #[.int .i64 0, .int .i64 2]) w) := by
  have HA := Lib.hid (fun v w h => allValid_any [(x1, x2, x3), (y1, y2, y3)] v w h)
  rw [h] at HA
  clear h
  go_enter Try.func47, Try.ntmps47
  go_wp2_with fail
  obtain ⟨w0, hw0⟩ : ∃ w0 : World, w0 = ((w.alloc (.cells #[.int .i64 x1, .int .i64 x2, .int .i64 x3] 24)).alloc (.cells #[.int .i64 y1, .int .i64 y2, .int .i64 y3] 24)).alloc (.cells #[.int .i64 x1, .int .i64 x2, .int .i64 x3, .int .i64 y1, .int .i64 y2, .int .i64 y3] 24) := ⟨_, rfl⟩
  have hb0 : Hid (Below w.heap.size w w0) := by rw [hw0]; exact ((below_one w _).alloc (by simp) _).alloc (by simp; omega) _
  have hv0 : Hid (V3 w0 w.heap.size x1 x2 x3) := by rw [hw0]; exact ⟨by simp [go_sem], by simp [go_sem], by simp [go_sem]⟩
  have hv1 : Hid (V3 w0 (w.heap.size + 1) y1 y2 y3) := by rw [hw0]; exact ⟨by simp [go_sem], by simp [go_sem], by simp [go_sem]⟩
  have hv2 : Hid (Rv w0 (.slice (some ⟨w.heap.size + 1 + 1, 0, none⟩) 2 2) [(x1, x2, x3), (y1, y2, y3)]) := by rw [hw0]; exact rv2 (by simp [go_sem])
  rw [← hw0]
  clear hw0
  refine (HA.out _ _ hv2.out).mono ?_
  rintro e wa ⟨rfl, ba⟩
  have HB := Lib.hid (chain hb0.out ba)
  clear ba
  go_wp2
  go_ret2
  exact ⟨rfl, HB.out⟩

set_option maxRecDepth 100000 in
set_option maxHeartbeats 4000000 in
theorem Sub_way (x1 x2 x3 y1 y2 y3 r1 r2 r3 o1 o2 o3 er : Int) (h : inL 16777216 [(x1, x2, x3), (y1, y2, y3)] = true) (H1 : ∀ w, Calls Try.prog 68 #[vv x1 x2 x3, vv y1 y2 y3] w (Ret (vv r1 r2 r3) w)) (H2 : ∀ w, Calls Try.prog 74 #[vv r1 r2 r3] w (Ret (.tuple #[vv o1 o2 o3, .int .i64 er]) w)) (w : World) :
    Calls Try.prog 67 #[vv x1 x2 x3, vv y1 y2 y3] w (Ret (.tuple #[vv o1 o2 o3, .int .i64 er]) w) := by
  have HA := Lib.hid (fun v w h => allValid_any [(x1, x2, x3), (y1, y2, y3)] v w h)
  rw [h] at HA
  have H1 := Lib.hid H1
  have H2 := Lib.hid H2
  clear h
  go_enter Try.func67, Try.ntmps67
  go_wp2_with fail
  obtain ⟨w0, hw0⟩ : ∃ w0 : World, w0 = (((w.alloc (.cells #[.int .i64 x1, .int .i64 x2, .int .i64 x3] 24)).alloc (.cells #[.int .i64 y1, .int .i64 y2, .int .i64 y3] 24)).alloc (.cells #[.int .i64 0, .int .i64 0, .int .i64 0] 24)).alloc (.cells #[.int .i64 x1, .int .i64 x2, .int .i64 x3, .int .i64 y1, .int .i64 y2, .int .i64 y3] 24) := ⟨_, rfl⟩
  have hb0 : Hid (Below w.heap.size w w0) := by rw [hw0]; exact (((below_one w _).alloc (by simp) _).alloc (by simp; omega) _).alloc (by simp; omega) _
  have hv0 : Hid (V3 w0 w.heap.size x1 x2 x3) := by rw [hw0]; exact ⟨by simp [go_sem], by simp [go_sem], by simp [go_sem]⟩
  have hv1 : Hid (V3 w0 (w.heap.size + 1) y1 y2 y3) := by rw [hw0]; exact ⟨by simp [go_sem], by simp [go_sem], by simp [go_sem]⟩
  have hv2 : Hid (V3 w0 (w.heap.size + 1 + 1) 0 0 0) := by rw [hw0]; exact ⟨by simp [go_sem], by simp [go_sem], by simp [go_sem]⟩
  have hv3 : Hid (Rv w0 (.slice (some ⟨w.heap.size + 1 + 1 + 1, 0, none⟩) 2 2) [(x1, x2, x3), (y1, y2, y3)]) := by rw [hw0]; exact rv2 (by simp [go_sem])
  have f20 : w0.frozen? ⟨w.heap.size + 1 + 1, 0, none⟩ = false := by rw [hw0]; simp [go_sem]
  have f21 : w0.frozen? ⟨w.heap.size + 1 + 1, 1, none⟩ = false := by rw [hw0]; simp [go_sem]
  have f22 : w0.frozen? ⟨w.heap.size + 1 + 1, 2, none⟩ = false := by rw [hw0]; simp [go_sem]
  have F2 := Lib.hid (And.intro f20 (And.intro f21 f22))
  clear f20 f21 f22
  rw [← hw0]
  clear hw0
  refine (HA.out _ _ hv3.out).mono ?_
  rintro e wa ⟨rfl, ba⟩
  have C0 := Lib.hid ba
  clear ba
  obtain ⟨k00, k01, k02⟩ := hv0.out.below C0.out
  obtain ⟨k10, k11, k12⟩ := hv1.out.below C0.out
  go_wp2_with fail
  refine (H1.out _).mono ?_
  rintro e wb0 ⟨rfl, bb⟩
  have C1 := Lib.hid (chain C0.out bb)
  clear bb
  clear k00 k01 k02 k10 k11 k12
  obtain ⟨k00, k01, k02⟩ := hv0.out.below C1.out
  obtain ⟨k10, k11, k12⟩ := hv1.out.below C1.out
  go_wp2_with fail
  refine (H2.out _).mono ?_
  rintro e wb1 ⟨rfl, bb⟩
  have C2 := Lib.hid (chain C1.out bb)
  clear bb
  clear k00 k01 k02 k10 k11 k12
  have HB := Lib.hid (chain hb0.out C2.out)
  obtain ⟨k20, k21, k22⟩ := hv2.out.below C2.out
  have g20 := keepf C2.out hv2.out.1 F2.out.1
  have g21 := keepf C2.out hv2.out.2.1 F2.out.2.1
  have g22 := keepf C2.out hv2.out.2.2 F2.out.2.2
  have HZ := Lib.hid (((HB.out.setCell (p := ⟨w.heap.size + 1 + 1, 0, none⟩) (by simp; omega) (.int .i64 o1)).setCell (p := ⟨w.heap.size + 1 + 1, 1, none⟩) (by simp; omega) (.int .i64 o2)).setCell (p := ⟨w.heap.size + 1 + 1, 2, none⟩) (by simp; omega) (.int .i64 o3))
  go_wp2
  exact bodyPost_ret (v := .tuple #[vv o1 o2 o3, .int .i64 er]) (by simp [results, Try.results67, go_sem, k20, k21, k22]) rfl ⟨rfl, HZ.out⟩

set_option maxRecDepth 100000 in
set_option maxHeartbeats 4000000 in
theorem Cross_way (x1 x2 x3 y1 y2 y3 r1 r2 r3 : Int) (h : inL 16777216 [(x1, x2, x3), (y1, y2, y3)] = true) (H1 : ∀ w, Calls Try.prog 66 #[vv x1 x2 x3, vv y1 y2 y3] w (Ret (vv r1 r2 r3) w)) (w : World) :
    Calls Try.prog 44 #[vv x1 x2 x3, vv y1 y2 y3] w (Ret (.tuple #[vv r1 r2 r3, .int .i64 0]) w) := by
  have HA := Lib.hid (fun v w h => allValid_any [(x1, x2, x3), (y1, y2, y3)] v w h)
  rw [h] at HA
  have H1 := Lib.hid H1
  clear h
  go_enter Try.func44, Try.ntmps44
  go_wp2_with fail
  obtain ⟨w0, hw0⟩ : ∃ w0 : World, w0 = (((w.alloc (.cells #[.int .i64 x1, .int .i64 x2, .int .i64 x3] 24)).alloc (.cells #[.int .i64 y1, .int .i64 y2, .int .i64 y3] 24)).alloc (.cells #[.int .i64 0, .int .i64 0, .int .i64 0] 24)).alloc (.cells #[.int .i64 x1, .int .i64 x2, .int .i64 x3, .int .i64 y1, .int .i64 y2, .int .i64 y3] 24) := ⟨_, rfl⟩
  have hb0 : Hid (Below w.heap.size w w0) := by rw [hw0]; exact (((below_one w _).alloc (by simp) _).alloc (by simp; omega) _).alloc (by simp; omega) _
  have hv0 : Hid (V3 w0 w.heap.size x1 x2 x3) := by rw [hw0]; exact ⟨by simp [go_sem], by simp [go_sem], by simp [go_sem]⟩
  have hv1 : Hid (V3 w0 (w.heap.size + 1) y1 y2 y3) := by rw [hw0]; exact ⟨by simp [go_sem], by simp [go_sem], by simp [go_sem]⟩
  have hv2 : Hid (V3 w0 (w.heap.size + 1 + 1) 0 0 0) := by rw [hw0]; exact ⟨by simp [go_sem], by simp [go_sem], by simp [go_sem]⟩
  have hv3 : Hid (Rv w0 (.slice (some ⟨w.heap.size + 1 + 1 + 1, 0, none⟩) 2 2) [(x1, x2, x3), (y1, y2, y3)]) := by rw [hw0]; exact rv2 (by simp [go_sem])
  have f20 : w0.frozen? ⟨w.heap.size + 1 + 1, 0, none⟩ = false := by rw [hw0]; simp [go_sem]
  have f21 : w0.frozen? ⟨w.heap.size + 1 + 1, 1, none⟩ = false := by rw [hw0]; simp [go_sem]
  have f22 : w0.frozen? ⟨w.heap.size + 1 + 1, 2, none⟩ = false := by rw [hw0]; simp [go_sem]
  have F2 := Lib.hid (And.intro f20 (And.intro f21 f22))
  clear f20 f21 f22
  rw [← hw0]
  clear hw0
  refine (HA.out _ _ hv3.out).mono ?_
  rintro e wa ⟨rfl, ba⟩
  have C0 := Lib.hid ba
  clear ba
  obtain ⟨k00, k01, k02⟩ := hv0.out.below C0.out
  obtain ⟨k10, k11, k12⟩ := hv1.out.below C0.out
  go_wp2_with fail
  refine (H1.out _).mono ?_
  rintro e wb0 ⟨rfl, bb⟩
  have C1 := Lib.hid (chain C0.out bb)
  clear bb
  clear k00 k01 k02 k10 k11 k12
  have HB := Lib.hid (chain hb0.out C1.out)
  obtain ⟨k20, k21, k22⟩ := hv2.out.below C1.out
  have g20 := keepf C1.out hv2.out.1 F2.out.1
  have g21 := keepf C1.out hv2.out.2.1 F2.out.2.1
  have g22 := keepf C1.out hv2.out.2.2 F2.out.2.2
  have HZ := Lib.hid (((HB.out.setCell (p := ⟨w.heap.size + 1 + 1, 0, none⟩) (by simp; omega) (.int .i64 r1)).setCell (p := ⟨w.heap.size + 1 + 1, 1, none⟩) (by simp; omega) (.int .i64 r2)).setCell (p := ⟨w.heap.size + 1 + 1, 2, none⟩) (by simp; omega) (.int .i64 r3))
  go_wp2
  exact bodyPost_ret (v := .tuple #[vv r1 r2 r3, .int .i64 0]) (by simp [results, Try.results44, go_sem, k20, k21, k22]) rfl ⟨rfl, HZ.out⟩

set_option maxRecDepth 100000 in
set_option maxHeartbeats 4000000 in
theorem Dot_way (x1 x2 x3 y1 y2 y3 r : Int) (h : inL 16777216 [(x1, x2, x3), (y1, y2, y3)] = true) (H1 : ∀ w, Calls Try.prog 69 #[vv x1 x2 x3, vv y1 y2 y3] w (Ret (.int .i64 r) w)) (w : World) :
    Calls Try.prog 49 #[vv x1 x2 x3, vv y1 y2 y3] w (Ret (.tuple #[.int .i64 r, .int .i64 0]) w) := by
  have HA := Lib.hid (fun v w h => allValid_any [(x1, x2, x3), (y1, y2, y3)] v w h)
  rw [h] at HA
  have H1 := Lib.hid H1
  clear h
  go_enter Try.func49, Try.ntmps49
  go_wp2_with fail
  obtain ⟨w0, hw0⟩ : ∃ w0 : World, w0 = ((w.alloc (.cells #[.int .i64 x1, .int .i64 x2, .int .i64 x3] 24)).alloc (.cells #[.int .i64 y1, .int .i64 y2, .int .i64 y3] 24)).alloc (.cells #[.int .i64 x1, .int .i64 x2, .int .i64 x3, .int .i64 y1, .int .i64 y2, .int .i64 y3] 24) := ⟨_, rfl⟩
  have hb0 : Hid (Below w.heap.size w w0) := by rw [hw0]; exact ((below_one w _).alloc (by simp) _).alloc (by simp; omega) _
  have hv0 : Hid (V3 w0 w.heap.size x1 x2 x3) := by rw [hw0]; exact ⟨by simp [go_sem], by simp [go_sem], by simp [go_sem]⟩
  have hv1 : Hid (V3 w0 (w.heap.size + 1) y1 y2 y3) := by rw [hw0]; exact ⟨by simp [go_sem], by simp [go_sem], by simp [go_sem]⟩
  have hv2 : Hid (Rv w0 (.slice (some ⟨w.heap.size + 1 + 1, 0, none⟩) 2 2) [(x1, x2, x3), (y1, y2, y3)]) := by rw [hw0]; exact rv2 (by simp [go_sem])
  rw [← hw0]
  clear hw0
  refine (HA.out _ _ hv2.out).mono ?_
  rintro e wa ⟨rfl, ba⟩
  have C0 := Lib.hid ba
  clear ba
  obtain ⟨k00, k01, k02⟩ := hv0.out.below C0.out
  obtain ⟨k10, k11, k12⟩ := hv1.out.below C0.out
  go_wp2_with fail
  refine (H1.out _).mono ?_
  rintro e wb0 ⟨rfl, bb⟩
  have C1 := Lib.hid (chain C0.out bb)
  clear bb
  clear k00 k01 k02 k10 k11 k12
  have HB := Lib.hid (chain hb0.out C1.out)
  go_wp2
  go_ret2
  exact ⟨rfl, HB.out⟩

set_option maxRecDepth 100000 in
set_option maxHeartbeats 4000000 in
theorem Distance2_way (x1 x2 x3 y1 y2 y3 r1 r2 r3 r : Int) (h : inL 16777216 [(x1, x2, x3), (y1, y2, y3)] = true) (H1 : ∀ w, Calls Try.prog 68 #[vv x1 x2 x3, vv y1 y2 y3] w (Ret (vv r1 r2 r3) w)) (H2 : ∀ w, Calls Try.prog 69 #[vv r1 r2 r3, vv r1 r2 r3] w (Ret (.int .i64 r) w)) (w : World) :
    Calls Try.prog 47 #[vv x1 x2 x3, vv y1 y2 y3] w (Ret (.tuple #[.int .i64 r, .int .i64 0]) w) := by
  have HA := Lib.hid (fun v w h => allValid_any [(x1, x2, x3), (y1, y2, y3)] v w h)
  rw [h] at HA
  have H1 := Lib.hid H1
  have H2 := Lib.hid H2
  clear h
  go_enter Try.func47, Try.ntmps47
  go_wp2_with fail
  obtain ⟨w0, hw0⟩ : ∃ w0 : World, w0 = ((w.alloc (.cells #[.int .i64 x1, .int .i64 x2, .int .i64 x3] 24)).alloc (.cells #[.int .i64 y1, .int .i64 y2, .int .i64 y3] 24)).alloc (.cells #[.int .i64 x1, .int .i64 x2, .int .i64 x3, .int .i64 y1, .int .i64 y2, .int .i64 y3] 24) := ⟨_, rfl⟩
  have hb0 : Hid (Below w.heap.size w w0) := by rw [hw0]; exact ((below_one w _).alloc (by simp) _).alloc (by simp; omega) _
  have hv0 : Hid (V3 w0 w.heap.size x1 x2 x3) := by rw [hw0]; exact ⟨by simp [go_sem], by simp [go_sem], by simp [go_sem]⟩
  have hv1 : Hid (V3 w0 (w.heap.size + 1) y1 y2 y3) := by rw [hw0]; exact ⟨by simp [go_sem], by simp [go_sem], by simp [go_sem]⟩
  have hv2 : Hid (Rv w0 (.slice (some ⟨w.heap.size + 1 + 1, 0, none⟩) 2 2) [(x1, x2, x3), (y1, y2, y3)]) := by rw [hw0]; exact rv2 (by simp [go_sem])
  rw [← hw0]
  clear hw0
  refine (HA.out _ _ hv2.out).mono ?_
  rintro e wa ⟨rfl, ba⟩
  have C0 := Lib.hid ba
  clear ba
  obtain ⟨k00, k01, k02⟩ := hv0.out.below C0.out
  obtain ⟨k10, k11, k12⟩ := hv1.out.below C0.out
  go_wp2_with fail
  refine (H1.out _).mono ?_
  rintro e wb0 ⟨rfl, bb⟩
  have C1 := Lib.hid (chain C0.out bb)
  clear bb
  clear k00 k01 k02 k10 k11 k12
  obtain ⟨k00, k01, k02⟩ := hv0.out.below C1.out
  obtain ⟨k10, k11, k12⟩ := hv1.out.below C1.out
  go_wp2_with fail
  refine (H2.out _).mono ?_
  rintro e wb1 ⟨rfl, bb⟩
  have C2 := Lib.hid (chain C1.out (chain (below_one _ _) bb))
  clear bb
  clear k00 k01 k02 k10 k11 k12
  have HB := Lib.hid (chain hb0.out C2.out)
  go_wp2
  go_ret2
  exact ⟨rfl, HB.out⟩
end Go.Proofs.Ytpkfngfenkcjoaa

/- vector.Scale, Length2, Turn, Compare as walks over what their calls give. -/
set_option linter.all false
namespace Go.Proofs.Ytpkfngfenkcjoaa
open Go.RowKit

set_option maxRecDepth 100000 in
set_option maxHeartbeats 4000000 in
theorem Turn_bad (x1 x2 x3 y1 y2 y3 z1 z2 z3 : Int) (h : inL 16777216 [(x1, x2, x3), (y1, y2, y3), (z1, z2, z3)] = false) (w : World) :
    Calls Try.prog 63 #[vv x1 x2 x3, vv y1 y2 y3, vv z1 z2 z3] w (Ret (.tuple #[.int .i64 0, .int .i64 2]) w) := by
  have HA := Lib.hid (fun v w h => allValid_any [(x1, x2, x3), (y1, y2, y3), (z1, z2, z3)] v w h)
  rw [h] at HA
  clear h
  go_enter Try.func63, Try.ntmps63
  go_wp2_with fail
  obtain ⟨w0, hw0⟩ : ∃ w0 : World, w0 = (((w.alloc (.cells #[.int .i64 x1, .int .i64 x2, .int .i64 x3] 24)).alloc (.cells #[.int .i64 y1, .int .i64 y2, .int .i64 y3] 24)).alloc (.cells #[.int .i64 z1, .int .i64 z2, .int .i64 z3] 24)).alloc (.cells #[.int .i64 x1, .int .i64 x2, .int .i64 x3, .int .i64 y1, .int .i64 y2, .int .i64 y3, .int .i64 z1, .int .i64 z2, .int .i64 z3] 24) := ⟨_, rfl⟩
  have hb0 : Hid (Below w.heap.size w w0) := by rw [hw0]; exact (((below_one w _).alloc (by simp) _).alloc (by simp; omega) _).alloc (by simp; omega) _
  have hv0 : Hid (V3 w0 w.heap.size x1 x2 x3) := by rw [hw0]; exact ⟨by simp [go_sem], by simp [go_sem], by simp [go_sem]⟩
  have hv1 : Hid (V3 w0 (w.heap.size + 1) y1 y2 y3) := by rw [hw0]; exact ⟨by simp [go_sem], by simp [go_sem], by simp [go_sem]⟩
  have hv2 : Hid (V3 w0 (w.heap.size + 1 + 1) z1 z2 z3) := by rw [hw0]; exact ⟨by simp [go_sem], by simp [go_sem], by simp [go_sem]⟩
  have hv3 : Hid (Rv w0 (.slice (some ⟨w.heap.size + 1 + 1 + 1, 0, none⟩) 3 3) [(x1, x2, x3), (y1, y2, y3), (z1, z2, z3)]) := by rw [hw0]; exact rv3 (by simp [go_sem])
  rw [← hw0]
  clear hw0
  refine (HA.out _ _ hv3.out).mono ?_
  rintro e wa ⟨rfl, ba⟩
  have HB := Lib.hid (chain hb0.out ba)
  clear ba
  go_wp2
  go_ret2
  exact ⟨rfl, HB.out⟩

set_option maxRecDepth 100000 in
set_option maxHeartbeats 4000000 in
theorem Turn_way (x1 x2 x3 y1 y2 y3 z1 z2 z3 a1 a2 a3 b1_ b2_ b3_ r1 r2 r3 : Int) (h : inL 16777216 [(x1, x2, x3), (y1, y2, y3), (z1, z2, z3)] = true)
    (H1 : ∀ w, Calls Try.prog 68 #[vv y1 y2 y3, vv x1 x2 x3] w (Ret (vv a1 a2 a3) w)) (H2 : ∀ w, Calls Try.prog 68 #[vv z1 z2 z3, vv x1 x2 x3] w (Ret (vv b1_ b2_ b3_) w)) (H3 : ∀ w, Calls Try.prog 66 #[vv a1 a2 a3, vv b1_ b2_ b3_] w (Ret (.agg #[.int .i64 r1, .int .i64 r2, .int .i64 r3]) w)) (w : World) :
    Calls Try.prog 63 #[vv x1 x2 x3, vv y1 y2 y3, vv z1 z2 z3] w (Ret (.tuple #[.int .i64 (cmpI r3 0), .int .i64 0]) w) := by
  have HA := Lib.hid (fun v w h => allValid_any [(x1, x2, x3), (y1, y2, y3), (z1, z2, z3)] v w h)
  rw [h] at HA
  have H1 := Lib.hid H1
  have H2 := Lib.hid H2
  have H3 := Lib.hid H3
  clear h
  have hf2 : ∀ w, (Instr.field 24 (.agg #[.int .i64 r1, .int .i64 r2, .int .i64 r3]) 2).run Try.prog w = .ok (.int .i64 r3) w := fun _ => by kernel_rfl
  go_enter Try.func63, Try.ntmps63
  go_wp2_with fail
  obtain ⟨w0, hw0⟩ : ∃ w0 : World, w0 = (((w.alloc (.cells #[.int .i64 x1, .int .i64 x2, .int .i64 x3] 24)).alloc (.cells #[.int .i64 y1, .int .i64 y2, .int .i64 y3] 24)).alloc (.cells #[.int .i64 z1, .int .i64 z2, .int .i64 z3] 24)).alloc (.cells #[.int .i64 x1, .int .i64 x2, .int .i64 x3, .int .i64 y1, .int .i64 y2, .int .i64 y3, .int .i64 z1, .int .i64 z2, .int .i64 z3] 24) := ⟨_, rfl⟩
  have hb0 : Hid (Below w.heap.size w w0) := by rw [hw0]; exact (((below_one w _).alloc (by simp) _).alloc (by simp; omega) _).alloc (by simp; omega) _
  have hv0 : Hid (V3 w0 w.heap.size x1 x2 x3) := by rw [hw0]; exact ⟨by simp [go_sem], by simp [go_sem], by simp [go_sem]⟩
  have hv1 : Hid (V3 w0 (w.heap.size + 1) y1 y2 y3) := by rw [hw0]; exact ⟨by simp [go_sem], by simp [go_sem], by simp [go_sem]⟩
  have hv2 : Hid (V3 w0 (w.heap.size + 1 + 1) z1 z2 z3) := by rw [hw0]; exact ⟨by simp [go_sem], by simp [go_sem], by simp [go_sem]⟩
  have hv3 : Hid (Rv w0 (.slice (some ⟨w.heap.size + 1 + 1 + 1, 0, none⟩) 3 3) [(x1, x2, x3), (y1, y2, y3), (z1, z2, z3)]) := by rw [hw0]; exact rv3 (by simp [go_sem])
  rw [← hw0]
  clear hw0
  refine (HA.out _ _ hv3.out).mono ?_
  rintro e wa ⟨rfl, ba⟩
  have C0 := Lib.hid ba
  clear ba
  obtain ⟨k00, k01, k02⟩ := hv0.out.below C0.out
  obtain ⟨k10, k11, k12⟩ := hv1.out.below C0.out
  obtain ⟨k20, k21, k22⟩ := hv2.out.below C0.out
  go_wp2_with fail
  go_region_held3 (fun W' => W'.cell? ⟨w.heap.size, 0, none⟩ = some (.int .i64 x1) ∧ W'.cell? ⟨w.heap.size, 1, none⟩ = some (.int .i64 x2) ∧ W'.cell? ⟨w.heap.size, 2, none⟩ = some (.int .i64 x3) ∧ W'.cell? ⟨w.heap.size + 1, 0, none⟩ = some (.int .i64 y1) ∧ W'.cell? ⟨w.heap.size + 1, 1, none⟩ = some (.int .i64 y2) ∧ W'.cell? ⟨w.heap.size + 1, 2, none⟩ = some (.int .i64 y3) ∧ W'.cell? ⟨w.heap.size + 1 + 1, 0, none⟩ = some (.int .i64 z1) ∧ W'.cell? ⟨w.heap.size + 1 + 1, 1, none⟩ = some (.int .i64 z2) ∧ W'.cell? ⟨w.heap.size + 1 + 1, 2, none⟩ = some (.int .i64 z3)) (go_keep)
    (first
      | (go_at_call 68; (with_reducible refine (H1.out _).mono ?_); rintro e w1 ⟨rfl, b1⟩; (try (have b1 := undrew b1)); have C1 := Lib.hid (chain C0.out b1); clear b1; obtain ⟨p00, p01, p02⟩ := hv0.out.below C1.out; obtain ⟨p10, p11, p12⟩ := hv1.out.below C1.out; obtain ⟨p20, p21, p22⟩ := hv2.out.below C1.out)
      | (go_at_call 68; (with_reducible refine (H2.out _).mono ?_); rintro e w2 ⟨rfl, b2⟩; (try (have b2 := undrew b2)); have C2 := Lib.hid (chain C1.out b2); clear b2; obtain ⟨p00, p01, p02⟩ := hv0.out.below C2.out; obtain ⟨p10, p11, p12⟩ := hv1.out.below C2.out; obtain ⟨p20, p21, p22⟩ := hv2.out.below C2.out)
      | (go_at_call 66; (with_reducible refine (H3.out _).mono ?_); rintro e w3 ⟨rfl, b3⟩; (try (have b3 := undrew b3)); have C3 := Lib.hid (chain C2.out b3); clear b3; obtain ⟨p00, p01, p02⟩ := hv0.out.below C3.out; obtain ⟨p10, p11, p12⟩ := hv1.out.below C3.out; obtain ⟨p20, p21, p22⟩ := hv2.out.below C3.out)
      | (go_at_call 73; (with_reducible refine (cmp_any _ _ _).mono ?_); rintro e w4 ⟨rfl, rfl⟩)
      | fail)
  have HB := Lib.hid (chain hb0.out C3.out)
  go_wp2
  go_ret2
  exact ⟨rfl, by first | exact HB.out | exact HB.out.drew⟩

set_option maxRecDepth 100000 in
set_option maxHeartbeats 4000000 in
theorem Compare_0 (x1 x2 x3 y1 y2 y3 : Int) (hn : cmpI x1 y1 ≠ 0) (w : World) :
    Calls Try.prog 59 #[vv x1 x2 x3, vv y1 y2 y3] w (Ret (.int .i64 (cmpI x1 y1)) w) := by
  have H := Lib.hid (fun x y w => cmp_any x y w)
  have i0 : ∀ w, (Instr.index 82 (.agg #[.int .i64 x1, .int .i64 y1, .int .i64 x2, .int .i64 y2, .int .i64 x3, .int .i64 y3]) (.int .i64 0)).run Try.prog w = .ok (.agg #[.int .i64 x1, .int .i64 y1]) w := fun _ => by kernel_rfl
  have i1 : ∀ w, (Instr.index 82 (.agg #[.int .i64 x1, .int .i64 y1, .int .i64 x2, .int .i64 y2, .int .i64 x3, .int .i64 y3]) (.int .i64 1)).run Try.prog w = .ok (.agg #[.int .i64 x2, .int .i64 y2]) w := fun _ => by kernel_rfl
  have i2 : ∀ w, (Instr.index 82 (.agg #[.int .i64 x1, .int .i64 y1, .int .i64 x2, .int .i64 y2, .int .i64 x3, .int .i64 y3]) (.int .i64 2)).run Try.prog w = .ok (.agg #[.int .i64 x3, .int .i64 y3]) w := fun _ => by kernel_rfl
  go_enter Try.func59, Try.ntmps59
  go_wp2
  refine wp_loop_rounds 4 ?_
  rw [rounds_succ]
  go_wp2_with fail
  refine (H.out x1 y1 _).mono ?_
  rintro e w0 ⟨rfl, rfl⟩
  generalize cmpI x1 y1 = c at *
  go_wp2
  go_ret
  exact ⟨rfl, ((below_one w _).alloc (by simp) _).alloc (by simp; omega) _⟩

set_option maxRecDepth 100000 in
set_option maxHeartbeats 4000000 in
theorem Compare_1 (x1 x2 x3 y1 y2 y3 : Int) (e1 : x1 = y1) (hn : cmpI x2 y2 ≠ 0) (w : World) :
    Calls Try.prog 59 #[vv x1 x2 x3, vv y1 y2 y3] w (Ret (.int .i64 (cmpI x2 y2)) w) := by
  have H := Lib.hid (fun x y w => cmp_any x y w)
  have i0 : ∀ w, (Instr.index 82 (.agg #[.int .i64 x1, .int .i64 y1, .int .i64 x2, .int .i64 y2, .int .i64 x3, .int .i64 y3]) (.int .i64 0)).run Try.prog w = .ok (.agg #[.int .i64 x1, .int .i64 y1]) w := fun _ => by kernel_rfl
  have i1 : ∀ w, (Instr.index 82 (.agg #[.int .i64 x1, .int .i64 y1, .int .i64 x2, .int .i64 y2, .int .i64 x3, .int .i64 y3]) (.int .i64 1)).run Try.prog w = .ok (.agg #[.int .i64 x2, .int .i64 y2]) w := fun _ => by kernel_rfl
  have i2 : ∀ w, (Instr.index 82 (.agg #[.int .i64 x1, .int .i64 y1, .int .i64 x2, .int .i64 y2, .int .i64 x3, .int .i64 y3]) (.int .i64 2)).run Try.prog w = .ok (.agg #[.int .i64 x3, .int .i64 y3]) w := fun _ => by kernel_rfl
  have E1 : Hid (cmpI x1 y1 = 0) := by show _ = _; subst e1; simp [cmpI]
  clear e1
  go_enter Try.func59, Try.ntmps59
  go_wp2
  refine wp_loop_rounds 4 ?_
  rw [rounds_succ]
  go_wp2_with fail
  refine (H.out x1 y1 _).mono ?_
  rintro e w0 ⟨rfl, rfl⟩
  rw [E1.out]
  go_wp2
  rw [rounds_succ]
  go_wp2_with fail
  refine (H.out x2 y2 _).mono ?_
  rintro e w1 ⟨rfl, rfl⟩
  generalize cmpI x2 y2 = c at *
  go_wp2
  go_ret
  exact ⟨rfl, (((below_one w _).alloc (by simp) _).alloc (by simp; omega) _).alloc (by simp; omega) _⟩

set_option maxRecDepth 100000 in
set_option maxHeartbeats 4000000 in
theorem Compare_2 (x1 x2 x3 y1 y2 y3 : Int) (e1 : x1 = y1) (e2 : x2 = y2) (hn : cmpI x3 y3 ≠ 0) (w : World) :
    Calls Try.prog 59 #[vv x1 x2 x3, vv y1 y2 y3] w (Ret (.int .i64 (cmpI x3 y3)) w) := by
  have H := Lib.hid (fun x y w => cmp_any x y w)
  have i0 : ∀ w, (Instr.index 82 (.agg #[.int .i64 x1, .int .i64 y1, .int .i64 x2, .int .i64 y2, .int .i64 x3, .int .i64 y3]) (.int .i64 0)).run Try.prog w = .ok (.agg #[.int .i64 x1, .int .i64 y1]) w := fun _ => by kernel_rfl
  have i1 : ∀ w, (Instr.index 82 (.agg #[.int .i64 x1, .int .i64 y1, .int .i64 x2, .int .i64 y2, .int .i64 x3, .int .i64 y3]) (.int .i64 1)).run Try.prog w = .ok (.agg #[.int .i64 x2, .int .i64 y2]) w := fun _ => by kernel_rfl
  have i2 : ∀ w, (Instr.index 82 (.agg #[.int .i64 x1, .int .i64 y1, .int .i64 x2, .int .i64 y2, .int .i64 x3, .int .i64 y3]) (.int .i64 2)).run Try.prog w = .ok (.agg #[.int .i64 x3, .int .i64 y3]) w := fun _ => by kernel_rfl
  have E1 : Hid (cmpI x1 y1 = 0) := by show _ = _; subst e1; simp [cmpI]
  clear e1
  have E2 : Hid (cmpI x2 y2 = 0) := by show _ = _; subst e2; simp [cmpI]
  clear e2
  go_enter Try.func59, Try.ntmps59
  go_wp2
  refine wp_loop_rounds 4 ?_
  rw [rounds_succ]
  go_wp2_with fail
  refine (H.out x1 y1 _).mono ?_
  rintro e w0 ⟨rfl, rfl⟩
  rw [E1.out]
  go_wp2
  rw [rounds_succ]
  go_wp2_with fail
  refine (H.out x2 y2 _).mono ?_
  rintro e w1 ⟨rfl, rfl⟩
  rw [E2.out]
  go_wp2
  rw [rounds_succ]
  go_wp2_with fail
  refine (H.out x3 y3 _).mono ?_
  rintro e w2 ⟨rfl, rfl⟩
  generalize cmpI x3 y3 = c at *
  go_wp2
  go_ret
  exact ⟨rfl, ((((below_one w _).alloc (by simp) _).alloc (by simp; omega) _).alloc (by simp; omega) _).alloc (by simp; omega) _⟩

set_option maxRecDepth 100000 in
set_option maxHeartbeats 4000000 in
theorem Compare_3 (x1 x2 x3 y1 y2 y3 : Int) (e1 : x1 = y1) (e2 : x2 = y2) (e3 : x3 = y3) (w : World) :
    Calls Try.prog 59 #[vv x1 x2 x3, vv y1 y2 y3] w (Ret (.int .i64 0) w) := by
  have H := Lib.hid (fun x y w => cmp_any x y w)
  have i0 : ∀ w, (Instr.index 82 (.agg #[.int .i64 x1, .int .i64 y1, .int .i64 x2, .int .i64 y2, .int .i64 x3, .int .i64 y3]) (.int .i64 0)).run Try.prog w = .ok (.agg #[.int .i64 x1, .int .i64 y1]) w := fun _ => by kernel_rfl
  have i1 : ∀ w, (Instr.index 82 (.agg #[.int .i64 x1, .int .i64 y1, .int .i64 x2, .int .i64 y2, .int .i64 x3, .int .i64 y3]) (.int .i64 1)).run Try.prog w = .ok (.agg #[.int .i64 x2, .int .i64 y2]) w := fun _ => by kernel_rfl
  have i2 : ∀ w, (Instr.index 82 (.agg #[.int .i64 x1, .int .i64 y1, .int .i64 x2, .int .i64 y2, .int .i64 x3, .int .i64 y3]) (.int .i64 2)).run Try.prog w = .ok (.agg #[.int .i64 x3, .int .i64 y3]) w := fun _ => by kernel_rfl
  have E1 : Hid (cmpI x1 y1 = 0) := by show _ = _; subst e1; simp [cmpI]
  clear e1
  have E2 : Hid (cmpI x2 y2 = 0) := by show _ = _; subst e2; simp [cmpI]
  clear e2
  have E3 : Hid (cmpI x3 y3 = 0) := by show _ = _; subst e3; simp [cmpI]
  clear e3
  go_enter Try.func59, Try.ntmps59
  go_wp2
  refine wp_loop_rounds 4 ?_
  rw [rounds_succ]
  go_wp2_with fail
  refine (H.out x1 y1 _).mono ?_
  rintro e w0 ⟨rfl, rfl⟩
  rw [E1.out]
  go_wp2
  rw [rounds_succ]
  go_wp2_with fail
  refine (H.out x2 y2 _).mono ?_
  rintro e w1 ⟨rfl, rfl⟩
  rw [E2.out]
  go_wp2
  rw [rounds_succ]
  go_wp2_with fail
  refine (H.out x3 y3 _).mono ?_
  rintro e w2 ⟨rfl, rfl⟩
  rw [E3.out]
  go_wp2
  rw [rounds_succ]
  go_wp2
  go_ret
  exact ⟨rfl, ((((below_one w _).alloc (by simp) _).alloc (by simp; omega) _).alloc (by simp; omega) _).alloc (by simp; omega) _⟩
end Go.Proofs.Ytpkfngfenkcjoaa

/- vector.combine over what is done with the parts: smaller and greater ones, and the parts between. -/
set_option linter.all false
namespace Go.Proofs.Ytpkfngfenkcjoaa
open Go.RowKit

end Go.Proofs.Ytpkfngfenkcjoaa

/- vector.nearest: the nearest integer to a quotient; what Between does with each part. -/
set_option linter.all false
namespace Go.Proofs.Ytpkfngfenkcjoaa
open Go.RowKit

/-- The integer nearest to n / d, the greater one of two. -/
def nr (n d : Int) : Int := (2 * n + d) / (2 * d)
theorem tmod_neg {a b : Int} (hb : 0 < b) (h : a.tmod b < 0) : a.tdiv b - 1 = a / b := by
  have h1 := Int.mul_tdiv_add_tmod a b
  have h2 := Int.lt_tmod_of_pos a hb
  generalize a.tdiv b = q at *
  generalize a.tmod b = r at *
  symm
  rw [Int.ediv_eq_iff_of_pos hb]
  have h3 : b * (q - 1) = b * q - b := by rw [Int.mul_sub, Int.mul_one]
  have h4 : (q - 1) * b = b * q - b := by rw [Int.mul_comm]; exact h3
  omega
theorem tmod_pos {a b : Int} (hb : 0 < b) (h : ¬ a.tmod b < 0) : a.tdiv b = a / b := by
  have h1 := Int.mul_tdiv_add_tmod a b
  have h2 := Int.tmod_lt_of_pos a hb
  generalize a.tdiv b = q at *
  generalize a.tmod b = r at *
  symm
  rw [Int.ediv_eq_iff_of_pos hb]
  have h4 : q * b = b * q := Int.mul_comm _ _
  omega

end Go.Proofs.Ytpkfngfenkcjoaa

/- vector.Between as a walk over what its calls give. -/
set_option linter.all false
namespace Go.Proofs.Ytpkfngfenkcjoaa
open Go.RowKit

end Go.Proofs.Ytpkfngfenkcjoaa
