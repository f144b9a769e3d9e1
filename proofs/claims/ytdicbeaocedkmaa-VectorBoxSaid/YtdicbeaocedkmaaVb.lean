/- A vector in memory; vector.within, vector.Valid, vector.Point. -/
import Derived.Test.YtdicbeaocedkmaaVa
set_option linter.all false
namespace Go.Proofs.Ytdicbeaocedkmaa
open Go.RowKit

/-- The parts of a vector in a block. -/
def V3 (w : World) (g : Nat) (x y z : Int) : Prop := w.cell? ⟨g, 0, none⟩ = some (.int .i64 x) ∧ w.cell? ⟨g, 1, none⟩ = some (.int .i64 y) ∧ w.cell? ⟨g, 2, none⟩ = some (.int .i64 z)
theorem V3.below {w w' : World} {g : Nat} {x y z : Int} (h : V3 w g x y z) (hb : Below w.heap.size w w') : V3 w' g x y z := ⟨keep1 hb h.1, keep1 hb h.2.1, keep1 hb h.2.2⟩
def inB (m x : Int) : Bool := decide (-m ≤ x ∧ x ≤ m)
/-- Parts of a limited magnitude. -/
def inV (m x y z : Int) : Bool := inB m x && (inB m y && inB m z)
theorem inB_lo {m x : Int} (h : x < -m) : inB m x = false := by unfold inB; rw [decide_eq_false_iff_not]; omega
theorem inB_hi {m x : Int} (h : m < x) : inB m x = false := by unfold inB; rw [decide_eq_false_iff_not]; omega
theorem inB_ok {m x : Int} (h : ¬ x < -m) (h2 : ¬ m < x) : inB m x = true := by unfold inB; rw [decide_eq_true_iff]; omega
theorem inB_iff {m x : Int} : inB m x = true ↔ -m ≤ x ∧ x ≤ m := by unfold inB; rw [decide_eq_true_iff]
theorem inV_iff {m x y z : Int} : inV m x y z = true ↔ (-m ≤ x ∧ x ≤ m) ∧ (-m ≤ y ∧ y ≤ m) ∧ (-m ≤ z ∧ z ≤ m) := by
  unfold inV; rw [Bool.and_eq_true, Bool.and_eq_true, inB_iff, inB_iff, inB_iff]

set_option maxRecDepth 100000 in
set_option maxHeartbeats 2000000 in
theorem within_0lo (m x y z : Int) (g : Nat) (w : World) (hm : 0 ≤ m ∧ m ≤ 1099511627776) (h : V3 w g x y z) (nx : x < -m) :
    Calls Try.prog 38 #[.int .i64 m, .slice (some ⟨g, 0, none⟩) 3 3] w (Qt (.bool false) w) := by
  obtain ⟨h0, h1, h2⟩ := h
  have hneg : IntKind.i64.wrap (-m) = -m := wrap_in (by omega)
  go_enter Try.func38, Try.ntmps38
  go_wp2
  refine wp_loop_rounds 4 ?_
  rw [rounds_succ]
  go_wp2
  go_ret
  exact ⟨rfl, rfl⟩

set_option maxRecDepth 100000 in
set_option maxHeartbeats 2000000 in
theorem within_0hi (m x y z : Int) (g : Nat) (w : World) (hm : 0 ≤ m ∧ m ≤ 1099511627776) (h : V3 w g x y z) (nx : ¬ x < -m) (px : m < x) :
    Calls Try.prog 38 #[.int .i64 m, .slice (some ⟨g, 0, none⟩) 3 3] w (Qt (.bool false) w) := by
  obtain ⟨h0, h1, h2⟩ := h
  have hneg : IntKind.i64.wrap (-m) = -m := wrap_in (by omega)
  go_enter Try.func38, Try.ntmps38
  go_wp2
  refine wp_loop_rounds 4 ?_
  rw [rounds_succ]
  go_wp2
  go_ret
  exact ⟨rfl, rfl⟩

set_option maxRecDepth 100000 in
set_option maxHeartbeats 2000000 in
theorem within_1lo (m x y z : Int) (g : Nat) (w : World) (hm : 0 ≤ m ∧ m ≤ 1099511627776) (h : V3 w g x y z) (nx : ¬ x < -m) (px : ¬ m < x) (ny : y < -m) :
    Calls Try.prog 38 #[.int .i64 m, .slice (some ⟨g, 0, none⟩) 3 3] w (Qt (.bool false) w) := by
  obtain ⟨h0, h1, h2⟩ := h
  have hneg : IntKind.i64.wrap (-m) = -m := wrap_in (by omega)
  go_enter Try.func38, Try.ntmps38
  go_wp2
  refine wp_loop_rounds 4 ?_
  rw [rounds_succ]
  go_wp2
  rw [rounds_succ]
  go_wp2
  go_ret
  exact ⟨rfl, rfl⟩

set_option maxRecDepth 100000 in
set_option maxHeartbeats 2000000 in
theorem within_1hi (m x y z : Int) (g : Nat) (w : World) (hm : 0 ≤ m ∧ m ≤ 1099511627776) (h : V3 w g x y z) (nx : ¬ x < -m) (px : ¬ m < x) (ny : ¬ y < -m) (py : m < y) :
    Calls Try.prog 38 #[.int .i64 m, .slice (some ⟨g, 0, none⟩) 3 3] w (Qt (.bool false) w) := by
  obtain ⟨h0, h1, h2⟩ := h
  have hneg : IntKind.i64.wrap (-m) = -m := wrap_in (by omega)
  go_enter Try.func38, Try.ntmps38
  go_wp2
  refine wp_loop_rounds 4 ?_
  rw [rounds_succ]
  go_wp2
  rw [rounds_succ]
  go_wp2
  go_ret
  exact ⟨rfl, rfl⟩

set_option maxRecDepth 100000 in
set_option maxHeartbeats 2000000 in
theorem within_2lo (m x y z : Int) (g : Nat) (w : World) (hm : 0 ≤ m ∧ m ≤ 1099511627776) (h : V3 w g x y z) (nx : ¬ x < -m) (px : ¬ m < x) (ny : ¬ y < -m) (py : ¬ m < y) (nz : z < -m) :
    Calls Try.prog 38 #[.int .i64 m, .slice (some ⟨g, 0, none⟩) 3 3] w (Qt (.bool false) w) := by
  obtain ⟨h0, h1, h2⟩ := h
  have hneg : IntKind.i64.wrap (-m) = -m := wrap_in (by omega)
  go_enter Try.func38, Try.ntmps38
  go_wp2
  refine wp_loop_rounds 4 ?_
  rw [rounds_succ]
  go_wp2
  rw [rounds_succ]
  go_wp2
  rw [rounds_succ]
  go_wp2
  go_ret
  exact ⟨rfl, rfl⟩

set_option maxRecDepth 100000 in
set_option maxHeartbeats 2000000 in
theorem within_2hi (m x y z : Int) (g : Nat) (w : World) (hm : 0 ≤ m ∧ m ≤ 1099511627776) (h : V3 w g x y z) (nx : ¬ x < -m) (px : ¬ m < x) (ny : ¬ y < -m) (py : ¬ m < y) (nz : ¬ z < -m) (pz : m < z) :
    Calls Try.prog 38 #[.int .i64 m, .slice (some ⟨g, 0, none⟩) 3 3] w (Qt (.bool false) w) := by
  obtain ⟨h0, h1, h2⟩ := h
  have hneg : IntKind.i64.wrap (-m) = -m := wrap_in (by omega)
  go_enter Try.func38, Try.ntmps38
  go_wp2
  refine wp_loop_rounds 4 ?_
  rw [rounds_succ]
  go_wp2
  rw [rounds_succ]
  go_wp2
  rw [rounds_succ]
  go_wp2
  go_ret
  exact ⟨rfl, rfl⟩

set_option maxRecDepth 100000 in
set_option maxHeartbeats 2000000 in
theorem within_3 (m x y z : Int) (g : Nat) (w : World) (hm : 0 ≤ m ∧ m ≤ 1099511627776) (h : V3 w g x y z) (nx : ¬ x < -m) (px : ¬ m < x) (ny : ¬ y < -m) (py : ¬ m < y) (nz : ¬ z < -m) (pz : ¬ m < z) :
    Calls Try.prog 38 #[.int .i64 m, .slice (some ⟨g, 0, none⟩) 3 3] w (Qt (.bool true) w) := by
  obtain ⟨h0, h1, h2⟩ := h
  have hneg : IntKind.i64.wrap (-m) = -m := wrap_in (by omega)
  go_enter Try.func38, Try.ntmps38
  go_wp2
  refine wp_loop_rounds 4 ?_
  rw [rounds_succ]
  go_wp2
  rw [rounds_succ]
  go_wp2
  rw [rounds_succ]
  go_wp2
  rw [rounds_succ]
  go_wp2
  go_ret
  exact ⟨rfl, rfl⟩

theorem within3 (m x y z : Int) (g : Nat) (w : World) (hm : 0 ≤ m ∧ m ≤ 1099511627776) (h : V3 w g x y z) :
    Calls Try.prog 38 #[.int .i64 m, .slice (some ⟨g, 0, none⟩) 3 3] w (Qt (.bool (inV m x y z)) w) := by
  unfold inV
  by_cases a1 : x < -m
  · rw [inB_lo a1]; exact within_0lo m x y z g w hm h a1
  by_cases b1 : m < x
  · rw [inB_hi b1]; exact within_0hi m x y z g w hm h a1 b1
  rw [inB_ok a1 b1]
  by_cases a2 : y < -m
  · rw [inB_lo a2]; exact within_1lo m x y z g w hm h a1 b1 a2
  by_cases b2 : m < y
  · rw [inB_hi b2]; exact within_1hi m x y z g w hm h a1 b1 a2 b2
  rw [inB_ok a2 b2]
  by_cases a3 : z < -m
  · rw [inB_lo a3]; exact within_2lo m x y z g w hm h a1 b1 a2 b2 a3
  by_cases b3 : m < z
  · rw [inB_hi b3]; exact within_2hi m x y z g w hm h a1 b1 a2 b2 a3 b3
  rw [inB_ok a3 b3]
  exact within_3 m x y z g w hm h a1 b1 a2 b2 a3 b3

set_option maxRecDepth 100000 in
set_option maxHeartbeats 2000000 in
theorem Valid_any (x y z : Int) (w : World) : Calls Try.prog 10 #[vv x y z] w (Ret (.bool (inV 16777216 x y z)) w) := by
  have HW := Lib.hid (fun g w h => within3 16777216 x y z g w (by omega) h)
  generalize inV 16777216 x y z = r at *
  go_enter Try.func10, Try.ntmps10
  go_wp2_with fail
  obtain ⟨w0, hw0⟩ : ∃ w0 : World, w0 = (w.alloc (.cells #[.int .i64 x, .int .i64 y, .int .i64 z] 23)).alloc (.cells #[.int .i64 x, .int .i64 y, .int .i64 z] 3) := ⟨_, rfl⟩
  have hb0 : Hid (Below w.heap.size w w0) := by rw [hw0]; exact (below_one w _).alloc (by simp) _
  have hv : Hid (V3 w0 (w.heap.size + 1) x y z) := by rw [hw0]; exact ⟨by simp [go_sem], by simp [go_sem], by simp [go_sem]⟩
  rw [← hw0]
  clear hw0
  refine (HW.out _ _ hv.out).mono ?_
  rintro e wa ⟨rfl, rfl⟩
  go_wp2
  go_ret
  exact ⟨rfl, hb0.out⟩

set_option maxRecDepth 100000 in
set_option maxHeartbeats 2000000 in
theorem Point_any (x y z : Int) (w : World) : Calls Try.prog 12 #[vv x y z] w (Ret (.bool (inV 1048576 x y z)) w) := by
  have HW := Lib.hid (fun g w h => within3 1048576 x y z g w (by omega) h)
  generalize inV 1048576 x y z = r at *
  go_enter Try.func12, Try.ntmps12
  go_wp2_with fail
  obtain ⟨w0, hw0⟩ : ∃ w0 : World, w0 = (w.alloc (.cells #[.int .i64 x, .int .i64 y, .int .i64 z] 23)).alloc (.cells #[.int .i64 x, .int .i64 y, .int .i64 z] 3) := ⟨_, rfl⟩
  have hb0 : Hid (Below w.heap.size w w0) := by rw [hw0]; exact (below_one w _).alloc (by simp) _
  have hv : Hid (V3 w0 (w.heap.size + 1) x y z) := by rw [hw0]; exact ⟨by simp [go_sem], by simp [go_sem], by simp [go_sem]⟩
  rw [← hw0]
  clear hw0
  refine (HW.out _ _ hv.out).mono ?_
  rintro e wa ⟨rfl, rfl⟩
  go_wp2
  go_ret
  exact ⟨rfl, hb0.out⟩
end Go.Proofs.Ytdicbeaocedkmaa
