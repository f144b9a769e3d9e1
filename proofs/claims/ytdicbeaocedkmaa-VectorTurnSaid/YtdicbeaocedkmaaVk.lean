/- vector.Box: the smallest and the greatest parts of some vectors. -/
import Derived.Test.YtdicbeaocedkmaaVc
import Derived.Test.YtdicbeaocedkmaaVe
set_option linter.all false
namespace Go.Proofs.Ytdicbeaocedkmaa
open Go.RowKit

abbrev T3 := Int × Int × Int
def m3 (a b : T3) : T3 := (min a.1 b.1, min a.2.1 b.2.1, min a.2.2 b.2.2)
def M3 (a b : T3) : T3 := (max a.1 b.1, max a.2.1 b.2.1, max a.2.2 b.2.2)
/-- A vector of the call's own. -/
def VF (w : World) (g : Nat) (a : T3) : Prop := V3 w g a.1 a.2.1 a.2.2 ∧ w.frozen? ⟨g, 0, none⟩ = false ∧ w.frozen? ⟨g, 1, none⟩ = false ∧ w.frozen? ⟨g, 2, none⟩ = false
theorem VF.below {w w' : World} {g : Nat} {a : T3} (h : VF w g a) (hb : Below w.heap.size w w') : VF w' g a :=
  ⟨h.1.below hb, keepf hb h.1.1 h.2.1, keepf hb h.1.2.1 h.2.2.1, keepf hb h.1.2.2 h.2.2.2⟩
theorem VF.drew {w : World} {g : Nat} {a : T3} (h : VF w g a) : VF w.drew g a := h
theorem VF.set {w : World} {g : Nat} {a : T3} (h : VF w g a) (x y z : Int) : VF (((w.setCell ⟨g, 0, none⟩ (.int .i64 x)).setCell ⟨g, 1, none⟩ (.int .i64 y)).setCell ⟨g, 2, none⟩ (.int .i64 z)) g (x, y, z) := by
  obtain ⟨⟨h1, h2, h3⟩, h4, h5, h6⟩ := h
  refine ⟨⟨?_, ?_, ?_⟩, ?_, ?_, ?_⟩ <;> simp [go_sem, h1, h2, h3, h4, h5, h6]
theorem V3.other {w : World} {g g' : Nat} {a b c : Int} (h : V3 w g a b c) (hn : ¬ g = g') (x y z : Value) : V3 (((w.setCell ⟨g', 0, none⟩ x).setCell ⟨g', 1, none⟩ y).setCell ⟨g', 2, none⟩ z) g a b c := by
  obtain ⟨h1, h2, h3⟩ := h
  have hn2 : ¬ g' = g := fun e => hn e.symm
  refine ⟨?_, ?_, ?_⟩ <;> simp [go_sem, h1, h2, h3, hn, hn2]
theorem below_set3 {w w' : World} (h : Below w.heap.size w w') {g : Nat} (hg : w.heap.size ≤ g) (x y z : Value) : Below w.heap.size w (((w'.setCell ⟨g, 0, none⟩ x).setCell ⟨g, 1, none⟩ y).setCell ⟨g, 2, none⟩ z) :=
  ((h.setCell (p := ⟨g, 0, none⟩) hg x).setCell (p := ⟨g, 1, none⟩) hg y).setCell (p := ⟨g, 2, none⟩) hg z
theorem VF.other {w : World} {g g' : Nat} {a : T3} (h : VF w g a) (hn : ¬ g = g') (x y z : Value) : VF (((w.setCell ⟨g', 0, none⟩ x).setCell ⟨g', 1, none⟩ y).setCell ⟨g', 2, none⟩ z) g a := by
  obtain ⟨⟨h1, h2, h3⟩, h4, h5, h6⟩ := h
  have hn2 : ¬ g' = g := fun e => hn e.symm
  refine ⟨⟨?_, ?_, ?_⟩, ?_, ?_, ?_⟩ <;> simp [go_sem, h1, h2, h3, h4, h5, h6, hn, hn2]

set_option maxRecDepth 100000 in
set_option maxHeartbeats 4000000 in
theorem Box_bad (L : List (Int × Int × Int)) (v : Value) (w : World) (hl : Rv w v L) (h : inL 16777216 L = false) :
    Calls Try.prog 35 #[v] w (Ret (.tuple #[vv 0 0 0, vv 0 0 0, .int .i64 2]) w) := by
  have HA := Lib.hid (fun w h => allValid_any L v w h)
  rw [h] at HA
  have hl2 := hl
  obtain ⟨p, b, off, cap, rfl, q2, q3, q4, q5⟩ := hl
  have HL := Lib.hid hl2
  clear h hl2 q2 q3 q4 q5
  generalize L.length = n at *
  go_enter Try.func35, Try.ntmps35
  go_wp2_with fail
  obtain ⟨w0, hw0⟩ : ∃ w0 : World, w0 = (w.alloc (.cells #[.int .i64 0, .int .i64 0, .int .i64 0] 23)).alloc (.cells #[.int .i64 0, .int .i64 0, .int .i64 0] 23) := ⟨_, rfl⟩
  have hb0 : Hid (Below w.heap.size w w0) := by rw [hw0]; exact (below_one w _).alloc (by simp) _
  have I0 : Hid (VF w0 w.heap.size (0, 0, 0)) := by rw [hw0]; exact ⟨⟨by simp [go_sem], by simp [go_sem], by simp [go_sem]⟩, by simp [go_sem], by simp [go_sem], by simp [go_sem]⟩
  have I1 : Hid (VF w0 (w.heap.size + 1) (0, 0, 0)) := by rw [hw0]; exact ⟨⟨by simp [go_sem], by simp [go_sem], by simp [go_sem]⟩, by simp [go_sem], by simp [go_sem], by simp [go_sem]⟩
  rw [← hw0]
  clear hw0
  refine (HA.out _ (HL.out.below hb0.out)).mono ?_
  rintro e wa ⟨rfl, ba⟩
  obtain ⟨⟨a0, a1, a2⟩, a3, a4, a5⟩ := I0.out.below ba
  obtain ⟨⟨b0, b1, b2⟩, b3, b4, b5⟩ := I1.out.below ba
  have HB := Lib.hid (chain hb0.out ba)
  clear ba
  have n1 : ¬ (w.heap.size = w.heap.size + 1) := by omega
  have n2 : ¬ (w.heap.size + 1 = w.heap.size) := by omega
  have HZ1 := Lib.hid (((HB.out.setCell (p := ⟨w.heap.size, 0, none⟩) (by simp) (.int .i64 0)).setCell (p := ⟨w.heap.size, 1, none⟩) (by simp) (.int .i64 0)).setCell (p := ⟨w.heap.size, 2, none⟩) (by simp) (.int .i64 0))
  have HZ := Lib.hid (((HZ1.out.setCell (p := ⟨w.heap.size + 1, 0, none⟩) (by simp) (.int .i64 0)).setCell (p := ⟨w.heap.size + 1, 1, none⟩) (by simp) (.int .i64 0)).setCell (p := ⟨w.heap.size + 1, 2, none⟩) (by simp) (.int .i64 0))
  go_wp2
  exact bodyPost_ret (v := .tuple #[vv 0 0 0, vv 0 0 0, .int .i64 2]) (by simp [results, Try.results35, go_sem, a0, a1, a2, b0, b1, b2, n1, n2]) rfl ⟨rfl, HZ.out⟩

set_option maxRecDepth 100000 in
set_option maxHeartbeats 4000000 in
theorem Box_none (v : Value) (w : World) (hl : Rv w v []) :
    Calls Try.prog 35 #[v] w (Ret (.tuple #[vv 0 0 0, vv 0 0 0, .int .i64 9]) w) := by
  have HA := Lib.hid (fun w h => allValid_any [] v w h)
  rw [show inL 16777216 [] = true from rfl] at HA
  have hl2 := hl
  obtain ⟨p, b, off, cap, rfl, q2, q3, q4, q5⟩ := hl
  have HL := Lib.hid hl2
  clear hl2 q2 q3 q4 q5
  go_enter Try.func35, Try.ntmps35
  go_wp2_with fail
  obtain ⟨w0, hw0⟩ : ∃ w0 : World, w0 = (w.alloc (.cells #[.int .i64 0, .int .i64 0, .int .i64 0] 23)).alloc (.cells #[.int .i64 0, .int .i64 0, .int .i64 0] 23) := ⟨_, rfl⟩
  have hb0 : Hid (Below w.heap.size w w0) := by rw [hw0]; exact (below_one w _).alloc (by simp) _
  have I0 : Hid (VF w0 w.heap.size (0, 0, 0)) := by rw [hw0]; exact ⟨⟨by simp [go_sem], by simp [go_sem], by simp [go_sem]⟩, by simp [go_sem], by simp [go_sem], by simp [go_sem]⟩
  have I1 : Hid (VF w0 (w.heap.size + 1) (0, 0, 0)) := by rw [hw0]; exact ⟨⟨by simp [go_sem], by simp [go_sem], by simp [go_sem]⟩, by simp [go_sem], by simp [go_sem], by simp [go_sem]⟩
  rw [← hw0]
  clear hw0
  refine (HA.out _ (HL.out.below hb0.out)).mono ?_
  rintro e wa ⟨rfl, ba⟩
  obtain ⟨⟨a0, a1, a2⟩, a3, a4, a5⟩ := I0.out.below ba
  obtain ⟨⟨b0, b1, b2⟩, b3, b4, b5⟩ := I1.out.below ba
  have HB := Lib.hid (chain hb0.out ba)
  clear ba
  have n1 : ¬ (w.heap.size = w.heap.size + 1) := by omega
  have n2 : ¬ (w.heap.size + 1 = w.heap.size) := by omega
  have HZ1 := Lib.hid (((HB.out.setCell (p := ⟨w.heap.size, 0, none⟩) (by simp) (.int .i64 0)).setCell (p := ⟨w.heap.size, 1, none⟩) (by simp) (.int .i64 0)).setCell (p := ⟨w.heap.size, 2, none⟩) (by simp) (.int .i64 0))
  have HZ := Lib.hid (((HZ1.out.setCell (p := ⟨w.heap.size + 1, 0, none⟩) (by simp) (.int .i64 0)).setCell (p := ⟨w.heap.size + 1, 1, none⟩) (by simp) (.int .i64 0)).setCell (p := ⟨w.heap.size + 1, 2, none⟩) (by simp) (.int .i64 0))
  go_wp2
  exact bodyPost_ret (v := .tuple #[vv 0 0 0, vv 0 0 0, .int .i64 9]) (by simp [results, Try.results35, go_sem, a0, a1, a2, b0, b1, b2, n1, n2]) rfl ⟨rfl, HZ.out⟩

end Go.Proofs.Ytdicbeaocedkmaa
