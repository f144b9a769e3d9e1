/- VectorHolds: the walk over what its calls give. -/
import Derived.Test.YtdicbeaocedkmaaVz
set_option linter.all false
namespace Go.Proofs.Ytdicbeaocedkmaa
open Go.RowKit

/-- Three vectors in a row. -/
def S9 (w : World) (g : Nat) (x1 x2 x3 y1 y2 y3 z1 z2 z3 : Int) : Prop := w.cell? ⟨g, 0, none⟩ = some (.int .i64 x1) ∧ w.cell? ⟨g, 1, none⟩ = some (.int .i64 x2) ∧ w.cell? ⟨g, 2, none⟩ = some (.int .i64 x3) ∧ w.cell? ⟨g, 3, none⟩ = some (.int .i64 y1) ∧ w.cell? ⟨g, 4, none⟩ = some (.int .i64 y2) ∧ w.cell? ⟨g, 5, none⟩ = some (.int .i64 y3) ∧ w.cell? ⟨g, 6, none⟩ = some (.int .i64 z1) ∧ w.cell? ⟨g, 7, none⟩ = some (.int .i64 z2) ∧ w.cell? ⟨g, 8, none⟩ = some (.int .i64 z3)
theorem S9.below {w w' : World} {g : Nat} {x1 x2 x3 y1 y2 y3 z1 z2 z3 : Int} (h : S9 w g x1 x2 x3 y1 y2 y3 z1 z2 z3) (hb : Below w.heap.size w w') : S9 w' g x1 x2 x3 y1 y2 y3 z1 z2 z3 := by
  obtain ⟨h0, h1, h2, h3, h4, h5, h6, h7, h8⟩ := h
  exact ⟨keep1 hb h0, keep1 hb h1, keep1 hb h2, keep1 hb h3, keep1 hb h4, keep1 hb h5, keep1 hb h6, keep1 hb h7, keep1 hb h8⟩

set_option maxRecDepth 100000 in
set_option maxHeartbeats 4000000 in
theorem part_l (x q y : Int) (h1 : x ≤ q) (h2 : q ≤ y) (w : World) : Calls Try.prog 37 #[.int .i64 x, .int .i64 q, .int .i64 y] w (Ret (.bool true) w) := by
  go_enter Try.func37, Try.ntmps37
  go_wp2
  go_ret
  exact ⟨rfl, Below.refl _ _⟩

set_option maxRecDepth 100000 in
set_option maxHeartbeats 4000000 in
theorem part_r (x q y : Int) (h0 : ¬ (x ≤ q ∧ q ≤ y)) (h1 : y ≤ q) (h2 : q ≤ x) (w : World) : Calls Try.prog 37 #[.int .i64 x, .int .i64 q, .int .i64 y] w (Ret (.bool true) w) := by
  by_cases a : x ≤ q
  · have b : ¬ q ≤ y := fun e => h0 ⟨a, e⟩
    go_enter Try.func37, Try.ntmps37
    go_wp2
    go_ret
    exact ⟨rfl, Below.refl _ _⟩
  · go_enter Try.func37, Try.ntmps37
    go_wp2
    go_ret
    exact ⟨rfl, Below.refl _ _⟩
theorem part_any (x q y : Int) (h : (x ≤ q ∧ q ≤ y) ∨ (y ≤ q ∧ q ≤ x)) (w : World) : Calls Try.prog 37 #[.int .i64 x, .int .i64 q, .int .i64 y] w (Ret (.bool true) w) := by
  by_cases c : x ≤ q ∧ q ≤ y
  · exact part_l x q y c.1 c.2 w
  · obtain ⟨h1, h2⟩ := h.resolve_left c
    exact part_r x q y c h1 h2 w
end Go.Proofs.Ytdicbeaocedkmaa
