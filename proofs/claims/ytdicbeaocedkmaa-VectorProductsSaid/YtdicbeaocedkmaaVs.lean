/- Vectors that are compared. -/
import Derived.Test.YtdicbeaocedkmaaVa
import Derived.Laws.StructEq
set_option linter.all false
namespace Go.Proofs.Ytdicbeaocedkmaa
open Go.RowKit

/-- Two vectors are the same. -/
def vE (x1 x2 x3 y1 y2 y3 : Int) : Bool := decide (x1 = y1 ∧ x2 = y2 ∧ x3 = y3)
theorem vE_iff {x1 x2 x3 y1 y2 y3 : Int} : vE x1 x2 x3 y1 y2 y3 = true ↔ x1 = y1 ∧ x2 = y2 ∧ x3 = y3 := by unfold vE; rw [decide_eq_true_iff]
theorem vE_refl (x y z : Int) : vE x y z x y z = true := vE_iff.2 ⟨rfl, rfl, rfl⟩
theorem eq_vec (w : World) (x1 x2 x3 y1 y2 y3 : Int) : (binOp .eql 23 (vv x1 x2 x3) (vv y1 y2 y3)).run Try.prog w = .ok (.bool (vE x1 x2 x3 y1 y2 y3)) w := by
  have hu := Try.underlying23
  have hs : Try.prog.stoodInHeld 23 = false := by kernel_rfl
  rw [run_eql_struct, show (10000 : Nat) = 9999 + 1 from rfl, run_equalIn_agg w 9999 _ _ _ (by simp only [Program.fieldsOf, hu]) hs]
  simp only [Program.fieldsOf, hu]
  unfold vE
  by_cases h1 : x1 = y1 <;> by_cases h2 : x2 = y2 <;> by_cases h3 : x3 = y3 <;> simp [Op.eqFields, go_sem, part, Try.underlying3, h1, h2, h3]
theorem neq_vec (w : World) (x1 x2 x3 y1 y2 y3 : Int) : (binOp .neq 23 (vv x1 x2 x3) (vv y1 y2 y3)).run Try.prog w = .ok (.bool (!vE x1 x2 x3 y1 y2 y3)) w := by
  have hu := Try.underlying23
  have hs : Try.prog.stoodInHeld 23 = false := by kernel_rfl
  rw [run_neq_struct, show (10000 : Nat) = 9999 + 1 from rfl, run_equalIn_agg w 9999 _ _ _ (by simp only [Program.fieldsOf, hu]) hs]
  simp only [Program.fieldsOf, hu]
  unfold vE
  by_cases h1 : x1 = y1 <;> by_cases h2 : x2 = y2 <;> by_cases h3 : x3 = y3 <;> simp [Op.eqFields, go_sem, part, Try.underlying3, h1, h2, h3]
end Go.Proofs.Ytdicbeaocedkmaa
