/- VectorValid gives true for all vectors (P6.1), and leaves its arguments as they were. No condition. -/
import Derived.Test.YtdicbeaocedkmaaRows
import Derived.Test.YtdicbeaocedkmaaLwo
import Derived.Test.YtdicbeaocedkmaaLwa
set_option linter.all false
namespace Go.Proofs.Ytdicbeaocedkmaa
open Go.ChangeShapes Go.WideShapes Go.ChangeAt Go.RowKit Go.Joins

theorem vvalid_any (x1 x2 x3 y1 y2 y3 : Int) (w : World) : Calls Try.prog 3 #[vv x1 x2 x3, vv y1 y2 y3] w (Ret (.bool true) w) :=
  valid_way _ _ _ _ _ _ _ _ _ _ (fun w => Valid_any x1 x2 x3 w) (fun w => rValid_any x1 x2 x3 w) (fun w => Point_any x1 x2 x3 w) (fun w => rPoint_any x1 x2 x3 w) (fun w => Compare_any w) (fun w => rCompare_any w) (fun w => Compare_any w) (fun w => rCompare_any w)
    (fun w => by have := Compare_any (x1 := x1) (x2 := x2) (x3 := x3) (y1 := x1) (y2 := x2) (y3 := x3) w; rw [show vC x1 x2 x3 x1 x2 x3 = 0 by unfold vC; rw [cmpI_zero.2 rfl, cmpI_zero.2 rfl, cmpI_zero.2 rfl]; rfl] at this; exact this) w

set_option maxRecDepth 100000 in
theorem vvalid_lifted (os : Os) (started : os.Started) (H : Type) (enc : TypeId × Value → H) :
    ReturnsInHanded {} Try.checked os 3 .any (Rows.vectorValidSpec.pre6 enc Try.prog Try.f3 Rows.vectorValidRow.domain false) (Rows.vectorValidSpec.post enc Try.prog Try.f3 false true false false) := by
  refine returnsInHanded_of_change (C := Try.checked) Try.own started (by kernel_rfl) Try.func3
    (ChangeSpec.witness6 (enc := enc) (C := Try.checked) false ⟨#[], #[.agg #[.int .i64 0, .int .i64 0, .int .i64 0], .agg #[.int .i64 0, .int .i64 0, .int .i64 0]], []⟩ 8 (by kernel_rfl) (by kernel_rfl) (by kernel_rfl) (by kernel_rfl)) ?_
  intro W base args ds gs before hval0 hW hcnd _
  have hval : ∀ (j : Nat) t v, Try.f3.params[j]? = some t → args[j]? = some v → Value.okWide Try.prog W .any base t v := hval0
  have hW' := hW
  obtain ⟨p, q, hA0, hV, rfl, hfz, hnd⟩ := hW
  have hA : DataW.TrodAll enc Try.prog W 0 (fun _ => true) true Try.f3.params.toList args.toList ds p := hA0
  rw [Try.params3] at hA hval
  obtain ⟨v0, v1, d0, d1, p0, p1, rfl, rfl, rfl, h0, h1⟩ := trodAll_two hA
  obtain ⟨rfl, rfl⟩ := trodVars_none hV
  obtain ⟨x1, x2, x3, rfl, rfl, rfl, i0⟩ := open_vec (hval 0 23 v0 rfl rfl) h0
  obtain ⟨y1, y2, y3, rfl, rfl, rfl, i1⟩ := open_vec (hval 1 23 v1 rfl rfl) h1
  clear hA0 hval0
  refine (vvalid_any x1 x2 x3 y1 y2 y3 W).mono fun e W' ⟨he, bel⟩ => ?_
  subst he
  exact ⟨_, rfl, _, _, _, [], _, [], hW', trodAll_mk1 (shut_bool Try.underlying4 _), trodAll_mk2 (shut_vec i0) (shut_vec i1), rfl, bel.frame _, fun h => by cases h⟩

/-- The statement. -/
theorem vvalid_holds : Rows.VectorValidSaid :=
  OpenClaim.holds_of_wide 3 Try.f3 rfl rfl rfl rfl rfl rfl rfl ⟨rfl, rfl, rfl, rfl, rfl⟩ rfl rfl rfl rfl rfl (by kernel_rfl) Try.func3 (by kernel_rfl)
    (of_decide_eq_true (by kernel_rfl)) (by unfold Func.isWrapper; first | (rw [if_pos (by decide +kernel)]; kernel_rfl) | (rw [if_neg (by decide +kernel)]; exact ⟨rfl, rfl⟩))
    (fun os started H enc _ => vvalid_lifted os started H enc)
#print axioms vvalid_holds
end Go.Proofs.Ytdicbeaocedkmaa
