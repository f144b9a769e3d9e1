/- VectorTurn gives true for all vectors (P6.5), and leaves its arguments as they were. No condition. -/
import Derived.Test.YtdicbeaocedkmaaRows
import Derived.Test.YtdicbeaocedkmaaLwo
import Derived.Test.YtdicbeaocedkmaaLwb
set_option linter.all false
namespace Go.Proofs.Ytdicbeaocedkmaa
open Go.ChangeShapes Go.WideShapes Go.ChangeAt Go.RowKit Go.Joins

theorem vturn_any (x1 x2 x3 y1 y2 y3 z1 z2 z3 : Int) (w : World) : Calls Try.prog 7 #[vv x1 x2 x3, vv y1 y2 y3, vv z1 z2 z3] w (Ret (.bool true) w) := by
  have V0 := fun w => rValid_any x1 x2 x3 w
  have V1 := fun w => rValid_any y1 y2 y3 w
  have V2 := fun w => rValid_any z1 z2 z3 w
  by_cases hx : inV 16777216 x1 x2 x3 = true
  · by_cases hy : inV 16777216 y1 y2 y3 = true
    · by_cases hz : inV 16777216 z1 z2 z3 = true
      · rw [hx] at V0; rw [hy] at V1; rw [hz] at V2
        exact turn_ok _ _ _ _ _ _ _ _ _ _ (fun w => Turn_any hx hy hz w) V0 V1 V2 (fun w => rTurn_any hx hy hz w) w
      · rw [Bool.not_eq_true] at hz
        rw [hx] at V0; rw [hy] at V1; rw [hz] at V2
        exact turn_badc _ _ _ _ _ _ _ _ _ (fun w => Turn_bad _ _ _ _ _ _ _ _ _ (by simp [inL, hz]) w) V0 V1 V2 w
    · rw [Bool.not_eq_true] at hy
      rw [hx] at V0; rw [hy] at V1
      exact turn_badb _ _ _ _ _ _ _ _ _ (fun w => Turn_bad _ _ _ _ _ _ _ _ _ (by simp [inL, hy]) w) V0 V1 w
  · rw [Bool.not_eq_true] at hx
    rw [hx] at V0
    exact turn_bada _ _ _ _ _ _ _ _ _ (fun w => Turn_bad _ _ _ _ _ _ _ _ _ (by simp [inL, hx]) w) V0 w

set_option maxRecDepth 100000 in
theorem vturn_lifted (os : Os) (started : os.Started) (H : Type) (enc : TypeId × Value → H) :
    ReturnsInHanded {} Try.checked os 7 .any (Rows.vectorTurnSpec.pre6 enc Try.prog Try.f7 Rows.vectorTurnRow.domain false) (Rows.vectorTurnSpec.post enc Try.prog Try.f7 false true false false) := by
  refine returnsInHanded_of_change (C := Try.checked) Try.own started (by kernel_rfl) Try.func7
    (ChangeSpec.witness6 (enc := enc) (C := Try.checked) false ⟨#[], #[.agg #[.int .i64 0, .int .i64 0, .int .i64 0], .agg #[.int .i64 0, .int .i64 0, .int .i64 0], .agg #[.int .i64 0, .int .i64 0, .int .i64 0]], []⟩ 8 (by kernel_rfl) (by kernel_rfl) (by kernel_rfl) (by kernel_rfl)) ?_
  intro W base args ds gs before hval0 hW hcnd _
  have hval : ∀ (j : Nat) t v, Try.f7.params[j]? = some t → args[j]? = some v → Value.okWide Try.prog W .any base t v := hval0
  have hW' := hW
  obtain ⟨p, q, hA0, hV, rfl, hfz, hnd⟩ := hW
  have hA : DataW.TrodAll enc Try.prog W 0 (fun _ => true) true Try.f7.params.toList args.toList ds p := hA0
  rw [Try.params7] at hA hval
  obtain ⟨v0, v1, v2, d0, d1, d2, p0, p1, p2, rfl, rfl, rfl, h0, h1, h2⟩ := trodAll_three hA
  obtain ⟨rfl, rfl⟩ := trodVars_none hV
  obtain ⟨x1, x2, x3, rfl, rfl, rfl, i0⟩ := open_vec (hval 0 23 v0 rfl rfl) h0
  obtain ⟨y1, y2, y3, rfl, rfl, rfl, i1⟩ := open_vec (hval 1 23 v1 rfl rfl) h1
  obtain ⟨z1, z2, z3, rfl, rfl, rfl, i2⟩ := open_vec (hval 2 23 v2 rfl rfl) h2
  clear hA0 hval0
  refine (vturn_any x1 x2 x3 y1 y2 y3 z1 z2 z3 W).mono fun e W' ⟨he, bel⟩ => ?_
  subst he
  exact ⟨_, rfl, _, _, _, [], _, [], hW', trodAll_mk1 (shut_bool Try.underlying4 _), trodAll_mk3 (shut_vec i0) (shut_vec i1) (shut_vec i2), rfl, bel.frame _, fun h => by cases h⟩

/-- The statement. -/
theorem vturn_holds : Rows.VectorTurnSaid :=
  OpenClaim.holds_of_wide 7 Try.f7 rfl rfl rfl rfl rfl rfl rfl ⟨rfl, rfl, rfl, rfl, rfl⟩ rfl rfl rfl rfl rfl (by kernel_rfl) Try.func7 (by kernel_rfl)
    (of_decide_eq_true (by kernel_rfl)) (by unfold Func.isWrapper; first | (rw [if_pos (by decide +kernel)]; kernel_rfl) | (rw [if_neg (by decide +kernel)]; exact ⟨rfl, rfl⟩))
    (fun os started H enc _ => vturn_lifted os started H enc)
#print axioms vturn_holds
end Go.Proofs.Ytdicbeaocedkmaa
