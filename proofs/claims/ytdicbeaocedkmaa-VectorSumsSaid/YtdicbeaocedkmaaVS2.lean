/- VectorSums gives true for all vectors and numbers (P6.2), and leaves its arguments as they were. No condition. -/
import Derived.Test.YtdicbeaocedkmaaRows
import Derived.Test.YtdicbeaocedkmaaLwo
import Derived.Test.YtdicbeaocedkmaaLwd
set_option linter.all false
namespace Go.Proofs.Ytdicbeaocedkmaa
open Go.ChangeShapes Go.WideShapes Go.ChangeAt Go.RowKit Go.Joins

theorem vsums_any (x1 x2 x3 y1 y2 y3 by_ : Int) (w : World) : Calls Try.prog 4 #[vv x1 x2 x3, vv y1 y2 y3, .int .i64 by_] w (Ret (.bool true) w) := by
  have V0 := fun w => rValid_any x1 x2 x3 w
  have V1 := fun w => rValid_any y1 y2 y3 w
  by_cases hx : inV 16777216 x1 x2 x3 = true
  · rw [hx] at V0
    by_cases hy : inV 16777216 y1 y2 y3 = true
    · rw [hy] at V1
      exact sums_ok _ _ _ _ _ _ _ _ _ _ _ _ _ _ _ _ _ _ _ _ _ _ _ _ _ (fun w => Add_any hx hy w) (fun w => Sub_any hx hy w) (fun w => Scale_any hx by_ w) V0 (fun w => rScale_any hx by_ w) V1
        (fun w => rAdd_ok (by omega) (bv_of hx) (bv_of hy) w) (fun w => out_any _ _ _ w) (fun w => rSub_ok (by omega) (bv_of hx) (bv_of hy) w) (fun w => out_any _ _ _ w) w
    · rw [Bool.not_eq_true] at hy
      rw [hy] at V1
      exact sums_b _ _ _ _ _ _ _ _ _ _ _ (fun w => Add_bad _ _ _ _ _ _ (by simp [inL, hy]) w) (fun w => Sub_bad _ _ _ _ _ _ (by simp [inL, hy]) w) (fun w => Scale_any hx by_ w) V0 (fun w => rScale_any hx by_ w) V1 w
  · rw [Bool.not_eq_true] at hx
    rw [hx] at V0
    exact sums_a _ _ _ _ _ _ _ (fun w => Add_bad _ _ _ _ _ _ (by simp [inL, hx]) w) (fun w => Sub_bad _ _ _ _ _ _ (by simp [inL, hx]) w) (fun w => Scale_bad _ _ _ _ hx w) V0 w

set_option maxRecDepth 100000 in
theorem vsums_lifted (os : Os) (started : os.Started) (H : Type) (enc : TypeId × Value → H) :
    ReturnsInHanded {} Try.checked os 4 .any (Rows.vectorSumsSpec.pre6 enc Try.prog Try.f4 Rows.vectorSumsRow.domain false) (Rows.vectorSumsSpec.post enc Try.prog Try.f4 false true false false) := by
  refine returnsInHanded_of_change (C := Try.checked) Try.own started (by kernel_rfl) Try.func4
    (ChangeSpec.witness6 (enc := enc) (C := Try.checked) false ⟨#[], #[.agg #[.int .i64 0, .int .i64 0, .int .i64 0], .agg #[.int .i64 0, .int .i64 0, .int .i64 0], .int .i64 0], []⟩ 8 (by kernel_rfl) (by kernel_rfl) (by kernel_rfl) (by kernel_rfl)) ?_
  intro W base args ds gs before hval0 hW hcnd _
  have hval : ∀ (j : Nat) t v, Try.f4.params[j]? = some t → args[j]? = some v → Value.okWide Try.prog W .any base t v := hval0
  have hW' := hW
  obtain ⟨p, q, hA0, hV, rfl, hfz, hnd⟩ := hW
  have hA : DataW.TrodAll enc Try.prog W 0 (fun _ => true) true Try.f4.params.toList args.toList ds p := hA0
  rw [Try.params4] at hA hval
  obtain ⟨v0, v1, v2, d0, d1, d2, p0, p1, p2, rfl, rfl, rfl, h0, h1, h2⟩ := trodAll_three hA
  obtain ⟨rfl, rfl⟩ := trodVars_none hV
  obtain ⟨x1, x2, x3, rfl, rfl, rfl, i0⟩ := open_vec (hval 0 23 v0 rfl rfl) h0
  obtain ⟨y1, y2, y3, rfl, rfl, rfl, i1⟩ := open_vec (hval 1 23 v1 rfl rfl) h1
  obtain ⟨m, rfl, rfl, rfl, i2⟩ := open_int Try.underlying3 (hval 2 3 v2 rfl rfl) h2
  clear hA0 hval0
  refine (vsums_any x1 x2 x3 y1 y2 y3 m W).mono fun e W' ⟨he, bel⟩ => ?_
  subst he
  exact ⟨_, rfl, _, _, _, [], _, [], hW', trodAll_mk1 (shut_bool Try.underlying4 _), trodAll_mk3 (shut_vec i0) (shut_vec i1) (shut_int Try.underlying3 i2), rfl, bel.frame _, fun h => by cases h⟩

/-- The statement. -/
theorem vsums_holds : Rows.VectorSumsSaid :=
  OpenClaim.holds_of_wide 4 Try.f4 rfl rfl rfl rfl rfl rfl rfl ⟨rfl, rfl, rfl, rfl, rfl⟩ rfl rfl rfl rfl rfl (by kernel_rfl) Try.func4 (by kernel_rfl)
    (of_decide_eq_true (by kernel_rfl)) (by unfold Func.isWrapper; first | (rw [if_pos (by decide +kernel)]; kernel_rfl) | (rw [if_neg (by decide +kernel)]; exact ⟨rfl, rfl⟩))
    (fun os started H enc _ => vsums_lifted os started H enc)
#print axioms vsums_holds
end Go.Proofs.Ytdicbeaocedkmaa
