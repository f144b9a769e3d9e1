/- VectorProducts gives true for all vectors (P6.3), and leaves its arguments as they were. No condition. -/
import Derived.Test.YtdicbeaocedkmaaRows
import Derived.Test.YtdicbeaocedkmaaLwo
import Derived.Test.YtdicbeaocedkmaaLwe
set_option linter.all false
namespace Go.Proofs.Ytdicbeaocedkmaa
open Go.ChangeShapes Go.WideShapes Go.ChangeAt Go.RowKit Go.Joins

theorem vprods_any (x1 x2 x3 y1 y2 y3 : Int) (w : World) : Calls Try.prog 5 #[vv x1 x2 x3, vv y1 y2 y3] w (Ret (.bool true) w) := by
  have V0 := fun w => rValid_any x1 x2 x3 w
  have V1 := fun w => rValid_any y1 y2 y3 w
  by_cases hx : inV 16777216 x1 x2 x3 = true
  · rw [hx] at V0
    have D0 := fun w => rDot_ok (M := 16777216) (by omega) (bv_of hx) (bv_of hx) w
    by_cases hy : inV 16777216 y1 y2 y3 = true
    · rw [hy] at V1
      exact prod_ok _ _ _ _ _ _ _ _ _ _ _ _ (fun w => Dot_any hx hy w) (fun w => Cross_any hx hy w) (fun w => Length2_any hx w) (fun w => Distance2_any hx hy w) V0 V1 D0
        (fun w => rDot_ok (by omega) (bv_of hx) (bv_of hy) w) (fun w => rCross_ok (by omega) (by omega) (bv_of hx) (bv_of hy) w) (fun w => rDistance2_any hx hy w) w
    · rw [Bool.not_eq_true] at hy
      rw [hy] at V1
      exact prod_b _ _ _ _ _ _ _ (fun w => Dot_bad _ _ _ _ _ _ (by simp [inL, hy]) w) (fun w => Cross_bad _ _ _ _ _ _ (by simp [inL, hy]) w) (fun w => Length2_any hx w) (fun w => Distance2_bad _ _ _ _ _ _ (by simp [inL, hy]) w) V0 V1 D0 w
  · rw [Bool.not_eq_true] at hx
    rw [hx] at V0
    exact prod_a _ _ _ _ _ _ (fun w => Dot_bad _ _ _ _ _ _ (by simp [inL, hx]) w) (fun w => Cross_bad _ _ _ _ _ _ (by simp [inL, hx]) w) (fun w => Length2_bad hx w) (fun w => Distance2_bad _ _ _ _ _ _ (by simp [inL, hx]) w) V0 w

set_option maxRecDepth 100000 in
theorem vprods_lifted (os : Os) (started : os.Started) (H : Type) (enc : TypeId × Value → H) :
    ReturnsInHanded {} Try.checked os 5 .any (Rows.vectorProductsSpec.pre6 enc Try.prog Try.f5 Rows.vectorProductsRow.domain false) (Rows.vectorProductsSpec.post enc Try.prog Try.f5 false true false false) := by
  refine returnsInHanded_of_change (C := Try.checked) Try.own started (by kernel_rfl) Try.func5
    (ChangeSpec.witness6 (enc := enc) (C := Try.checked) false ⟨#[], #[.agg #[.int .i64 0, .int .i64 0, .int .i64 0], .agg #[.int .i64 0, .int .i64 0, .int .i64 0]], []⟩ 8 (by kernel_rfl) (by kernel_rfl) (by kernel_rfl) (by kernel_rfl)) ?_
  intro W base args ds gs before hval0 hW hcnd _
  have hval : ∀ (j : Nat) t v, Try.f5.params[j]? = some t → args[j]? = some v → Value.okWide Try.prog W .any base t v := hval0
  have hW' := hW
  obtain ⟨p, q, hA0, hV, rfl, hfz, hnd⟩ := hW
  have hA : DataW.TrodAll enc Try.prog W 0 (fun _ => true) true Try.f5.params.toList args.toList ds p := hA0
  rw [Try.params5] at hA hval
  obtain ⟨v0, v1, d0, d1, p0, p1, rfl, rfl, rfl, h0, h1⟩ := trodAll_two hA
  obtain ⟨rfl, rfl⟩ := trodVars_none hV
  obtain ⟨x1, x2, x3, rfl, rfl, rfl, i0⟩ := open_vec (hval 0 23 v0 rfl rfl) h0
  obtain ⟨y1, y2, y3, rfl, rfl, rfl, i1⟩ := open_vec (hval 1 23 v1 rfl rfl) h1
  clear hA0 hval0
  refine (vprods_any x1 x2 x3 y1 y2 y3 W).mono fun e W' ⟨he, bel⟩ => ?_
  subst he
  exact ⟨_, rfl, _, _, _, [], _, [], hW', trodAll_mk1 (shut_bool Try.underlying4 _), trodAll_mk2 (shut_vec i0) (shut_vec i1), rfl, bel.frame _, fun h => by cases h⟩

/-- The statement. -/
theorem vprods_holds : Rows.VectorProductsSaid :=
  OpenClaim.holds_of_wide 5 Try.f5 rfl rfl rfl rfl rfl rfl rfl ⟨rfl, rfl, rfl, rfl, rfl⟩ rfl rfl rfl rfl rfl (by kernel_rfl) Try.func5 (by kernel_rfl)
    (of_decide_eq_true (by kernel_rfl)) (by unfold Func.isWrapper; first | (rw [if_pos (by decide +kernel)]; kernel_rfl) | (rw [if_neg (by decide +kernel)]; exact ⟨rfl, rfl⟩))
    (fun os started H enc _ => vprods_lifted os started H enc)
#print axioms vprods_holds
end Go.Proofs.Ytdicbeaocedkmaa
