/- VectorBetween gives true for all vectors and numbers (P6.4), and leaves its arguments as they were. No condition. -/
import Derived.Test.YtdicbeaocedkmaaRows
import Derived.Test.YtdicbeaocedkmaaLwo
import Derived.Test.YtdicbeaocedkmaaLwc
set_option linter.all false
namespace Go.Proofs.Ytdicbeaocedkmaa
open Go.ChangeShapes Go.WideShapes Go.ChangeAt Go.RowKit Go.Joins

theorem vbetween_any (x1 x2 x3 y1 y2 y3 num den : Int) (w : World) : Calls Try.prog 6 #[vv x1 x2 x3, vv y1 y2 y3, .int .i64 num, .int .i64 den] w (Ret (.bool true) w) := by
  have V0 := fun w => rValid_any x1 x2 x3 w
  have V1 := fun w => rValid_any y1 y2 y3 w
  by_cases hx : inV 16777216 x1 x2 x3 = true
  · rw [hx] at V0
    by_cases hy : inV 16777216 y1 y2 y3 = true
    · rw [hy] at V1
      by_cases h1 : den < 1
      · exact between_badd0 _ _ _ _ _ _ _ _ h1 (fun w => Between_bad (.inr (.inl h1)) w) V0 V1 w
      by_cases h2 : 4294967296 < den
      · exact between_badd1 _ _ _ _ _ _ _ _ h1 h2 (fun w => Between_bad (.inr (.inr (.inl h2))) w) V0 V1 w
      by_cases h3 : num < 0
      · exact between_badn0 _ _ _ _ _ _ _ _ h1 h2 h3 (fun w => Between_bad (.inr (.inr (.inr (.inl h3)))) w) V0 V1 w
      by_cases h4 : den < num
      · exact between_badn1 _ _ _ _ _ _ _ _ h1 h2 h3 h4 (fun w => Between_bad (.inr (.inr (.inr (.inr h4)))) w) V0 V1 w
      exact between_ok _ _ _ _ _ _ _ _ _ _ _ h1 h2 h3 h4 (fun w => Between_any hx hy (by omega) (by omega) w) V0 V1 (fun w => rBetween_any hx hy (by omega) (by omega) w) w
    · rw [Bool.not_eq_true] at hy
      rw [hy] at V1
      exact between_badb _ _ _ _ _ _ _ _ (fun w => Between_bad (.inl (by simp [inL, hy])) w) V0 V1 w
  · rw [Bool.not_eq_true] at hx
    rw [hx] at V0
    exact between_bada _ _ _ _ _ _ _ _ (fun w => Between_bad (.inl (by simp [inL, hx])) w) V0 w

set_option maxRecDepth 100000 in
theorem vbetween_lifted (os : Os) (started : os.Started) (H : Type) (enc : TypeId × Value → H) :
    ReturnsInHanded {} Try.checked os 6 .any (Rows.vectorBetweenSpec.pre6 enc Try.prog Try.f6 Rows.vectorBetweenRow.domain false) (Rows.vectorBetweenSpec.post enc Try.prog Try.f6 false true false false) := by
  refine returnsInHanded_of_change (C := Try.checked) Try.own started (by kernel_rfl) Try.func6
    (ChangeSpec.witness6 (enc := enc) (C := Try.checked) false ⟨#[], #[.agg #[.int .i64 0, .int .i64 0, .int .i64 0], .agg #[.int .i64 0, .int .i64 0, .int .i64 0], .int .i64 0, .int .i64 0], []⟩ 8 (by kernel_rfl) (by kernel_rfl) (by kernel_rfl) (by kernel_rfl)) ?_
  intro W base args ds gs before hval0 hW hcnd _
  have hval : ∀ (j : Nat) t v, Try.f6.params[j]? = some t → args[j]? = some v → Value.okWide Try.prog W .any base t v := hval0
  have hW' := hW
  obtain ⟨p, q, hA0, hV, rfl, hfz, hnd⟩ := hW
  have hA : DataW.TrodAll enc Try.prog W 0 (fun _ => true) true Try.f6.params.toList args.toList ds p := hA0
  rw [Try.params6] at hA hval
  obtain ⟨v0, v1, v2, v3, d0, d1, d2, d3, p0, p1, p2, p3, rfl, rfl, rfl, h0, h1, h2, h3⟩ := trodAll_four hA
  obtain ⟨rfl, rfl⟩ := trodVars_none hV
  obtain ⟨x1, x2, x3, rfl, rfl, rfl, i0⟩ := open_vec (hval 0 23 v0 rfl rfl) h0
  obtain ⟨y1, y2, y3, rfl, rfl, rfl, i1⟩ := open_vec (hval 1 23 v1 rfl rfl) h1
  obtain ⟨m, rfl, rfl, rfl, i2⟩ := open_int Try.underlying3 (hval 2 3 v2 rfl rfl) h2
  obtain ⟨k, rfl, rfl, rfl, i3⟩ := open_int Try.underlying3 (hval 3 3 v3 rfl rfl) h3
  clear hA0 hval0
  refine (vbetween_any x1 x2 x3 y1 y2 y3 m k W).mono fun e W' ⟨he, bel⟩ => ?_
  subst he
  exact ⟨_, rfl, _, _, _, [], _, [], hW', trodAll_mk1 (shut_bool Try.underlying4 _), trodAll_mk4 (shut_vec i0) (shut_vec i1) (shut_int Try.underlying3 i2) (shut_int Try.underlying3 i3), rfl, bel.frame _, fun h => by cases h⟩

/-- The statement. -/
theorem vbetween_holds : Rows.VectorBetweenSaid :=
  OpenClaim.holds_of_wide 6 Try.f6 rfl rfl rfl rfl rfl rfl rfl ⟨rfl, rfl, rfl, rfl, rfl⟩ rfl rfl rfl rfl rfl (by kernel_rfl) Try.func6 (by kernel_rfl)
    (of_decide_eq_true (by kernel_rfl)) (by unfold Func.isWrapper; first | (rw [if_pos (by decide +kernel)]; kernel_rfl) | (rw [if_neg (by decide +kernel)]; exact ⟨rfl, rfl⟩))
    (fun os started H enc _ => vbetween_lifted os started H enc)
#print axioms vbetween_holds
end Go.Proofs.Ytdicbeaocedkmaa
