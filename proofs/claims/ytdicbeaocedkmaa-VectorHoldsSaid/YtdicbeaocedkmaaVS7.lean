/- VectorHolds gives true for all vectors and numbers (P6.7), and leaves its arguments as they were. No condition. -/
import Derived.Test.YtdicbeaocedkmaaRows
import Derived.Test.YtdicbeaocedkmaaLwo
import Derived.Test.YtdicbeaocedkmaaLwg
import Derived.Test.YtdicbeaocedkmaaLwh
import Derived.Test.YtdicbeaocedkmaaLwi
set_option linter.all false
namespace Go.Proofs.Ytdicbeaocedkmaa
open Go.ChangeShapes Go.WideShapes Go.ChangeAt Go.RowKit Go.Joins

theorem in16 {x y z : Int} (l1 : ¬ x < -16384) (m1 : ¬ 16384 < x) (l2 : ¬ y < -16384) (m2 : ¬ 16384 < y) (l3 : ¬ z < -16384) (m3 : ¬ 16384 < z) : inV 16777216 x y z = true ∧ BV 16384 x y z :=
  ⟨inV_iff.2 ⟨by omega, by omega, by omega⟩, by omega, by omega, by omega⟩
theorem tz_swap (x1 x2 y1 y2 z1 z2 : Int) : tz y1 y2 x1 x2 z1 z2 = -tz x1 x2 y1 y2 z1 z2 := by unfold tz; grind
theorem cmpI_neg (a : Int) : cmpI (-a) 0 = -cmpI a 0 := by unfold cmpI; split <;> split <;> (try split) <;> (try split) <;> omega
theorem crx (x1 x2 x3 y1 y2 y3 : Int) : (x2 * y3 - x3 * y2) * x1 + (x3 * y1 - x1 * y3) * x2 + (x1 * y2 - x2 * y1) * x3 = 0 := by grind
theorem cry (x1 x2 x3 y1 y2 y3 : Int) : (x2 * y3 - x3 * y2) * y1 + (x3 * y1 - x1 * y3) * y2 + (x1 * y2 - x2 * y1) * y3 = 0 := by grind
theorem crl (x1 x2 x3 y1 y2 y3 : Int) : (x2 * y3 - x3 * y2) * (x2 * y3 - x3 * y2) + (x3 * y1 - x1 * y3) * (x3 * y1 - x1 * y3) + (x1 * y2 - x2 * y1) * (x1 * y2 - x2 * y1) + dt x1 x2 x3 y1 y2 y3 * dt x1 x2 x3 y1 y2 y3 = dt x1 x2 x3 x1 x2 x3 * dt y1 y2 y3 y1 y2 y3 := by unfold dt; grind
theorem vholds_any (x1 x2 x3 y1 y2 y3 z1 z2 z3 num den : Int) (w : World) : Calls Try.prog 9 #[vv x1 x2 x3, vv y1 y2 y3, vv z1 z2 z3, .int .i64 num, .int .i64 den] w (Ret (.bool true) w) := by
  by_cases l0 : x1 < -16384
  · exact holds_0lo _ _ _ _ _ _ _ _ _ _ _  l0 w
  by_cases m0 : 16384 < x1
  · exact holds_0hi _ _ _ _ _ _ _ _ _ _ _  l0 m0 w
  by_cases l1 : x2 < -16384
  · exact holds_1lo _ _ _ _ _ _ _ _ _ _ _ l0 m0 l1 w
  by_cases m1 : 16384 < x2
  · exact holds_1hi _ _ _ _ _ _ _ _ _ _ _ l0 m0 l1 m1 w
  by_cases l2 : x3 < -16384
  · exact holds_2lo _ _ _ _ _ _ _ _ _ _ _ l0 m0 l1 m1 l2 w
  by_cases m2 : 16384 < x3
  · exact holds_2hi _ _ _ _ _ _ _ _ _ _ _ l0 m0 l1 m1 l2 m2 w
  by_cases l3 : y1 < -16384
  · exact holds_3lo _ _ _ _ _ _ _ _ _ _ _ l0 m0 l1 m1 l2 m2 l3 w
  by_cases m3 : 16384 < y1
  · exact holds_3hi _ _ _ _ _ _ _ _ _ _ _ l0 m0 l1 m1 l2 m2 l3 m3 w
  by_cases l4 : y2 < -16384
  · exact holds_4lo _ _ _ _ _ _ _ _ _ _ _ l0 m0 l1 m1 l2 m2 l3 m3 l4 w
  by_cases m4 : 16384 < y2
  · exact holds_4hi _ _ _ _ _ _ _ _ _ _ _ l0 m0 l1 m1 l2 m2 l3 m3 l4 m4 w
  by_cases l5 : y3 < -16384
  · exact holds_5lo _ _ _ _ _ _ _ _ _ _ _ l0 m0 l1 m1 l2 m2 l3 m3 l4 m4 l5 w
  by_cases m5 : 16384 < y3
  · exact holds_5hi _ _ _ _ _ _ _ _ _ _ _ l0 m0 l1 m1 l2 m2 l3 m3 l4 m4 l5 m5 w
  by_cases l6 : z1 < -16384
  · exact holds_6lo _ _ _ _ _ _ _ _ _ _ _ l0 m0 l1 m1 l2 m2 l3 m3 l4 m4 l5 m5 l6 w
  by_cases m6 : 16384 < z1
  · exact holds_6hi _ _ _ _ _ _ _ _ _ _ _ l0 m0 l1 m1 l2 m2 l3 m3 l4 m4 l5 m5 l6 m6 w
  by_cases l7 : z2 < -16384
  · exact holds_7lo _ _ _ _ _ _ _ _ _ _ _ l0 m0 l1 m1 l2 m2 l3 m3 l4 m4 l5 m5 l6 m6 l7 w
  by_cases m7 : 16384 < z2
  · exact holds_7hi _ _ _ _ _ _ _ _ _ _ _ l0 m0 l1 m1 l2 m2 l3 m3 l4 m4 l5 m5 l6 m6 l7 m7 w
  by_cases l8 : z3 < -16384
  · exact holds_8lo _ _ _ _ _ _ _ _ _ _ _ l0 m0 l1 m1 l2 m2 l3 m3 l4 m4 l5 m5 l6 m6 l7 m7 l8 w
  by_cases m8 : 16384 < z3
  · exact holds_8hi _ _ _ _ _ _ _ _ _ _ _ l0 m0 l1 m1 l2 m2 l3 m3 l4 m4 l5 m5 l6 m6 l7 m7 l8 m8 w
  obtain ⟨hx, bx1, bx2, bx3⟩ := in16 l0 m0 l1 m1 l2 m2
  obtain ⟨hy, by1, by2, by3⟩ := in16 l3 m3 l4 m4 l5 m5
  obtain ⟨hz, bz1, bz2, bz3⟩ := in16 l6 m6 l7 m7 l8 m8
  have H1 := fun w => Cross_any hx hy w
  have H2 := fun w => Dot_any hx hy w
  have H3 := fun w => Length2_any hx w
  have H4 := fun w => Length2_any hy w
  have H5 := fun w => Turn_any hx hy hz w
  have H6 := fun w => Turn_any hy hx hz w
  have W := @wrap_in
  have P := @mul_bd
  have p1 := P (M := 536870912) (N := 16384) (x := x2 * y3 - x3 * y2) (y := x1) (by have := P bx2 by3; have := P bx3 by2; omega) bx1
  have p2 := P (M := 536870912) (N := 16384) (x := x3 * y1 - x1 * y3) (y := x2) (by have := P bx3 by1; have := P bx1 by3; omega) bx2
  have p3 := P (M := 536870912) (N := 16384) (x := x1 * y2 - x2 * y1) (y := x3) (by have := P bx1 by2; have := P bx2 by1; omega) bx3
  have q1 := P (M := 536870912) (N := 16384) (x := x2 * y3 - x3 * y2) (y := y1) (by have := P bx2 by3; have := P bx3 by2; omega) by1
  have q2 := P (M := 536870912) (N := 16384) (x := x3 * y1 - x1 * y3) (y := y2) (by have := P bx3 by1; have := P bx1 by3; omega) by2
  have q3 := P (M := 536870912) (N := 16384) (x := x1 * y2 - x2 * y1) (y := y3) (by have := P bx1 by2; have := P bx2 by1; omega) by3
  have r1 := P (M := 536870912) (N := 536870912) (x := x2 * y3 - x3 * y2) (y := x2 * y3 - x3 * y2) (by have := P bx2 by3; have := P bx3 by2; omega) (by have := P bx2 by3; have := P bx3 by2; omega)
  have r2 := P (M := 536870912) (N := 536870912) (x := x3 * y1 - x1 * y3) (y := x3 * y1 - x1 * y3) (by have := P bx3 by1; have := P bx1 by3; omega) (by have := P bx3 by1; have := P bx1 by3; omega)
  have r3 := P (M := 536870912) (N := 536870912) (x := x1 * y2 - x2 * y1) (y := x1 * y2 - x2 * y1) (by have := P bx1 by2; have := P bx2 by1; omega) (by have := P bx1 by2; have := P bx2 by1; omega)
  have hd : -805306368 ≤ dt x1 x2 x3 y1 y2 y3 ∧ dt x1 x2 x3 y1 y2 y3 ≤ 805306368 := by unfold dt; have := P bx1 by1; have := P bx2 by2; have := P bx3 by3; omega
  have hl1 : -805306368 ≤ dt x1 x2 x3 x1 x2 x3 ∧ dt x1 x2 x3 x1 x2 x3 ≤ 805306368 := by unfold dt; have := P bx1 bx1; have := P bx2 bx2; have := P bx3 bx3; omega
  have hl2 : -805306368 ≤ dt y1 y2 y3 y1 y2 y3 ∧ dt y1 y2 y3 y1 y2 y3 ≤ 805306368 := by unfold dt; have := P by1 by1; have := P by2 by2; have := P by3 by3; omega
  have d2 := P hd hd
  have l2_ := P hl1 hl2
  have ex := crx x1 x2 x3 y1 y2 y3
  have ey := cry x1 x2 x3 y1 y2 y3
  have el := crl x1 x2 x3 y1 y2 y3
  have hm : IntKind.i64.wrap (-cmpI (tz y1 y2 x1 x2 z1 z2) 0) = cmpI (tz x1 x2 y1 y2 z1 z2) 0 := by
    rw [tz_swap, cmpI_neg, Int.neg_neg]
    exact W (by unfold cmpI; split <;> (try split) <;> omega)
  have w7 := W (n := (x2 * y3 - x3 * y2) * x1 + (x3 * y1 - x1 * y3) * x2) (by omega)
  have key : ∀ (a b c : Int), a + b + c = 0 → -9223372036854775808 ≤ 0 → IntKind.i64.wrap (a + b + c) = 0 := fun a b c h _ => by rw [h]; exact W (by omega)
  have kM : IntKind.i64.wrap (dt x1 x2 x3 x1 x2 x3 * dt y1 y2 y3 y1 y2 y3) = dt x1 x2 x3 x1 x2 x3 * dt y1 y2 y3 y1 y2 y3 := W (by omega)
  have kS := fun (A : Int) (h : A = dt x1 x2 x3 x1 x2 x3 * dt y1 y2 y3 y1 y2 y3) => (show IntKind.i64.wrap A = dt x1 x2 x3 x1 x2 x3 * dt y1 y2 y3 y1 y2 y3 by rw [h]; exact kM)
  by_cases h1 : den < 1
  · exact holds_d0 _ _ _ _ _ _ _ _ _ _ _ _ _ _ _ _ _ _ _ _ _ _ _ _ _ _ _ _ _ _ _ _ _ _ l0 m0 l1 m1 l2 m2 l3 m3 l4 m4 l5 m5 l6 m6 l7 m7 l8 m8 (W (by omega)) (W (by omega)) (W (by omega)) w7 (key _ _ _ ex (by omega)) (W (by omega)) (W (by omega)) (W (by omega)) (W (by omega)) (key _ _ _ ey (by omega)) (W (by omega)) (W (by omega)) (W (by omega)) (W (by omega)) (W (by omega)) (W (by omega)) (kS _ el) kM hm h1 H1 H2 H3 H4 H5 H6 w
  by_cases h2 : 4294967296 < den
  · exact holds_d1 _ _ _ _ _ _ _ _ _ _ _ _ _ _ _ _ _ _ _ _ _ _ _ _ _ _ _ _ _ _ _ _ _ _ l0 m0 l1 m1 l2 m2 l3 m3 l4 m4 l5 m5 l6 m6 l7 m7 l8 m8 (W (by omega)) (W (by omega)) (W (by omega)) w7 (key _ _ _ ex (by omega)) (W (by omega)) (W (by omega)) (W (by omega)) (W (by omega)) (key _ _ _ ey (by omega)) (W (by omega)) (W (by omega)) (W (by omega)) (W (by omega)) (W (by omega)) (W (by omega)) (kS _ el) kM hm h1 h2 H1 H2 H3 H4 H5 H6 w
  by_cases h3 : num < 0
  · exact holds_n0 _ _ _ _ _ _ _ _ _ _ _ _ _ _ _ _ _ _ _ _ _ _ _ _ _ _ _ _ _ _ _ _ _ _ l0 m0 l1 m1 l2 m2 l3 m3 l4 m4 l5 m5 l6 m6 l7 m7 l8 m8 (W (by omega)) (W (by omega)) (W (by omega)) w7 (key _ _ _ ex (by omega)) (W (by omega)) (W (by omega)) (W (by omega)) (W (by omega)) (key _ _ _ ey (by omega)) (W (by omega)) (W (by omega)) (W (by omega)) (W (by omega)) (W (by omega)) (W (by omega)) (kS _ el) kM hm h1 h2 h3 H1 H2 H3 H4 H5 H6 w
  by_cases h4 : den < num
  · exact holds_n1 _ _ _ _ _ _ _ _ _ _ _ _ _ _ _ _ _ _ _ _ _ _ _ _ _ _ _ _ _ _ _ _ _ _ l0 m0 l1 m1 l2 m2 l3 m3 l4 m4 l5 m5 l6 m6 l7 m7 l8 m8 (W (by omega)) (W (by omega)) (W (by omega)) w7 (key _ _ _ ex (by omega)) (W (by omega)) (W (by omega)) (W (by omega)) (W (by omega)) (key _ _ _ ey (by omega)) (W (by omega)) (W (by omega)) (W (by omega)) (W (by omega)) (W (by omega)) (W (by omega)) (kS _ el) kM hm h1 h2 h3 h4 H1 H2 H3 H4 H5 H6 w
  have hdd : 0 < den ∧ den ≤ 4294967296 := by omega
  have hnn : 0 ≤ num ∧ num ≤ den := by omega
  have B0 := fun w => Between_any hx hy hdd (show (0 : Int) ≤ 0 ∧ 0 ≤ den by omega) w
  have B1 := fun w => Between_any hx hy hdd (show 0 ≤ den ∧ den ≤ den by omega) w
  rw [bt_zero hdd.1, bt_zero hdd.1, bt_zero hdd.1] at B0
  rw [bt_den hdd.1, bt_den hdd.1, bt_den hdd.1] at B1
  exact holds_ok _ _ _ _ _ _ _ _ _ _ _ _ _ _ _ _ _ _ _ _ _ _ _ _ _ _ _ _ _ _ _ _ _ _ _ _ _ l0 m0 l1 m1 l2 m2 l3 m3 l4 m4 l5 m5 l6 m6 l7 m7 l8 m8 (W (by omega)) (W (by omega)) (W (by omega)) w7 (key _ _ _ ex (by omega)) (W (by omega)) (W (by omega)) (W (by omega)) (W (by omega)) (key _ _ _ ey (by omega)) (W (by omega)) (W (by omega)) (W (by omega)) (W (by omega)) (W (by omega)) (W (by omega)) (kS _ el) kM hm h1 h2 h3 h4 H1 H2 H3 H4 H5 H6 (fun w => Between_any hx hy hdd hnn w) B0 B1
    (fun w => part_any _ _ _ (bt_between hdd.1 hnn) w) (fun w => part_any _ _ _ (bt_between hdd.1 hnn) w) (fun w => part_any _ _ _ (bt_between hdd.1 hnn) w) w

set_option maxRecDepth 100000 in
theorem vholds_lifted (os : Os) (started : os.Started) (H : Type) (enc : TypeId × Value → H) :
    ReturnsInHanded {} Try.checked os 9 .any (Rows.vectorHoldsSpec.pre6 enc Try.prog Try.f9 Rows.vectorHoldsRow.domain false) (Rows.vectorHoldsSpec.post enc Try.prog Try.f9 false true false false) := by
  refine returnsInHanded_of_change (C := Try.checked) Try.own started (by kernel_rfl) Try.func9
    (ChangeSpec.witness6 (enc := enc) (C := Try.checked) false ⟨#[], #[.agg #[.int .i64 0, .int .i64 0, .int .i64 0], .agg #[.int .i64 0, .int .i64 0, .int .i64 0], .agg #[.int .i64 0, .int .i64 0, .int .i64 0], .int .i64 0, .int .i64 0], []⟩ 8 (by kernel_rfl) (by kernel_rfl) (by kernel_rfl) (by kernel_rfl)) ?_
  intro W base args ds gs before hval0 hW hcnd _
  have hval : ∀ (j : Nat) t v, Try.f9.params[j]? = some t → args[j]? = some v → Value.okWide Try.prog W .any base t v := hval0
  have hW' := hW
  obtain ⟨p, q, hA0, hV, rfl, hfz, hnd⟩ := hW
  have hA : DataW.TrodAll enc Try.prog W 0 (fun _ => true) true Try.f9.params.toList args.toList ds p := hA0
  rw [Try.params9] at hA hval
  obtain ⟨v0, v1, v2, v3, v4, d0, d1, d2, d3, d4, p0, p1, p2, p3, p4, rfl, rfl, rfl, h0, h1, h2, h3, h4⟩ := trodAll_5 hA
  obtain ⟨rfl, rfl⟩ := trodVars_none hV
  obtain ⟨x1, x2, x3, rfl, rfl, rfl, i0⟩ := open_vec (hval 0 23 v0 rfl rfl) h0
  obtain ⟨y1, y2, y3, rfl, rfl, rfl, i1⟩ := open_vec (hval 1 23 v1 rfl rfl) h1
  obtain ⟨z1, z2, z3, rfl, rfl, rfl, i2⟩ := open_vec (hval 2 23 v2 rfl rfl) h2
  obtain ⟨m, rfl, rfl, rfl, i3⟩ := open_int Try.underlying3 (hval 3 3 v3 rfl rfl) h3
  obtain ⟨k, rfl, rfl, rfl, i4⟩ := open_int Try.underlying3 (hval 4 3 v4 rfl rfl) h4
  clear hA0 hval0
  refine (vholds_any x1 x2 x3 y1 y2 y3 z1 z2 z3 m k W).mono fun e W' ⟨he, bel⟩ => ?_
  subst he
  exact ⟨_, rfl, _, _, _, [], _, [], hW', trodAll_mk1 (shut_bool Try.underlying4 _), trodAll_cons_mk (shut_vec i0) (trodAll_cons_mk (shut_vec i1) (trodAll_cons_mk (shut_vec i2) (trodAll_cons_mk (shut_int Try.underlying3 i3) (trodAll_mk1 (shut_int Try.underlying3 i4))))), rfl, bel.frame _, fun h => by cases h⟩

/-- The statement. -/
theorem vholds_holds : Rows.VectorHoldsSaid :=
  OpenClaim.holds_of_wide 9 Try.f9 rfl rfl rfl rfl rfl rfl rfl ⟨rfl, rfl, rfl, rfl, rfl⟩ rfl rfl rfl rfl rfl (by kernel_rfl) Try.func9 (by kernel_rfl)
    (of_decide_eq_true (by kernel_rfl)) (by unfold Func.isWrapper; first | (rw [if_pos (by decide +kernel)]; kernel_rfl) | (rw [if_neg (by decide +kernel)]; exact ⟨rfl, rfl⟩))
    (fun os started H enc _ => vholds_lifted os started H enc)
#print axioms vholds_holds
end Go.Proofs.Ytdicbeaocedkmaa
