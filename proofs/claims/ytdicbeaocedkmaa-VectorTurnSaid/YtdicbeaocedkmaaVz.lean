/- The law's function known gives true. -/
import Derived.Test.YtdicbeaocedkmaaVw
import Derived.Test.YtdicbeaocedkmaaVl
import Derived.Test.YtdicbeaocedkmaaVm
set_option linter.all false
namespace Go.Proofs.Ytdicbeaocedkmaa
open Go.RowKit

/-- Boxes that hold vectors. -/
def Bxs (w : World) (l : List (Nat × T3)) : Prop := ∀ p ∈ l, V3 w p.1 p.2.1 p.2.2.1 p.2.2.2
theorem Bxs.below {w w' : World} {l : List (Nat × T3)} (h : Bxs w l) (hb : Below w.heap.size w w') : Bxs w' l := fun p hp => (h p hp).below hb
theorem Bxs.cons {w : World} {l : List (Nat × T3)} (h : Bxs w l) (x y z : Int) : Bxs (w.alloc (.cells #[.int .i64 x, .int .i64 y, .int .i64 z] 23)) ((w.heap.size, (x, y, z)) :: l) := by
  intro p hp
  rcases List.mem_cons.1 hp with rfl | hp
  · exact ⟨by simp [go_sem], by simp [go_sem], by simp [go_sem]⟩
  · exact (h p hp).below (below_one _ _)
theorem Bxs.nil (w : World) : Bxs w [] := fun p hp => nomatch hp

set_option maxRecDepth 100000 in
set_option maxHeartbeats 4000000 in
theorem v_any (x y z : Int) (w : World) : Calls Try.prog 42 #[.int .i64 x, .int .i64 y, .int .i64 z] w (Ret (.agg #[.int .i64 x, .int .i64 y, .int .i64 z]) w) := by
  go_enter Try.func42, Try.ntmps42
  go_upto_region 1 with (fail)
  obtain ⟨w0, hw0⟩ : ∃ w0 : World, w0 = w.alloc (.cells #[.int .i64 0, .int .i64 0, .int .i64 0] 23) := ⟨_, rfl⟩
  have hb0 : Hid (Below w.heap.size w w0) := by rw [hw0]; exact below_one w _
  have hv0 : Hid (V3 w0 w.heap.size 0 0 0) := by rw [hw0]; exact ⟨by simp [go_sem], by simp [go_sem], by simp [go_sem]⟩
  have f00 : w0.frozen? ⟨w.heap.size, 0, none⟩ = false := by rw [hw0]; simp [go_sem]
  have f01 : w0.frozen? ⟨w.heap.size, 1, none⟩ = false := by rw [hw0]; simp [go_sem]
  have f02 : w0.frozen? ⟨w.heap.size, 2, none⟩ = false := by rw [hw0]; simp [go_sem]
  have F0 := Lib.hid (And.intro f00 (And.intro f01 f02))
  clear f00 f01 f02
  rw [← hw0]
  clear hw0
  obtain ⟨k00, k01, k02⟩ := hv0.out.below (Below.refl _ _)
  have g00 := keepf (Below.refl _ _) hv0.out.1 F0.out.1
  have g01 := keepf (Below.refl _ _) hv0.out.2.1 F0.out.2.1
  have g02 := keepf (Below.refl _ _) hv0.out.2.2 F0.out.2.2
  have HZ := Lib.hid (((hb0.out.setCell (p := ⟨w.heap.size, 0, none⟩) (by simp) (.int .i64 x)).setCell (p := ⟨w.heap.size, 1, none⟩) (by simp) (.int .i64 y)).setCell (p := ⟨w.heap.size, 2, none⟩) (by simp) (.int .i64 z))
  go_wp2
  exact bodyPost_ret (v := vv x y z) (by simp [results, Try.results42, go_sem, k00, k01, k02]) rfl ⟨rfl, HZ.out⟩
theorem kn_0 : ∀ w, Calls Try.prog 17 #[.agg #[.int .i64 1, .int .i64 2, .int .i64 3], .agg #[.int .i64 4, .int .i64 5, .int .i64 6]] w (Ret (.tuple #[.agg #[.int .i64 5, .int .i64 7, .int .i64 9], .int .i64 0]) w) := fun w => Add_any (by decide) (by decide) w
theorem kn_1 : ∀ w, Calls Try.prog 18 #[.agg #[.int .i64 1, .int .i64 2, .int .i64 3], .agg #[.int .i64 4, .int .i64 5, .int .i64 6]] w (Ret (.tuple #[.agg #[.int .i64 (-3), .int .i64 (-3), .int .i64 (-3)], .int .i64 0]) w) := fun w => Sub_any (by decide) (by decide) w
theorem kn_2 : ∀ w, Calls Try.prog 19 #[.agg #[.int .i64 1, .int .i64 (-2), .int .i64 3], .int .i64 (-4)] w (Ret (.tuple #[.agg #[.int .i64 (-4), .int .i64 8, .int .i64 (-12)], .int .i64 0]) w) := fun w => Scale_any (by decide) (-4) w
theorem kn_3 : ∀ w, Calls Try.prog 19 #[.agg #[.int .i64 16777216, .int .i64 0, .int .i64 0], .int .i64 2] w (Ret (.tuple #[.agg #[.int .i64 0, .int .i64 0, .int .i64 0], .int .i64 3]) w) := fun w => Scale_any (by decide) 2 w
theorem kn_4 : ∀ w, Calls Try.prog 19 #[.agg #[.int .i64 0, .int .i64 0, .int .i64 0], .int .i64 1152921504606846976] w (Ret (.tuple #[.agg #[.int .i64 0, .int .i64 0, .int .i64 0], .int .i64 0]) w) := fun w => Scale_any (by decide) 1152921504606846976 w
theorem kn_5 : ∀ w, Calls Try.prog 24 #[.agg #[.int .i64 1, .int .i64 2, .int .i64 3], .agg #[.int .i64 4, .int .i64 5, .int .i64 6]] w (Ret (.tuple #[.int .i64 32, .int .i64 0]) w) := fun w => Dot_any (by decide) (by decide) w
theorem kn_6 : ∀ w, Calls Try.prog 25 #[.agg #[.int .i64 1, .int .i64 0, .int .i64 0], .agg #[.int .i64 0, .int .i64 1, .int .i64 0]] w (Ret (.tuple #[.agg #[.int .i64 0, .int .i64 0, .int .i64 1], .int .i64 0]) w) := fun w => Cross_any (by decide) (by decide) w
theorem kn_7 : ∀ w, Calls Try.prog 26 #[.agg #[.int .i64 3, .int .i64 4, .int .i64 12]] w (Ret (.tuple #[.int .i64 169, .int .i64 0]) w) := fun w => Length2_any (by decide) w
theorem kn_8 : ∀ w, Calls Try.prog 27 #[.agg #[.int .i64 1, .int .i64 1, .int .i64 1], .agg #[.int .i64 2, .int .i64 3, .int .i64 1]] w (Ret (.tuple #[.int .i64 5, .int .i64 0]) w) := fun w => Distance2_any (by decide) (by decide) w
theorem kn_9 : ∀ w, Calls Try.prog 31 #[.agg #[.int .i64 0, .int .i64 0, .int .i64 0], .agg #[.int .i64 10, .int .i64 (-10), .int .i64 3], .int .i64 1, .int .i64 4] w (Ret (.tuple #[.agg #[.int .i64 3, .int .i64 (-2), .int .i64 1], .int .i64 0]) w) := fun w => Between_any (by decide) (by decide) (by decide) (by decide) w
theorem kn_10 : ∀ w, Calls Try.prog 31 #[.agg #[.int .i64 0, .int .i64 0, .int .i64 0], .agg #[.int .i64 10, .int .i64 (-10), .int .i64 3], .int .i64 1, .int .i64 2] w (Ret (.tuple #[.agg #[.int .i64 5, .int .i64 (-5), .int .i64 2], .int .i64 0]) w) := fun w => Between_any (by decide) (by decide) (by decide) (by decide) w
theorem kn_11 : ∀ w, Calls Try.prog 33 #[.agg #[.int .i64 0, .int .i64 0, .int .i64 0], .agg #[.int .i64 1, .int .i64 0, .int .i64 0], .agg #[.int .i64 1, .int .i64 1, .int .i64 0]] w (Ret (.tuple #[.int .i64 1, .int .i64 0]) w) := fun w => Turn_any (by decide) (by decide) (by decide) w
theorem kn_12 : ∀ w, Calls Try.prog 33 #[.agg #[.int .i64 0, .int .i64 0, .int .i64 0], .agg #[.int .i64 1, .int .i64 1, .int .i64 0], .agg #[.int .i64 2, .int .i64 2, .int .i64 9]] w (Ret (.tuple #[.int .i64 0, .int .i64 0]) w) := fun w => Turn_any (by decide) (by decide) (by decide) w
theorem kn_box (g : Nat) (w : World) (h : Rv w (.slice (some ⟨g, 0, none⟩) 2 2) [(1, 5, 0), (2, -3, 4)]) : Calls Try.prog 35 #[.slice (some ⟨g, 0, none⟩) 2 2] w (Ret (.tuple #[.agg #[.int .i64 1, .int .i64 (-3), .int .i64 0], .agg #[.int .i64 2, .int .i64 5, .int .i64 4], .int .i64 0]) w) :=
  Box_more (1, 5, 0) [(2, -3, 4)] _ _ _ w (by decide) h (by decide)

set_option maxRecDepth 100000 in
set_option maxHeartbeats 4000000 in
theorem known_true (w : World) : Calls Try.prog 16 #[] w (Ret (.bool true) w) := by
  have HV := Lib.hid v_any
  have K0 := Lib.hid kn_0
  have K1 := Lib.hid kn_1
  have K2 := Lib.hid kn_2
  have K3 := Lib.hid kn_3
  have K4 := Lib.hid kn_4
  have K5 := Lib.hid kn_5
  have K6 := Lib.hid kn_6
  have K7 := Lib.hid kn_7
  have K8 := Lib.hid kn_8
  have K9 := Lib.hid kn_9
  have K10 := Lib.hid kn_10
  have K11 := Lib.hid kn_11
  have K12 := Lib.hid kn_12
  have KB := Lib.hid kn_box
  have E := Lib.hid (Below.refl w.heap.size w)
  have BX := Lib.hid (Bxs.nil w)
  have q0 : ∀ w, (binOp .neq 23 (.agg #[.int .i64 5, .int .i64 7, .int .i64 9]) (.agg #[.int .i64 5, .int .i64 7, .int .i64 9])).run Try.prog w = .ok (.bool false) w := fun w => neq_vec w _ _ _ _ _ _
  have q1 : ∀ w, (binOp .neq 23 (.agg #[.int .i64 (-3), .int .i64 (-3), .int .i64 (-3)]) (.agg #[.int .i64 (-3), .int .i64 (-3), .int .i64 (-3)])).run Try.prog w = .ok (.bool false) w := fun w => neq_vec w _ _ _ _ _ _
  have q2 : ∀ w, (binOp .neq 23 (.agg #[.int .i64 (-4), .int .i64 8, .int .i64 (-12)]) (.agg #[.int .i64 (-4), .int .i64 8, .int .i64 (-12)])).run Try.prog w = .ok (.bool false) w := fun w => neq_vec w _ _ _ _ _ _
  have q3 : ∀ w, (binOp .neq 23 (.agg #[.int .i64 0, .int .i64 0, .int .i64 0]) (.agg #[.int .i64 0, .int .i64 0, .int .i64 0])).run Try.prog w = .ok (.bool false) w := fun w => neq_vec w _ _ _ _ _ _
  have q4 : ∀ w, (binOp .neq 23 (.agg #[.int .i64 0, .int .i64 0, .int .i64 1]) (.agg #[.int .i64 0, .int .i64 0, .int .i64 1])).run Try.prog w = .ok (.bool false) w := fun w => neq_vec w _ _ _ _ _ _
  have p0 : ∀ w, (binOp .eql 23 (.agg #[.int .i64 3, .int .i64 (-2), .int .i64 1]) (.agg #[.int .i64 3, .int .i64 (-2), .int .i64 1])).run Try.prog w = .ok (.bool true) w := fun w => eq_vec w _ _ _ _ _ _
  have p1 : ∀ w, (binOp .eql 23 (.agg #[.int .i64 5, .int .i64 (-5), .int .i64 2]) (.agg #[.int .i64 5, .int .i64 (-5), .int .i64 2])).run Try.prog w = .ok (.bool true) w := fun w => eq_vec w _ _ _ _ _ _
  have p2 : ∀ w, (binOp .eql 23 (.agg #[.int .i64 1, .int .i64 (-3), .int .i64 0]) (.agg #[.int .i64 1, .int .i64 (-3), .int .i64 0])).run Try.prog w = .ok (.bool true) w := fun w => eq_vec w _ _ _ _ _ _
  have p3 : ∀ w, (binOp .eql 23 (.agg #[.int .i64 2, .int .i64 5, .int .i64 4]) (.agg #[.int .i64 2, .int .i64 5, .int .i64 4])).run Try.prog w = .ok (.bool true) w := fun w => eq_vec w _ _ _ _ _ _
  go_enter Try.func16, Try.ntmps16
  go_wp2_with fail
  refine (HV.out _ _ _ _).mono ?_
  rintro e y ⟨rfl, b⟩
  have E := Lib.hid (chain E.out b)
  have BX := Lib.hid (BX.out.below b)
  clear b
  go_wp2_with fail
  refine (HV.out _ _ _ _).mono ?_
  rintro e y ⟨rfl, b⟩
  have E := Lib.hid (chain E.out b)
  have BX := Lib.hid (BX.out.below b)
  clear b
  go_wp2_with fail
  refine (K0.out _).mono ?_
  rintro e y ⟨rfl, b⟩
  have E := Lib.hid (chain E.out b)
  have BX := Lib.hid (BX.out.below b)
  clear b
  go_upto_region 2 with (fail)
  obtain ⟨u, hu⟩ : ∃ u : World, u = y.alloc (.cells #[.int .i64 5, .int .i64 7, .int .i64 9] 23) := ⟨_, rfl⟩
  have b : Below y.heap.size y u := by rw [hu]; exact below_one _ _
  have E := Lib.hid (chain E.out b)
  have BX := Lib.hid (BX.out.cons 5 7 9)
  rw [← hu] at BX
  rw [← hu]
  obtain ⟨g0, hg0⟩ : ∃ g0, g0 = y.heap.size := ⟨_, rfl⟩
  rw [← hg0] at BX ⊢
  clear hu b hg0
  go_wp2_with fail
  refine (HV.out _ _ _ _).mono ?_
  rintro e y ⟨rfl, b⟩
  have E := Lib.hid (chain E.out b)
  have BX := Lib.hid (BX.out.below b)
  clear b
  go_wp2_with fail
  refine (HV.out _ _ _ _).mono ?_
  rintro e y ⟨rfl, b⟩
  have E := Lib.hid (chain E.out b)
  have BX := Lib.hid (BX.out.below b)
  clear b
  go_wp2_with fail
  refine (K1.out _).mono ?_
  rintro e y ⟨rfl, b⟩
  have E := Lib.hid (chain E.out b)
  have BX := Lib.hid (BX.out.below b)
  clear b
  go_upto_region 3 with (fail)
  obtain ⟨u, hu⟩ : ∃ u : World, u = y.alloc (.cells #[.int .i64 (-3), .int .i64 (-3), .int .i64 (-3)] 23) := ⟨_, rfl⟩
  have b : Below y.heap.size y u := by rw [hu]; exact below_one _ _
  have E := Lib.hid (chain E.out b)
  have BX := Lib.hid (BX.out.cons (-3) (-3) (-3))
  rw [← hu] at BX
  rw [← hu]
  obtain ⟨g1, hg1⟩ : ∃ g1, g1 = y.heap.size := ⟨_, rfl⟩
  rw [← hg1] at BX ⊢
  clear hu b hg1
  go_wp2_with fail
  refine (HV.out _ _ _ _).mono ?_
  rintro e y ⟨rfl, b⟩
  have E := Lib.hid (chain E.out b)
  have BX := Lib.hid (BX.out.below b)
  clear b
  go_wp2_with fail
  refine (K2.out _).mono ?_
  rintro e y ⟨rfl, b⟩
  have E := Lib.hid (chain E.out b)
  have BX := Lib.hid (BX.out.below b)
  clear b
  go_upto_region 4 with (fail)
  obtain ⟨u, hu⟩ : ∃ u : World, u = y.alloc (.cells #[.int .i64 (-4), .int .i64 8, .int .i64 (-12)] 23) := ⟨_, rfl⟩
  have b : Below y.heap.size y u := by rw [hu]; exact below_one _ _
  have E := Lib.hid (chain E.out b)
  have BX := Lib.hid (BX.out.cons (-4) 8 (-12))
  rw [← hu] at BX
  rw [← hu]
  obtain ⟨g2, hg2⟩ : ∃ g2, g2 = y.heap.size := ⟨_, rfl⟩
  rw [← hg2] at BX ⊢
  clear hu b hg2
  go_wp2_with fail
  refine (HV.out _ _ _ _).mono ?_
  rintro e y ⟨rfl, b⟩
  have E := Lib.hid (chain E.out b)
  have BX := Lib.hid (BX.out.below b)
  clear b
  go_wp2_with fail
  refine (K3.out _).mono ?_
  rintro e y ⟨rfl, b⟩
  have E := Lib.hid (chain E.out b)
  have BX := Lib.hid (BX.out.below b)
  clear b
  go_upto_region 5 with (fail)
  obtain ⟨u, hu⟩ : ∃ u : World, u = y.alloc (.cells #[.int .i64 0, .int .i64 0, .int .i64 0] 23) := ⟨_, rfl⟩
  have b : Below y.heap.size y u := by rw [hu]; exact below_one _ _
  have E := Lib.hid (chain E.out b)
  have BX := Lib.hid (BX.out.cons 0 0 0)
  rw [← hu] at BX
  rw [← hu]
  obtain ⟨g3, hg3⟩ : ∃ g3, g3 = y.heap.size := ⟨_, rfl⟩
  rw [← hg3] at BX ⊢
  clear hu b hg3
  go_wp2_with fail
  refine (HV.out _ _ _ _).mono ?_
  rintro e y ⟨rfl, b⟩
  have E := Lib.hid (chain E.out b)
  have BX := Lib.hid (BX.out.below b)
  clear b
  go_wp2_with fail
  refine (K4.out _).mono ?_
  rintro e y ⟨rfl, b⟩
  have E := Lib.hid (chain E.out b)
  have BX := Lib.hid (BX.out.below b)
  clear b
  go_upto_region 6 with (fail)
  obtain ⟨u, hu⟩ : ∃ u : World, u = y.alloc (.cells #[.int .i64 0, .int .i64 0, .int .i64 0] 23) := ⟨_, rfl⟩
  have b : Below y.heap.size y u := by rw [hu]; exact below_one _ _
  have E := Lib.hid (chain E.out b)
  have BX := Lib.hid (BX.out.cons 0 0 0)
  rw [← hu] at BX
  rw [← hu]
  obtain ⟨g4, hg4⟩ : ∃ g4, g4 = y.heap.size := ⟨_, rfl⟩
  rw [← hg4] at BX ⊢
  clear hu b hg4
  obtain ⟨cg00, cg01, cg02⟩ := BX.out (g0, (5, 7, 9)) (by simp)
  obtain ⟨cg10, cg11, cg12⟩ := BX.out (g1, (-3, -3, -3)) (by simp)
  obtain ⟨cg20, cg21, cg22⟩ := BX.out (g2, (-4, 8, -12)) (by simp)
  obtain ⟨cg40, cg41, cg42⟩ := BX.out (g4, (0, 0, 0)) (by simp)
  go_region_held3 (fun W' => W'.cell? ⟨g0, 0, none⟩ = some (.int .i64 5) ∧ W'.cell? ⟨g0, 1, none⟩ = some (.int .i64 7) ∧ W'.cell? ⟨g0, 2, none⟩ = some (.int .i64 9) ∧ W'.cell? ⟨g1, 0, none⟩ = some (.int .i64 (-3)) ∧ W'.cell? ⟨g1, 1, none⟩ = some (.int .i64 (-3)) ∧ W'.cell? ⟨g1, 2, none⟩ = some (.int .i64 (-3)) ∧ W'.cell? ⟨g2, 0, none⟩ = some (.int .i64 (-4)) ∧ W'.cell? ⟨g2, 1, none⟩ = some (.int .i64 8) ∧ W'.cell? ⟨g2, 2, none⟩ = some (.int .i64 (-12)) ∧ W'.cell? ⟨g4, 0, none⟩ = some (.int .i64 0) ∧ W'.cell? ⟨g4, 1, none⟩ = some (.int .i64 0) ∧ W'.cell? ⟨g4, 2, none⟩ = some (.int .i64 0)) (go_keep)
    (first
      | (go_at_call 42; (with_reducible refine (HV.out _ _ _ _).mono ?_); rintro e y ⟨rfl, b⟩; (try (have b := undrew b)); have E := Lib.hid (chain E.out b); have BX := Lib.hid (BX.out.below b); clear b; obtain ⟨cg00, cg01, cg02⟩ := BX.out (g0, (5, 7, 9)) (by simp); obtain ⟨cg10, cg11, cg12⟩ := BX.out (g1, (-3, -3, -3)) (by simp); obtain ⟨cg20, cg21, cg22⟩ := BX.out (g2, (-4, 8, -12)) (by simp); obtain ⟨cg40, cg41, cg42⟩ := BX.out (g4, (0, 0, 0)) (by simp))
      | fail)
  go_wp2_with fail
  refine (HV.out _ _ _ _).mono ?_
  rintro e y ⟨rfl, b⟩
  have E := Lib.hid (chain E.out b)
  have BX := Lib.hid (BX.out.below b)
  clear b
  go_wp2_with fail
  refine (HV.out _ _ _ _).mono ?_
  rintro e y ⟨rfl, b⟩
  have E := Lib.hid (chain E.out b)
  have BX := Lib.hid (BX.out.below b)
  clear b
  go_wp2_with fail
  refine (K5.out _).mono ?_
  rintro e y ⟨rfl, b⟩
  have E := Lib.hid (chain E.out b)
  have BX := Lib.hid (BX.out.below b)
  clear b
  go_wp2_with fail
  refine (HV.out _ _ _ _).mono ?_
  rintro e y ⟨rfl, b⟩
  have E := Lib.hid (chain E.out b)
  have BX := Lib.hid (BX.out.below b)
  clear b
  go_wp2_with fail
  refine (HV.out _ _ _ _).mono ?_
  rintro e y ⟨rfl, b⟩
  have E := Lib.hid (chain E.out b)
  have BX := Lib.hid (BX.out.below b)
  clear b
  go_wp2_with fail
  refine (K6.out _).mono ?_
  rintro e y ⟨rfl, b⟩
  have E := Lib.hid (chain E.out b)
  have BX := Lib.hid (BX.out.below b)
  clear b
  go_upto_region 10 with (fail)
  obtain ⟨u, hu⟩ : ∃ u : World, u = y.alloc (.cells #[.int .i64 0, .int .i64 0, .int .i64 1] 23) := ⟨_, rfl⟩
  have b : Below y.heap.size y u := by rw [hu]; exact below_one _ _
  have E := Lib.hid (chain E.out b)
  have BX := Lib.hid (BX.out.cons 0 0 1)
  rw [← hu] at BX
  rw [← hu]
  obtain ⟨g5, hg5⟩ : ∃ g5, g5 = y.heap.size := ⟨_, rfl⟩
  rw [← hg5] at BX ⊢
  clear hu b hg5
  go_wp2_with fail
  refine (HV.out _ _ _ _).mono ?_
  rintro e y ⟨rfl, b⟩
  have E := Lib.hid (chain E.out b)
  have BX := Lib.hid (BX.out.below b)
  clear b
  go_wp2_with fail
  refine (K7.out _).mono ?_
  rintro e y ⟨rfl, b⟩
  have E := Lib.hid (chain E.out b)
  have BX := Lib.hid (BX.out.below b)
  clear b
  go_wp2_with fail
  refine (HV.out _ _ _ _).mono ?_
  rintro e y ⟨rfl, b⟩
  have E := Lib.hid (chain E.out b)
  have BX := Lib.hid (BX.out.below b)
  clear b
  go_wp2_with fail
  refine (HV.out _ _ _ _).mono ?_
  rintro e y ⟨rfl, b⟩
  have E := Lib.hid (chain E.out b)
  have BX := Lib.hid (BX.out.below b)
  clear b
  go_wp2_with fail
  refine (K8.out _).mono ?_
  rintro e y ⟨rfl, b⟩
  have E := Lib.hid (chain E.out b)
  have BX := Lib.hid (BX.out.below b)
  clear b
  go_upto_region 12 with (fail)
  obtain ⟨cg50, cg51, cg52⟩ := BX.out (g5, (0, 0, 1)) (by simp)
  go_region_held3 (fun W' => W'.cell? ⟨g5, 0, none⟩ = some (.int .i64 0) ∧ W'.cell? ⟨g5, 1, none⟩ = some (.int .i64 0) ∧ W'.cell? ⟨g5, 2, none⟩ = some (.int .i64 1)) (go_keep)
    (first
      | (go_at_call 42; (with_reducible refine (HV.out _ _ _ _).mono ?_); rintro e y ⟨rfl, b⟩; (try (have b := undrew b)); have E := Lib.hid (chain E.out b); have BX := Lib.hid (BX.out.below b); clear b; obtain ⟨cg50, cg51, cg52⟩ := BX.out (g5, (0, 0, 1)) (by simp))
      | fail)
  go_wp2_with fail
  refine (HV.out _ _ _ _).mono ?_
  rintro e y ⟨rfl, b⟩
  have E := Lib.hid (chain E.out b)
  have BX := Lib.hid (BX.out.below b)
  clear b
  go_wp2_with fail
  refine (HV.out _ _ _ _).mono ?_
  rintro e y ⟨rfl, b⟩
  have E := Lib.hid (chain E.out b)
  have BX := Lib.hid (BX.out.below b)
  clear b
  go_wp2_with fail
  refine (K9.out _).mono ?_
  rintro e y ⟨rfl, b⟩
  have E := Lib.hid (chain E.out b)
  have BX := Lib.hid (BX.out.below b)
  clear b
  go_upto_region 15 with (fail)
  obtain ⟨u, hu⟩ : ∃ u : World, u = y.alloc (.cells #[.int .i64 3, .int .i64 (-2), .int .i64 1] 23) := ⟨_, rfl⟩
  have b : Below y.heap.size y u := by rw [hu]; exact below_one _ _
  have E := Lib.hid (chain E.out b)
  have BX := Lib.hid (BX.out.cons 3 (-2) 1)
  rw [← hu] at BX
  rw [← hu]
  obtain ⟨g6, hg6⟩ : ∃ g6, g6 = y.heap.size := ⟨_, rfl⟩
  rw [← hg6] at BX ⊢
  clear hu b hg6
  go_wp2_with fail
  refine (HV.out _ _ _ _).mono ?_
  rintro e y ⟨rfl, b⟩
  have E := Lib.hid (chain E.out b)
  have BX := Lib.hid (BX.out.below b)
  clear b
  go_wp2_with fail
  refine (HV.out _ _ _ _).mono ?_
  rintro e y ⟨rfl, b⟩
  have E := Lib.hid (chain E.out b)
  have BX := Lib.hid (BX.out.below b)
  clear b
  go_wp2_with fail
  refine (K10.out _).mono ?_
  rintro e y ⟨rfl, b⟩
  have E := Lib.hid (chain E.out b)
  have BX := Lib.hid (BX.out.below b)
  clear b
  go_upto_region 16 with (fail)
  obtain ⟨u, hu⟩ : ∃ u : World, u = y.alloc (.cells #[.int .i64 5, .int .i64 (-5), .int .i64 2] 23) := ⟨_, rfl⟩
  have b : Below y.heap.size y u := by rw [hu]; exact below_one _ _
  have E := Lib.hid (chain E.out b)
  have BX := Lib.hid (BX.out.cons 5 (-5) 2)
  rw [← hu] at BX
  rw [← hu]
  obtain ⟨g7, hg7⟩ : ∃ g7, g7 = y.heap.size := ⟨_, rfl⟩
  rw [← hg7] at BX ⊢
  clear hu b hg7
  go_wp2_with fail
  refine (HV.out _ _ _ _).mono ?_
  rintro e y ⟨rfl, b⟩
  have E := Lib.hid (chain E.out b)
  have BX := Lib.hid (BX.out.below b)
  clear b
  go_wp2_with fail
  refine (HV.out _ _ _ _).mono ?_
  rintro e y ⟨rfl, b⟩
  have E := Lib.hid (chain E.out b)
  have BX := Lib.hid (BX.out.below b)
  clear b
  go_wp2_with fail
  refine (HV.out _ _ _ _).mono ?_
  rintro e y ⟨rfl, b⟩
  have E := Lib.hid (chain E.out b)
  have BX := Lib.hid (BX.out.below b)
  clear b
  go_wp2_with fail
  refine (K11.out _).mono ?_
  rintro e y ⟨rfl, b⟩
  have E := Lib.hid (chain E.out b)
  have BX := Lib.hid (BX.out.below b)
  clear b
  go_wp2_with fail
  refine (HV.out _ _ _ _).mono ?_
  rintro e y ⟨rfl, b⟩
  have E := Lib.hid (chain E.out b)
  have BX := Lib.hid (BX.out.below b)
  clear b
  go_wp2_with fail
  refine (HV.out _ _ _ _).mono ?_
  rintro e y ⟨rfl, b⟩
  have E := Lib.hid (chain E.out b)
  have BX := Lib.hid (BX.out.below b)
  clear b
  go_wp2_with fail
  refine (HV.out _ _ _ _).mono ?_
  rintro e y ⟨rfl, b⟩
  have E := Lib.hid (chain E.out b)
  have BX := Lib.hid (BX.out.below b)
  clear b
  go_wp2_with fail
  refine (K12.out _).mono ?_
  rintro e y ⟨rfl, b⟩
  have E := Lib.hid (chain E.out b)
  have BX := Lib.hid (BX.out.below b)
  clear b
  go_wp2_with fail
  refine (HV.out _ _ _ _).mono ?_
  rintro e y ⟨rfl, b⟩
  have E := Lib.hid (chain E.out b)
  have BX := Lib.hid (BX.out.below b)
  clear b
  go_wp2_with fail
  refine (HV.out _ _ _ _).mono ?_
  rintro e y ⟨rfl, b⟩
  have E := Lib.hid (chain E.out b)
  have BX := Lib.hid (BX.out.below b)
  clear b
  go_wp2_with fail
  obtain ⟨u, hu⟩ : ∃ u : World, u = y.alloc (.cells #[.int .i64 1, .int .i64 5, .int .i64 0, .int .i64 2, .int .i64 (-3), .int .i64 4] 23) := ⟨_, rfl⟩
  have hr : Hid (Rv u (.slice (some ⟨y.heap.size, 0, none⟩) 2 2) [(1, 5, 0), (2, -3, 4)]) := by rw [hu]; exact rv2 (by simp [go_sem])
  have b : Below y.heap.size y u := by rw [hu]; exact below_one _ _
  have E := Lib.hid (chain E.out b)
  have BX := Lib.hid (BX.out.below b)
  rw [← hu]
  clear hu b
  refine (KB.out _ _ hr.out).mono ?_
  rintro e y ⟨rfl, b⟩
  have E := Lib.hid (chain E.out b)
  have BX := Lib.hid (BX.out.below b)
  clear b hr
  go_upto_region 19 with (fail)
  obtain ⟨u, hu⟩ : ∃ u : World, u = y.alloc (.cells #[.int .i64 1, .int .i64 (-3), .int .i64 0] 23) := ⟨_, rfl⟩
  have b : Below y.heap.size y u := by rw [hu]; exact below_one _ _
  have E := Lib.hid (chain E.out b)
  have BX := Lib.hid (BX.out.cons 1 (-3) 0)
  rw [← hu] at BX
  have hs : y.heap.size + 1 = u.heap.size := by rw [hu]; simp
  rw [← hu, hs]
  obtain ⟨g8, hg8⟩ : ∃ g, g = y.heap.size := ⟨_, rfl⟩
  rw [← hg8] at BX ⊢
  clear hu b hg8 hs
  obtain ⟨t, ht⟩ : ∃ t : World, t = u.alloc (.cells #[.int .i64 2, .int .i64 5, .int .i64 4] 23) := ⟨_, rfl⟩
  have b : Below u.heap.size u t := by rw [ht]; exact below_one _ _
  have E := Lib.hid (chain E.out b)
  have BX := Lib.hid (BX.out.cons 2 5 4)
  rw [← ht] at BX
  rw [← ht]
  obtain ⟨g9, hg9⟩ : ∃ g, g = u.heap.size := ⟨_, rfl⟩
  rw [← hg9] at BX ⊢
  clear ht b hg9
  obtain ⟨cg60, cg61, cg62⟩ := BX.out (g6, (3, -2, 1)) (by simp)
  obtain ⟨cg70, cg71, cg72⟩ := BX.out (g7, (5, -5, 2)) (by simp)
  obtain ⟨cg80, cg81, cg82⟩ := BX.out (g8, (1, -3, 0)) (by simp)
  obtain ⟨cg90, cg91, cg92⟩ := BX.out (g9, (2, 5, 4)) (by simp)
  go_region_held3 (fun W' => W'.cell? ⟨g6, 0, none⟩ = some (.int .i64 3) ∧ W'.cell? ⟨g6, 1, none⟩ = some (.int .i64 (-2)) ∧ W'.cell? ⟨g6, 2, none⟩ = some (.int .i64 1) ∧ W'.cell? ⟨g7, 0, none⟩ = some (.int .i64 5) ∧ W'.cell? ⟨g7, 1, none⟩ = some (.int .i64 (-5)) ∧ W'.cell? ⟨g7, 2, none⟩ = some (.int .i64 2) ∧ W'.cell? ⟨g8, 0, none⟩ = some (.int .i64 1) ∧ W'.cell? ⟨g8, 1, none⟩ = some (.int .i64 (-3)) ∧ W'.cell? ⟨g8, 2, none⟩ = some (.int .i64 0) ∧ W'.cell? ⟨g9, 0, none⟩ = some (.int .i64 2) ∧ W'.cell? ⟨g9, 1, none⟩ = some (.int .i64 5) ∧ W'.cell? ⟨g9, 2, none⟩ = some (.int .i64 4)) (go_keep)
    (first
      | (go_at_call 42; (with_reducible refine (HV.out _ _ _ _).mono ?_); rintro e y ⟨rfl, b⟩; (try (have b := undrew b)); have E := Lib.hid (chain E.out b); have BX := Lib.hid (BX.out.below b); clear b; obtain ⟨cg60, cg61, cg62⟩ := BX.out (g6, (3, -2, 1)) (by simp); obtain ⟨cg70, cg71, cg72⟩ := BX.out (g7, (5, -5, 2)) (by simp); obtain ⟨cg80, cg81, cg82⟩ := BX.out (g8, (1, -3, 0)) (by simp); obtain ⟨cg90, cg91, cg92⟩ := BX.out (g9, (2, 5, 4)) (by simp))
      | fail)
  go_wp2
  go_ret
  exact ⟨rfl, by first | exact E.out | exact E.out.drew⟩
end Go.Proofs.Ytdicbeaocedkmaa
