/- VectorProducts: the walk over what its calls give. -/
import Derived.Test.YtdicbeaocedkmaaVz
set_option linter.all false
namespace Go.Proofs.Ytdicbeaocedkmaa
open Go.RowKit

set_option maxRecDepth 100000 in
set_option maxHeartbeats 4000000 in
theorem prod_a (x1 x2 x3 y1 y2 y3 : Int) 
    (H1 : ∀ w, Calls Try.prog 24 #[vv x1 x2 x3, vv y1 y2 y3] w (Ret (.tuple #[.int .i64 0, .int .i64 2]) w))
    (H2 : ∀ w, Calls Try.prog 25 #[vv x1 x2 x3, vv y1 y2 y3] w (Ret (.tuple #[vv 0 0 0, .int .i64 2]) w))
    (H3 : ∀ w, Calls Try.prog 26 #[vv x1 x2 x3] w (Ret (.tuple #[.int .i64 0, .int .i64 2]) w))
    (H4 : ∀ w, Calls Try.prog 27 #[vv x1 x2 x3, vv y1 y2 y3] w (Ret (.tuple #[.int .i64 0, .int .i64 2]) w))
    (V0 : ∀ w, Calls Try.prog 11 #[vv x1 x2 x3] w (Ret (.bool false) w)) (w : World) :
    Calls Try.prog 5 #[vv x1 x2 x3, vv y1 y2 y3] w (Ret (.bool true) w) := by
  have H1 := Lib.hid H1
  have H2 := Lib.hid H2
  have H3 := Lib.hid H3
  have H4 := Lib.hid H4
  have V0 := Lib.hid V0
  have HK := Lib.hid known_true
  have E := Lib.hid (Below.refl w.heap.size w)
  have BX := Lib.hid (Bxs.nil w)
  have p0 : ∀ w, (binOp .eql 23 (.agg #[.int .i64 0, .int .i64 0, .int .i64 0]) (.agg #[.int .i64 0, .int .i64 0, .int .i64 0])).run Try.prog w = .ok (.bool true) w := fun w => eq_vec w 0 0 0 0 0 0
  go_enter Try.func5, Try.ntmps5
  go_upto_region 1 with (fail)
  obtain ⟨u0, hu⟩ : ∃ u0 : World, u0 = w.alloc (.cells #[.int .i64 x1, .int .i64 x2, .int .i64 x3] 23) := ⟨_, rfl⟩
  have b : Below w.heap.size w u0 := by rw [hu]; exact below_one _ _
  have E := Lib.hid (chain E.out b)
  have BX := Lib.hid (BX.out.cons x1 x2 x3)
  rw [← hu] at BX
  have hs : w.heap.size + 1 = u0.heap.size := by rw [hu]; simp
  rw [← hu]
  rw [hs]
  obtain ⟨ga, hga⟩ : ∃ ga, ga = w.heap.size := ⟨_, rfl⟩
  rw [← hga] at BX ⊢
  clear hu b hga hs
  obtain ⟨u1, hu⟩ : ∃ u1 : World, u1 = u0.alloc (.cells #[.int .i64 y1, .int .i64 y2, .int .i64 y3] 23) := ⟨_, rfl⟩
  have b : Below u0.heap.size u0 u1 := by rw [hu]; exact below_one _ _
  have E := Lib.hid (chain E.out b)
  have BX := Lib.hid (BX.out.cons y1 y2 y3)
  rw [← hu] at BX
  rw [← hu]
  obtain ⟨gb, hgb⟩ : ∃ gb, gb = u0.heap.size := ⟨_, rfl⟩
  rw [← hgb] at BX ⊢
  clear hu b hgb
  obtain ⟨cga0, cga1, cga2⟩ := BX.out (ga, (x1, x2, x3)) (by simp)
  obtain ⟨cgb0, cgb1, cgb2⟩ := BX.out (gb, (y1, y2, y3)) (by simp)
  go_wp2_with fail
  refine (H1.out _).mono ?_
  rintro e y ⟨rfl, b⟩
  have E := Lib.hid (chain E.out b)
  have BX := Lib.hid (BX.out.below b)
  clear b cga0 cga1 cga2 cgb0 cgb1 cgb2
  obtain ⟨cga0, cga1, cga2⟩ := BX.out (ga, (x1, x2, x3)) (by simp)
  obtain ⟨cgb0, cgb1, cgb2⟩ := BX.out (gb, (y1, y2, y3)) (by simp)
  go_wp2_with fail
  refine (H2.out _).mono ?_
  rintro e y ⟨rfl, b⟩
  have E := Lib.hid (chain E.out b)
  have BX := Lib.hid (BX.out.below b)
  clear b cga0 cga1 cga2 cgb0 cgb1 cgb2
  go_upto_region 3 with (fail)
  obtain ⟨u, hu⟩ : ∃ u : World, u = y.alloc (.cells #[.int .i64 0, .int .i64 0, .int .i64 0] 23) := ⟨_, rfl⟩
  have b : Below y.heap.size y u := by rw [hu]; exact below_one _ _
  have E := Lib.hid (chain E.out b)
  have BX := Lib.hid (BX.out.cons 0 0 0)
  rw [← hu] at BX
  rw [← hu]
  obtain ⟨g0, hg0⟩ : ∃ g0, g0 = y.heap.size := ⟨_, rfl⟩
  rw [← hg0] at BX ⊢
  clear hu b hg0
  obtain ⟨cga0, cga1, cga2⟩ := BX.out (ga, (x1, x2, x3)) (by simp)
  go_wp2_with fail
  refine (H3.out _).mono ?_
  rintro e y ⟨rfl, b⟩
  have E := Lib.hid (chain E.out b)
  have BX := Lib.hid (BX.out.below b)
  clear b cga0 cga1 cga2
  obtain ⟨cga0, cga1, cga2⟩ := BX.out (ga, (x1, x2, x3)) (by simp)
  obtain ⟨cgb0, cgb1, cgb2⟩ := BX.out (gb, (y1, y2, y3)) (by simp)
  go_wp2_with fail
  refine (H4.out _).mono ?_
  rintro e y ⟨rfl, b⟩
  have E := Lib.hid (chain E.out b)
  have BX := Lib.hid (BX.out.below b)
  clear b cga0 cga1 cga2 cgb0 cgb1 cgb2
  obtain ⟨cga0, cga1, cga2⟩ := BX.out (ga, (x1, x2, x3)) (by simp)
  go_wp2_with fail
  refine (V0.out _).mono ?_
  rintro e y ⟨rfl, b⟩
  have E := Lib.hid (chain E.out b)
  have BX := Lib.hid (BX.out.below b)
  clear b cga0 cga1 cga2
  obtain ⟨cga0, cga1, cga2⟩ := BX.out (ga, (x1, x2, x3)) (by simp)
  go_wp2_with fail
  refine (V0.out _).mono ?_
  rintro e y ⟨rfl, b⟩
  have E := Lib.hid (chain E.out b)
  have BX := Lib.hid (BX.out.below b)
  clear b cga0 cga1 cga2
  obtain ⟨cg00, cg01, cg02⟩ := BX.out (g0, (0, 0, 0)) (by simp)
  go_wp2_with fail
  refine (HK.out _).mono ?_
  rintro e y ⟨rfl, b⟩
  have E := Lib.hid (chain E.out b)
  have BX := Lib.hid (BX.out.below b)
  clear b cg00 cg01 cg02
  go_wp2
  go_ret
  exact ⟨rfl, by first | exact E.out | exact E.out.drew⟩

set_option maxRecDepth 100000 in
set_option maxHeartbeats 4000000 in
theorem prod_b (x1 x2 x3 y1 y2 y3 l : Int) 
    (H1 : ∀ w, Calls Try.prog 24 #[vv x1 x2 x3, vv y1 y2 y3] w (Ret (.tuple #[.int .i64 0, .int .i64 2]) w))
    (H2 : ∀ w, Calls Try.prog 25 #[vv x1 x2 x3, vv y1 y2 y3] w (Ret (.tuple #[vv 0 0 0, .int .i64 2]) w))
    (H3 : ∀ w, Calls Try.prog 26 #[vv x1 x2 x3] w (Ret (.tuple #[.int .i64 l, .int .i64 0]) w))
    (H4 : ∀ w, Calls Try.prog 27 #[vv x1 x2 x3, vv y1 y2 y3] w (Ret (.tuple #[.int .i64 0, .int .i64 2]) w))
    (V0 : ∀ w, Calls Try.prog 11 #[vv x1 x2 x3] w (Ret (.bool true) w))
    (V1 : ∀ w, Calls Try.prog 11 #[vv y1 y2 y3] w (Ret (.bool false) w))
    (H5 : ∀ w, Calls Try.prog 28 #[vv x1 x2 x3, vv x1 x2 x3] w (Ret (.int .i64 l) w)) (w : World) :
    Calls Try.prog 5 #[vv x1 x2 x3, vv y1 y2 y3] w (Ret (.bool true) w) := by
  have H1 := Lib.hid H1
  have H2 := Lib.hid H2
  have H3 := Lib.hid H3
  have H4 := Lib.hid H4
  have V0 := Lib.hid V0
  have V1 := Lib.hid V1
  have H5 := Lib.hid H5
  have HK := Lib.hid known_true
  have E := Lib.hid (Below.refl w.heap.size w)
  have BX := Lib.hid (Bxs.nil w)
  have p0 : ∀ w, (binOp .eql 23 (.agg #[.int .i64 0, .int .i64 0, .int .i64 0]) (.agg #[.int .i64 0, .int .i64 0, .int .i64 0])).run Try.prog w = .ok (.bool true) w := fun w => eq_vec w 0 0 0 0 0 0
  go_enter Try.func5, Try.ntmps5
  go_upto_region 1 with (fail)
  obtain ⟨u0, hu⟩ : ∃ u0 : World, u0 = w.alloc (.cells #[.int .i64 x1, .int .i64 x2, .int .i64 x3] 23) := ⟨_, rfl⟩
  have b : Below w.heap.size w u0 := by rw [hu]; exact below_one _ _
  have E := Lib.hid (chain E.out b)
  have BX := Lib.hid (BX.out.cons x1 x2 x3)
  rw [← hu] at BX
  have hs : w.heap.size + 1 = u0.heap.size := by rw [hu]; simp
  rw [← hu]
  rw [hs]
  obtain ⟨ga, hga⟩ : ∃ ga, ga = w.heap.size := ⟨_, rfl⟩
  rw [← hga] at BX ⊢
  clear hu b hga hs
  obtain ⟨u1, hu⟩ : ∃ u1 : World, u1 = u0.alloc (.cells #[.int .i64 y1, .int .i64 y2, .int .i64 y3] 23) := ⟨_, rfl⟩
  have b : Below u0.heap.size u0 u1 := by rw [hu]; exact below_one _ _
  have E := Lib.hid (chain E.out b)
  have BX := Lib.hid (BX.out.cons y1 y2 y3)
  rw [← hu] at BX
  rw [← hu]
  obtain ⟨gb, hgb⟩ : ∃ gb, gb = u0.heap.size := ⟨_, rfl⟩
  rw [← hgb] at BX ⊢
  clear hu b hgb
  obtain ⟨cga0, cga1, cga2⟩ := BX.out (ga, (x1, x2, x3)) (by simp)
  obtain ⟨cgb0, cgb1, cgb2⟩ := BX.out (gb, (y1, y2, y3)) (by simp)
  go_wp2_with fail
  refine (H1.out _).mono ?_
  rintro e y ⟨rfl, b⟩
  have E := Lib.hid (chain E.out b)
  have BX := Lib.hid (BX.out.below b)
  clear b cga0 cga1 cga2 cgb0 cgb1 cgb2
  obtain ⟨cga0, cga1, cga2⟩ := BX.out (ga, (x1, x2, x3)) (by simp)
  obtain ⟨cgb0, cgb1, cgb2⟩ := BX.out (gb, (y1, y2, y3)) (by simp)
  go_wp2_with fail
  refine (H2.out _).mono ?_
  rintro e y ⟨rfl, b⟩
  have E := Lib.hid (chain E.out b)
  have BX := Lib.hid (BX.out.below b)
  clear b cga0 cga1 cga2 cgb0 cgb1 cgb2
  go_upto_region 3 with (fail)
  obtain ⟨u, hu⟩ : ∃ u : World, u = y.alloc (.cells #[.int .i64 0, .int .i64 0, .int .i64 0] 23) := ⟨_, rfl⟩
  have b : Below y.heap.size y u := by rw [hu]; exact below_one _ _
  have E := Lib.hid (chain E.out b)
  have BX := Lib.hid (BX.out.cons 0 0 0)
  rw [← hu] at BX
  rw [← hu]
  obtain ⟨g0, hg0⟩ : ∃ g0, g0 = y.heap.size := ⟨_, rfl⟩
  rw [← hg0] at BX ⊢
  clear hu b hg0
  obtain ⟨cga0, cga1, cga2⟩ := BX.out (ga, (x1, x2, x3)) (by simp)
  go_wp2_with fail
  refine (H3.out _).mono ?_
  rintro e y ⟨rfl, b⟩
  have E := Lib.hid (chain E.out b)
  have BX := Lib.hid (BX.out.below b)
  clear b cga0 cga1 cga2
  obtain ⟨cga0, cga1, cga2⟩ := BX.out (ga, (x1, x2, x3)) (by simp)
  obtain ⟨cgb0, cgb1, cgb2⟩ := BX.out (gb, (y1, y2, y3)) (by simp)
  go_wp2_with fail
  refine (H4.out _).mono ?_
  rintro e y ⟨rfl, b⟩
  have E := Lib.hid (chain E.out b)
  have BX := Lib.hid (BX.out.below b)
  clear b cga0 cga1 cga2 cgb0 cgb1 cgb2
  obtain ⟨cga0, cga1, cga2⟩ := BX.out (ga, (x1, x2, x3)) (by simp)
  go_wp2_with fail
  refine (V0.out _).mono ?_
  rintro e y ⟨rfl, b⟩
  have E := Lib.hid (chain E.out b)
  have BX := Lib.hid (BX.out.below b)
  clear b cga0 cga1 cga2
  obtain ⟨cga0, cga1, cga2⟩ := BX.out (ga, (x1, x2, x3)) (by simp)
  go_wp2_with fail
  refine (H5.out _).mono ?_
  rintro e y ⟨rfl, b⟩
  have E := Lib.hid (chain E.out b)
  have BX := Lib.hid (BX.out.below b)
  clear b cga0 cga1 cga2
  obtain ⟨cga0, cga1, cga2⟩ := BX.out (ga, (x1, x2, x3)) (by simp)
  go_wp2_with fail
  refine (V0.out _).mono ?_
  rintro e y ⟨rfl, b⟩
  have E := Lib.hid (chain E.out b)
  have BX := Lib.hid (BX.out.below b)
  clear b cga0 cga1 cga2
  obtain ⟨cgb0, cgb1, cgb2⟩ := BX.out (gb, (y1, y2, y3)) (by simp)
  go_wp2_with fail
  refine (V1.out _).mono ?_
  rintro e y ⟨rfl, b⟩
  have E := Lib.hid (chain E.out b)
  have BX := Lib.hid (BX.out.below b)
  clear b cgb0 cgb1 cgb2
  obtain ⟨cg00, cg01, cg02⟩ := BX.out (g0, (0, 0, 0)) (by simp)
  go_wp2_with fail
  refine (HK.out _).mono ?_
  rintro e y ⟨rfl, b⟩
  have E := Lib.hid (chain E.out b)
  have BX := Lib.hid (BX.out.below b)
  clear b cg00 cg01 cg02
  go_wp2
  go_ret
  exact ⟨rfl, by first | exact E.out | exact E.out.drew⟩

set_option maxRecDepth 100000 in
set_option maxHeartbeats 4000000 in
theorem prod_ok (x1 x2 x3 y1 y2 y3 l d m p1 p2 p3 : Int) 
    (H1 : ∀ w, Calls Try.prog 24 #[vv x1 x2 x3, vv y1 y2 y3] w (Ret (.tuple #[.int .i64 d, .int .i64 0]) w))
    (H2 : ∀ w, Calls Try.prog 25 #[vv x1 x2 x3, vv y1 y2 y3] w (Ret (.tuple #[vv p1 p2 p3, .int .i64 0]) w))
    (H3 : ∀ w, Calls Try.prog 26 #[vv x1 x2 x3] w (Ret (.tuple #[.int .i64 l, .int .i64 0]) w))
    (H4 : ∀ w, Calls Try.prog 27 #[vv x1 x2 x3, vv y1 y2 y3] w (Ret (.tuple #[.int .i64 m, .int .i64 0]) w))
    (V0 : ∀ w, Calls Try.prog 11 #[vv x1 x2 x3] w (Ret (.bool true) w))
    (V1 : ∀ w, Calls Try.prog 11 #[vv y1 y2 y3] w (Ret (.bool true) w))
    (H5 : ∀ w, Calls Try.prog 28 #[vv x1 x2 x3, vv x1 x2 x3] w (Ret (.int .i64 l) w))
    (H6 : ∀ w, Calls Try.prog 28 #[vv x1 x2 x3, vv y1 y2 y3] w (Ret (.int .i64 d) w))
    (H7 : ∀ w, Calls Try.prog 29 #[vv x1 x2 x3, vv y1 y2 y3] w (Ret (.agg #[.int .i64 p1, .int .i64 p2, .int .i64 p3]) w))
    (H8 : ∀ w, Calls Try.prog 30 #[vv x1 x2 x3, vv y1 y2 y3] w (Ret (.int .i64 m) w)) (w : World) :
    Calls Try.prog 5 #[vv x1 x2 x3, vv y1 y2 y3] w (Ret (.bool true) w) := by
  have H1 := Lib.hid H1
  have H2 := Lib.hid H2
  have H3 := Lib.hid H3
  have H4 := Lib.hid H4
  have V0 := Lib.hid V0
  have V1 := Lib.hid V1
  have H5 := Lib.hid H5
  have H6 := Lib.hid H6
  have H7 := Lib.hid H7
  have H8 := Lib.hid H8
  have HK := Lib.hid known_true
  have E := Lib.hid (Below.refl w.heap.size w)
  have BX := Lib.hid (Bxs.nil w)
  have a1 : ∀ w, (binOp .eql 23 (.agg #[.int .i64 p1, .int .i64 p2, .int .i64 p3]) (.agg #[.int .i64 p1, .int .i64 p2, .int .i64 p3])).run Try.prog w = .ok (.bool true) w := fun w => by have := eq_vec w p1 p2 p3 p1 p2 p3; rw [vE_refl] at this; exact this
  go_enter Try.func5, Try.ntmps5
  go_upto_region 1 with (fail)
  obtain ⟨u0, hu⟩ : ∃ u0 : World, u0 = w.alloc (.cells #[.int .i64 x1, .int .i64 x2, .int .i64 x3] 23) := ⟨_, rfl⟩
  have b : Below w.heap.size w u0 := by rw [hu]; exact below_one _ _
  have E := Lib.hid (chain E.out b)
  have BX := Lib.hid (BX.out.cons x1 x2 x3)
  rw [← hu] at BX
  have hs : w.heap.size + 1 = u0.heap.size := by rw [hu]; simp
  rw [← hu]
  rw [hs]
  obtain ⟨ga, hga⟩ : ∃ ga, ga = w.heap.size := ⟨_, rfl⟩
  rw [← hga] at BX ⊢
  clear hu b hga hs
  obtain ⟨u1, hu⟩ : ∃ u1 : World, u1 = u0.alloc (.cells #[.int .i64 y1, .int .i64 y2, .int .i64 y3] 23) := ⟨_, rfl⟩
  have b : Below u0.heap.size u0 u1 := by rw [hu]; exact below_one _ _
  have E := Lib.hid (chain E.out b)
  have BX := Lib.hid (BX.out.cons y1 y2 y3)
  rw [← hu] at BX
  rw [← hu]
  obtain ⟨gb, hgb⟩ : ∃ gb, gb = u0.heap.size := ⟨_, rfl⟩
  rw [← hgb] at BX ⊢
  clear hu b hgb
  obtain ⟨cga0, cga1, cga2⟩ := BX.out (ga, (x1, x2, x3)) (by simp)
  obtain ⟨cgb0, cgb1, cgb2⟩ := BX.out (gb, (y1, y2, y3)) (by simp)
  go_wp2_with fail
  refine (H1.out _).mono ?_
  rintro e y ⟨rfl, b⟩
  have E := Lib.hid (chain E.out b)
  have BX := Lib.hid (BX.out.below b)
  clear b cga0 cga1 cga2 cgb0 cgb1 cgb2
  obtain ⟨cga0, cga1, cga2⟩ := BX.out (ga, (x1, x2, x3)) (by simp)
  obtain ⟨cgb0, cgb1, cgb2⟩ := BX.out (gb, (y1, y2, y3)) (by simp)
  go_wp2_with fail
  refine (H2.out _).mono ?_
  rintro e y ⟨rfl, b⟩
  have E := Lib.hid (chain E.out b)
  have BX := Lib.hid (BX.out.below b)
  clear b cga0 cga1 cga2 cgb0 cgb1 cgb2
  go_upto_region 3 with (fail)
  obtain ⟨u, hu⟩ : ∃ u : World, u = y.alloc (.cells #[.int .i64 p1, .int .i64 p2, .int .i64 p3] 23) := ⟨_, rfl⟩
  have b : Below y.heap.size y u := by rw [hu]; exact below_one _ _
  have E := Lib.hid (chain E.out b)
  have BX := Lib.hid (BX.out.cons p1 p2 p3)
  rw [← hu] at BX
  rw [← hu]
  obtain ⟨g0, hg0⟩ : ∃ g0, g0 = y.heap.size := ⟨_, rfl⟩
  rw [← hg0] at BX ⊢
  clear hu b hg0
  obtain ⟨cga0, cga1, cga2⟩ := BX.out (ga, (x1, x2, x3)) (by simp)
  go_wp2_with fail
  refine (H3.out _).mono ?_
  rintro e y ⟨rfl, b⟩
  have E := Lib.hid (chain E.out b)
  have BX := Lib.hid (BX.out.below b)
  clear b cga0 cga1 cga2
  obtain ⟨cga0, cga1, cga2⟩ := BX.out (ga, (x1, x2, x3)) (by simp)
  obtain ⟨cgb0, cgb1, cgb2⟩ := BX.out (gb, (y1, y2, y3)) (by simp)
  go_wp2_with fail
  refine (H4.out _).mono ?_
  rintro e y ⟨rfl, b⟩
  have E := Lib.hid (chain E.out b)
  have BX := Lib.hid (BX.out.below b)
  clear b cga0 cga1 cga2 cgb0 cgb1 cgb2
  obtain ⟨cga0, cga1, cga2⟩ := BX.out (ga, (x1, x2, x3)) (by simp)
  go_wp2_with fail
  refine (V0.out _).mono ?_
  rintro e y ⟨rfl, b⟩
  have E := Lib.hid (chain E.out b)
  have BX := Lib.hid (BX.out.below b)
  clear b cga0 cga1 cga2
  obtain ⟨cga0, cga1, cga2⟩ := BX.out (ga, (x1, x2, x3)) (by simp)
  go_wp2_with fail
  refine (H5.out _).mono ?_
  rintro e y ⟨rfl, b⟩
  have E := Lib.hid (chain E.out b)
  have BX := Lib.hid (BX.out.below b)
  clear b cga0 cga1 cga2
  obtain ⟨cga0, cga1, cga2⟩ := BX.out (ga, (x1, x2, x3)) (by simp)
  go_wp2_with fail
  refine (V0.out _).mono ?_
  rintro e y ⟨rfl, b⟩
  have E := Lib.hid (chain E.out b)
  have BX := Lib.hid (BX.out.below b)
  clear b cga0 cga1 cga2
  obtain ⟨cgb0, cgb1, cgb2⟩ := BX.out (gb, (y1, y2, y3)) (by simp)
  go_wp2_with fail
  refine (V1.out _).mono ?_
  rintro e y ⟨rfl, b⟩
  have E := Lib.hid (chain E.out b)
  have BX := Lib.hid (BX.out.below b)
  clear b cgb0 cgb1 cgb2
  go_upto_region 12 with (fail)
  obtain ⟨cga0, cga1, cga2⟩ := BX.out (ga, (x1, x2, x3)) (by simp)
  obtain ⟨cgb0, cgb1, cgb2⟩ := BX.out (gb, (y1, y2, y3)) (by simp)
  obtain ⟨cg00, cg01, cg02⟩ := BX.out (g0, (p1, p2, p3)) (by simp)
  go_region_held3 (fun W' => W'.cell? ⟨ga, 0, none⟩ = some (.int .i64 x1) ∧ W'.cell? ⟨ga, 1, none⟩ = some (.int .i64 x2) ∧ W'.cell? ⟨ga, 2, none⟩ = some (.int .i64 x3) ∧ W'.cell? ⟨gb, 0, none⟩ = some (.int .i64 y1) ∧ W'.cell? ⟨gb, 1, none⟩ = some (.int .i64 y2) ∧ W'.cell? ⟨gb, 2, none⟩ = some (.int .i64 y3) ∧ W'.cell? ⟨g0, 0, none⟩ = some (.int .i64 p1) ∧ W'.cell? ⟨g0, 1, none⟩ = some (.int .i64 p2) ∧ W'.cell? ⟨g0, 2, none⟩ = some (.int .i64 p3)) (go_keep)
    (first
      | (go_at_call 28; (with_reducible refine (H6.out _).mono ?_); rintro e y ⟨rfl, b⟩; (try (have b := undrew b)); have E := Lib.hid (chain E.out b); have BX := Lib.hid (BX.out.below b); clear b; obtain ⟨cga0, cga1, cga2⟩ := BX.out (ga, (x1, x2, x3)) (by simp); obtain ⟨cgb0, cgb1, cgb2⟩ := BX.out (gb, (y1, y2, y3)) (by simp); obtain ⟨cg00, cg01, cg02⟩ := BX.out (g0, (p1, p2, p3)) (by simp))
      | (go_at_call 29; (with_reducible refine (H7.out _).mono ?_); rintro e y ⟨rfl, b⟩; (try (have b := undrew b)); have E := Lib.hid (chain E.out b); have BX := Lib.hid (BX.out.below b); clear b; obtain ⟨cga0, cga1, cga2⟩ := BX.out (ga, (x1, x2, x3)) (by simp); obtain ⟨cgb0, cgb1, cgb2⟩ := BX.out (gb, (y1, y2, y3)) (by simp); obtain ⟨cg00, cg01, cg02⟩ := BX.out (g0, (p1, p2, p3)) (by simp))
      | (go_at_call 30; (with_reducible refine (H8.out _).mono ?_); rintro e y ⟨rfl, b⟩; (try (have b := undrew b)); have E := Lib.hid (chain E.out b); have BX := Lib.hid (BX.out.below b); clear b; obtain ⟨cga0, cga1, cga2⟩ := BX.out (ga, (x1, x2, x3)) (by simp); obtain ⟨cgb0, cgb1, cgb2⟩ := BX.out (gb, (y1, y2, y3)) (by simp); obtain ⟨cg00, cg01, cg02⟩ := BX.out (g0, (p1, p2, p3)) (by simp))
      | (go_at_call 16; (with_reducible refine (HK.out _).mono ?_); rintro e y ⟨rfl, b⟩; (try (have b := undrew b)); have E := Lib.hid (chain E.out b); have BX := Lib.hid (BX.out.below b); clear b; obtain ⟨cga0, cga1, cga2⟩ := BX.out (ga, (x1, x2, x3)) (by simp); obtain ⟨cgb0, cgb1, cgb2⟩ := BX.out (gb, (y1, y2, y3)) (by simp); obtain ⟨cg00, cg01, cg02⟩ := BX.out (g0, (p1, p2, p3)) (by simp))
      | fail)
  go_wp2
  go_ret
  exact ⟨rfl, by first | exact E.out | exact E.out.drew⟩
end Go.Proofs.Ytdicbeaocedkmaa
