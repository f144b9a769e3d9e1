/- VectorTurn: the walk over what its calls give. -/
import Derived.Test.YtdicbeaocedkmaaVz
set_option linter.all false
namespace Go.Proofs.Ytdicbeaocedkmaa
open Go.RowKit

set_option maxRecDepth 100000 in
set_option maxHeartbeats 4000000 in
theorem turn_bada (x1 x2 x3 y1 y2 y3 z1 z2 z3 : Int) 
    (H1 : ∀ w, Calls Try.prog 33 #[vv x1 x2 x3, vv y1 y2 y3, vv z1 z2 z3] w (Ret (.tuple #[.int .i64 0, .int .i64 2]) w))
    (V0 : ∀ w, Calls Try.prog 11 #[vv x1 x2 x3] w (Ret (.bool false) w)) (w : World) :
    Calls Try.prog 7 #[vv x1 x2 x3, vv y1 y2 y3, vv z1 z2 z3] w (Ret (.bool true) w) := by
  have H1 := Lib.hid H1
  have V0 := Lib.hid V0
  have HK := Lib.hid known_true
  have E := Lib.hid (Below.refl w.heap.size w)
  have BX := Lib.hid (Bxs.nil w)
  go_enter Try.func7, Try.ntmps7
  go_upto_region 1 with (fail)
  obtain ⟨u0, hu⟩ : ∃ u0 : World, u0 = w.alloc (.cells #[.int .i64 x1, .int .i64 x2, .int .i64 x3] 23) := ⟨_, rfl⟩
  have b : Below w.heap.size w u0 := by rw [hu]; exact below_one _ _
  have E := Lib.hid (chain E.out b)
  have BX := Lib.hid (BX.out.cons x1 x2 x3)
  rw [← hu] at BX
  have hs : w.heap.size + 1 = u0.heap.size := by rw [hu]; simp
  rw [← hu]
  rw [hs]
  obtain ⟨ga, hga⟩ : ∃ ga, ga = w.heap.size := ⟨_, rfl⟩
  rw [← hga] at BX ⊢
  clear hu b hga hs
  obtain ⟨u1, hu⟩ : ∃ u1 : World, u1 = u0.alloc (.cells #[.int .i64 y1, .int .i64 y2, .int .i64 y3] 23) := ⟨_, rfl⟩
  have b : Below u0.heap.size u0 u1 := by rw [hu]; exact below_one _ _
  have E := Lib.hid (chain E.out b)
  have BX := Lib.hid (BX.out.cons y1 y2 y3)
  rw [← hu] at BX
  have hs : u0.heap.size + 1 = u1.heap.size := by rw [hu]; simp
  rw [← hu]
  rw [hs]
  obtain ⟨gb, hgb⟩ : ∃ gb, gb = u0.heap.size := ⟨_, rfl⟩
  rw [← hgb] at BX ⊢
  clear hu b hgb hs
  obtain ⟨u2, hu⟩ : ∃ u2 : World, u2 = u1.alloc (.cells #[.int .i64 z1, .int .i64 z2, .int .i64 z3] 23) := ⟨_, rfl⟩
  have b : Below u1.heap.size u1 u2 := by rw [hu]; exact below_one _ _
  have E := Lib.hid (chain E.out b)
  have BX := Lib.hid (BX.out.cons z1 z2 z3)
  rw [← hu] at BX
  rw [← hu]
  obtain ⟨gc, hgc⟩ : ∃ gc, gc = u1.heap.size := ⟨_, rfl⟩
  rw [← hgc] at BX ⊢
  clear hu b hgc
  obtain ⟨cga0, cga1, cga2⟩ := BX.out (ga, (x1, x2, x3)) (by simp)
  obtain ⟨cgb0, cgb1, cgb2⟩ := BX.out (gb, (y1, y2, y3)) (by simp)
  obtain ⟨cgc0, cgc1, cgc2⟩ := BX.out (gc, (z1, z2, z3)) (by simp)
  go_wp2_with fail
  refine (H1.out _).mono ?_
  rintro e y ⟨rfl, b⟩
  have E := Lib.hid (chain E.out b)
  have BX := Lib.hid (BX.out.below b)
  clear b cga0 cga1 cga2 cgb0 cgb1 cgb2 cgc0 cgc1 cgc2
  obtain ⟨cga0, cga1, cga2⟩ := BX.out (ga, (x1, x2, x3)) (by simp)
  go_wp2_with fail
  refine (V0.out _).mono ?_
  rintro e y ⟨rfl, b⟩
  have E := Lib.hid (chain E.out b)
  have BX := Lib.hid (BX.out.below b)
  clear b cga0 cga1 cga2
  go_wp2_with fail
  refine (HK.out _).mono ?_
  rintro e y ⟨rfl, b⟩
  have E := Lib.hid (chain E.out b)
  have BX := Lib.hid (BX.out.below b)
  clear b
  go_wp2
  go_ret
  exact ⟨rfl, by first | exact E.out | exact E.out.drew⟩

set_option maxRecDepth 100000 in
set_option maxHeartbeats 4000000 in
theorem turn_badb (x1 x2 x3 y1 y2 y3 z1 z2 z3 : Int) 
    (H1 : ∀ w, Calls Try.prog 33 #[vv x1 x2 x3, vv y1 y2 y3, vv z1 z2 z3] w (Ret (.tuple #[.int .i64 0, .int .i64 2]) w))
    (V0 : ∀ w, Calls Try.prog 11 #[vv x1 x2 x3] w (Ret (.bool true) w))
    (V1 : ∀ w, Calls Try.prog 11 #[vv y1 y2 y3] w (Ret (.bool false) w)) (w : World) :
    Calls Try.prog 7 #[vv x1 x2 x3, vv y1 y2 y3, vv z1 z2 z3] w (Ret (.bool true) w) := by
  have H1 := Lib.hid H1
  have V0 := Lib.hid V0
  have V1 := Lib.hid V1
  have HK := Lib.hid known_true
  have E := Lib.hid (Below.refl w.heap.size w)
  have BX := Lib.hid (Bxs.nil w)
  go_enter Try.func7, Try.ntmps7
  go_upto_region 1 with (fail)
  obtain ⟨u0, hu⟩ : ∃ u0 : World, u0 = w.alloc (.cells #[.int .i64 x1, .int .i64 x2, .int .i64 x3] 23) := ⟨_, rfl⟩
  have b : Below w.heap.size w u0 := by rw [hu]; exact below_one _ _
  have E := Lib.hid (chain E.out b)
  have BX := Lib.hid (BX.out.cons x1 x2 x3)
  rw [← hu] at BX
  have hs : w.heap.size + 1 = u0.heap.size := by rw [hu]; simp
  rw [← hu]
  rw [hs]
  obtain ⟨ga, hga⟩ : ∃ ga, ga = w.heap.size := ⟨_, rfl⟩
  rw [← hga] at BX ⊢
  clear hu b hga hs
  obtain ⟨u1, hu⟩ : ∃ u1 : World, u1 = u0.alloc (.cells #[.int .i64 y1, .int .i64 y2, .int .i64 y3] 23) := ⟨_, rfl⟩
  have b : Below u0.heap.size u0 u1 := by rw [hu]; exact below_one _ _
  have E := Lib.hid (chain E.out b)
  have BX := Lib.hid (BX.out.cons y1 y2 y3)
  rw [← hu] at BX
  have hs : u0.heap.size + 1 = u1.heap.size := by rw [hu]; simp
  rw [← hu]
  rw [hs]
  obtain ⟨gb, hgb⟩ : ∃ gb, gb = u0.heap.size := ⟨_, rfl⟩
  rw [← hgb] at BX ⊢
  clear hu b hgb hs
  obtain ⟨u2, hu⟩ : ∃ u2 : World, u2 = u1.alloc (.cells #[.int .i64 z1, .int .i64 z2, .int .i64 z3] 23) := ⟨_, rfl⟩
  have b : Below u1.heap.size u1 u2 := by rw [hu]; exact below_one _ _
  have E := Lib.hid (chain E.out b)
  have BX := Lib.hid (BX.out.cons z1 z2 z3)
  rw [← hu] at BX
  rw [← hu]
  obtain ⟨gc, hgc⟩ : ∃ gc, gc = u1.heap.size := ⟨_, rfl⟩
  rw [← hgc] at BX ⊢
  clear hu b hgc
  obtain ⟨cga0, cga1, cga2⟩ := BX.out (ga, (x1, x2, x3)) (by simp)
  obtain ⟨cgb0, cgb1, cgb2⟩ := BX.out (gb, (y1, y2, y3)) (by simp)
  obtain ⟨cgc0, cgc1, cgc2⟩ := BX.out (gc, (z1, z2, z3)) (by simp)
  go_wp2_with fail
  refine (H1.out _).mono ?_
  rintro e y ⟨rfl, b⟩
  have E := Lib.hid (chain E.out b)
  have BX := Lib.hid (BX.out.below b)
  clear b cga0 cga1 cga2 cgb0 cgb1 cgb2 cgc0 cgc1 cgc2
  obtain ⟨cga0, cga1, cga2⟩ := BX.out (ga, (x1, x2, x3)) (by simp)
  go_wp2_with fail
  refine (V0.out _).mono ?_
  rintro e y ⟨rfl, b⟩
  have E := Lib.hid (chain E.out b)
  have BX := Lib.hid (BX.out.below b)
  clear b cga0 cga1 cga2
  obtain ⟨cgb0, cgb1, cgb2⟩ := BX.out (gb, (y1, y2, y3)) (by simp)
  go_wp2_with fail
  refine (V1.out _).mono ?_
  rintro e y ⟨rfl, b⟩
  have E := Lib.hid (chain E.out b)
  have BX := Lib.hid (BX.out.below b)
  clear b cgb0 cgb1 cgb2
  go_wp2_with fail
  refine (HK.out _).mono ?_
  rintro e y ⟨rfl, b⟩
  have E := Lib.hid (chain E.out b)
  have BX := Lib.hid (BX.out.below b)
  clear b
  go_wp2
  go_ret
  exact ⟨rfl, by first | exact E.out | exact E.out.drew⟩

set_option maxRecDepth 100000 in
set_option maxHeartbeats 4000000 in
theorem turn_badc (x1 x2 x3 y1 y2 y3 z1 z2 z3 : Int) 
    (H1 : ∀ w, Calls Try.prog 33 #[vv x1 x2 x3, vv y1 y2 y3, vv z1 z2 z3] w (Ret (.tuple #[.int .i64 0, .int .i64 2]) w))
    (V0 : ∀ w, Calls Try.prog 11 #[vv x1 x2 x3] w (Ret (.bool true) w))
    (V1 : ∀ w, Calls Try.prog 11 #[vv y1 y2 y3] w (Ret (.bool true) w))
    (V2 : ∀ w, Calls Try.prog 11 #[vv z1 z2 z3] w (Ret (.bool false) w)) (w : World) :
    Calls Try.prog 7 #[vv x1 x2 x3, vv y1 y2 y3, vv z1 z2 z3] w (Ret (.bool true) w) := by
  have H1 := Lib.hid H1
  have V0 := Lib.hid V0
  have V1 := Lib.hid V1
  have V2 := Lib.hid V2
  have HK := Lib.hid known_true
  have E := Lib.hid (Below.refl w.heap.size w)
  have BX := Lib.hid (Bxs.nil w)
  go_enter Try.func7, Try.ntmps7
  go_upto_region 1 with (fail)
  obtain ⟨u0, hu⟩ : ∃ u0 : World, u0 = w.alloc (.cells #[.int .i64 x1, .int .i64 x2, .int .i64 x3] 23) := ⟨_, rfl⟩
  have b : Below w.heap.size w u0 := by rw [hu]; exact below_one _ _
  have E := Lib.hid (chain E.out b)
  have BX := Lib.hid (BX.out.cons x1 x2 x3)
  rw [← hu] at BX
  have hs : w.heap.size + 1 = u0.heap.size := by rw [hu]; simp
  rw [← hu]
  rw [hs]
  obtain ⟨ga, hga⟩ : ∃ ga, ga = w.heap.size := ⟨_, rfl⟩
  rw [← hga] at BX ⊢
  clear hu b hga hs
  obtain ⟨u1, hu⟩ : ∃ u1 : World, u1 = u0.alloc (.cells #[.int .i64 y1, .int .i64 y2, .int .i64 y3] 23) := ⟨_, rfl⟩
  have b : Below u0.heap.size u0 u1 := by rw [hu]; exact below_one _ _
  have E := Lib.hid (chain E.out b)
  have BX := Lib.hid (BX.out.cons y1 y2 y3)
  rw [← hu] at BX
  have hs : u0.heap.size + 1 = u1.heap.size := by rw [hu]; simp
  rw [← hu]
  rw [hs]
  obtain ⟨gb, hgb⟩ : ∃ gb, gb = u0.heap.size := ⟨_, rfl⟩
  rw [← hgb] at BX ⊢
  clear hu b hgb hs
  obtain ⟨u2, hu⟩ : ∃ u2 : World, u2 = u1.alloc (.cells #[.int .i64 z1, .int .i64 z2, .int .i64 z3] 23) := ⟨_, rfl⟩
  have b : Below u1.heap.size u1 u2 := by rw [hu]; exact below_one _ _
  have E := Lib.hid (chain E.out b)
  have BX := Lib.hid (BX.out.cons z1 z2 z3)
  rw [← hu] at BX
  rw [← hu]
  obtain ⟨gc, hgc⟩ : ∃ gc, gc = u1.heap.size := ⟨_, rfl⟩
  rw [← hgc] at BX ⊢
  clear hu b hgc
  obtain ⟨cga0, cga1, cga2⟩ := BX.out (ga, (x1, x2, x3)) (by simp)
  obtain ⟨cgb0, cgb1, cgb2⟩ := BX.out (gb, (y1, y2, y3)) (by simp)
  obtain ⟨cgc0, cgc1, cgc2⟩ := BX.out (gc, (z1, z2, z3)) (by simp)
  go_wp2_with fail
  refine (H1.out _).mono ?_
  rintro e y ⟨rfl, b⟩
  have E := Lib.hid (chain E.out b)
  have BX := Lib.hid (BX.out.below b)
  clear b cga0 cga1 cga2 cgb0 cgb1 cgb2 cgc0 cgc1 cgc2
  obtain ⟨cga0, cga1, cga2⟩ := BX.out (ga, (x1, x2, x3)) (by simp)
  go_wp2_with fail
  refine (V0.out _).mono ?_
  rintro e y ⟨rfl, b⟩
  have E := Lib.hid (chain E.out b)
  have BX := Lib.hid (BX.out.below b)
  clear b cga0 cga1 cga2
  obtain ⟨cgb0, cgb1, cgb2⟩ := BX.out (gb, (y1, y2, y3)) (by simp)
  go_wp2_with fail
  refine (V1.out _).mono ?_
  rintro e y ⟨rfl, b⟩
  have E := Lib.hid (chain E.out b)
  have BX := Lib.hid (BX.out.below b)
  clear b cgb0 cgb1 cgb2
  obtain ⟨cgc0, cgc1, cgc2⟩ := BX.out (gc, (z1, z2, z3)) (by simp)
  go_wp2_with fail
  refine (V2.out _).mono ?_
  rintro e y ⟨rfl, b⟩
  have E := Lib.hid (chain E.out b)
  have BX := Lib.hid (BX.out.below b)
  clear b cgc0 cgc1 cgc2
  go_wp2_with fail
  refine (HK.out _).mono ?_
  rintro e y ⟨rfl, b⟩
  have E := Lib.hid (chain E.out b)
  have BX := Lib.hid (BX.out.below b)
  clear b
  go_wp2
  go_ret
  exact ⟨rfl, by first | exact E.out | exact E.out.drew⟩

set_option maxRecDepth 100000 in
set_option maxHeartbeats 4000000 in
theorem turn_ok (x1 x2 x3 y1 y2 y3 z1 z2 z3 r : Int) 
    (H1 : ∀ w, Calls Try.prog 33 #[vv x1 x2 x3, vv y1 y2 y3, vv z1 z2 z3] w (Ret (.tuple #[.int .i64 r, .int .i64 0]) w))
    (V0 : ∀ w, Calls Try.prog 11 #[vv x1 x2 x3] w (Ret (.bool true) w))
    (V1 : ∀ w, Calls Try.prog 11 #[vv y1 y2 y3] w (Ret (.bool true) w))
    (V2 : ∀ w, Calls Try.prog 11 #[vv z1 z2 z3] w (Ret (.bool true) w))
    (H2 : ∀ w, Calls Try.prog 34 #[vv x1 x2 x3, vv y1 y2 y3, vv z1 z2 z3] w (Ret (.int .i64 r) w)) (w : World) :
    Calls Try.prog 7 #[vv x1 x2 x3, vv y1 y2 y3, vv z1 z2 z3] w (Ret (.bool true) w) := by
  have H1 := Lib.hid H1
  have V0 := Lib.hid V0
  have V1 := Lib.hid V1
  have V2 := Lib.hid V2
  have H2 := Lib.hid H2
  have HK := Lib.hid known_true
  have E := Lib.hid (Below.refl w.heap.size w)
  have BX := Lib.hid (Bxs.nil w)
  go_enter Try.func7, Try.ntmps7
  go_upto_region 1 with (fail)
  obtain ⟨u0, hu⟩ : ∃ u0 : World, u0 = w.alloc (.cells #[.int .i64 x1, .int .i64 x2, .int .i64 x3] 23) := ⟨_, rfl⟩
  have b : Below w.heap.size w u0 := by rw [hu]; exact below_one _ _
  have E := Lib.hid (chain E.out b)
  have BX := Lib.hid (BX.out.cons x1 x2 x3)
  rw [← hu] at BX
  have hs : w.heap.size + 1 = u0.heap.size := by rw [hu]; simp
  rw [← hu]
  rw [hs]
  obtain ⟨ga, hga⟩ : ∃ ga, ga = w.heap.size := ⟨_, rfl⟩
  rw [← hga] at BX ⊢
  clear hu b hga hs
  obtain ⟨u1, hu⟩ : ∃ u1 : World, u1 = u0.alloc (.cells #[.int .i64 y1, .int .i64 y2, .int .i64 y3] 23) := ⟨_, rfl⟩
  have b : Below u0.heap.size u0 u1 := by rw [hu]; exact below_one _ _
  have E := Lib.hid (chain E.out b)
  have BX := Lib.hid (BX.out.cons y1 y2 y3)
  rw [← hu] at BX
  have hs : u0.heap.size + 1 = u1.heap.size := by rw [hu]; simp
  rw [← hu]
  rw [hs]
  obtain ⟨gb, hgb⟩ : ∃ gb, gb = u0.heap.size := ⟨_, rfl⟩
  rw [← hgb] at BX ⊢
  clear hu b hgb hs
  obtain ⟨u2, hu⟩ : ∃ u2 : World, u2 = u1.alloc (.cells #[.int .i64 z1, .int .i64 z2, .int .i64 z3] 23) := ⟨_, rfl⟩
  have b : Below u1.heap.size u1 u2 := by rw [hu]; exact below_one _ _
  have E := Lib.hid (chain E.out b)
  have BX := Lib.hid (BX.out.cons z1 z2 z3)
  rw [← hu] at BX
  rw [← hu]
  obtain ⟨gc, hgc⟩ : ∃ gc, gc = u1.heap.size := ⟨_, rfl⟩
  rw [← hgc] at BX ⊢
  clear hu b hgc
  obtain ⟨cga0, cga1, cga2⟩ := BX.out (ga, (x1, x2, x3)) (by simp)
  obtain ⟨cgb0, cgb1, cgb2⟩ := BX.out (gb, (y1, y2, y3)) (by simp)
  obtain ⟨cgc0, cgc1, cgc2⟩ := BX.out (gc, (z1, z2, z3)) (by simp)
  go_wp2_with fail
  refine (H1.out _).mono ?_
  rintro e y ⟨rfl, b⟩
  have E := Lib.hid (chain E.out b)
  have BX := Lib.hid (BX.out.below b)
  clear b cga0 cga1 cga2 cgb0 cgb1 cgb2 cgc0 cgc1 cgc2
  obtain ⟨cga0, cga1, cga2⟩ := BX.out (ga, (x1, x2, x3)) (by simp)
  go_wp2_with fail
  refine (V0.out _).mono ?_
  rintro e y ⟨rfl, b⟩
  have E := Lib.hid (chain E.out b)
  have BX := Lib.hid (BX.out.below b)
  clear b cga0 cga1 cga2
  obtain ⟨cgb0, cgb1, cgb2⟩ := BX.out (gb, (y1, y2, y3)) (by simp)
  go_wp2_with fail
  refine (V1.out _).mono ?_
  rintro e y ⟨rfl, b⟩
  have E := Lib.hid (chain E.out b)
  have BX := Lib.hid (BX.out.below b)
  clear b cgb0 cgb1 cgb2
  obtain ⟨cgc0, cgc1, cgc2⟩ := BX.out (gc, (z1, z2, z3)) (by simp)
  go_wp2_with fail
  refine (V2.out _).mono ?_
  rintro e y ⟨rfl, b⟩
  have E := Lib.hid (chain E.out b)
  have BX := Lib.hid (BX.out.below b)
  clear b cgc0 cgc1 cgc2
  obtain ⟨cga0, cga1, cga2⟩ := BX.out (ga, (x1, x2, x3)) (by simp)
  obtain ⟨cgb0, cgb1, cgb2⟩ := BX.out (gb, (y1, y2, y3)) (by simp)
  obtain ⟨cgc0, cgc1, cgc2⟩ := BX.out (gc, (z1, z2, z3)) (by simp)
  go_wp2_with fail
  refine (H2.out _).mono ?_
  rintro e y ⟨rfl, b⟩
  have E := Lib.hid (chain E.out b)
  have BX := Lib.hid (BX.out.below b)
  clear b cga0 cga1 cga2 cgb0 cgb1 cgb2 cgc0 cgc1 cgc2
  go_wp2_with fail
  refine (HK.out _).mono ?_
  rintro e y ⟨rfl, b⟩
  have E := Lib.hid (chain E.out b)
  have BX := Lib.hid (BX.out.below b)
  clear b
  go_wp2
  go_ret
  exact ⟨rfl, by first | exact E.out | exact E.out.drew⟩
end Go.Proofs.Ytdicbeaocedkmaa
