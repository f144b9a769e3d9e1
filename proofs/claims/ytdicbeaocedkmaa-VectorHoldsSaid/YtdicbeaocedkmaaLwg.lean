/- VectorHolds: the walk over what its calls give. -/
import Derived.Test.YtdicbeaocedkmaaLwf
set_option linter.all false
namespace Go.Proofs.Ytdicbeaocedkmaa
open Go.RowKit

set_option maxRecDepth 100000 in
set_option maxHeartbeats 4000000 in
theorem holds_0lo (x1 x2 x3 y1 y2 y3 z1 z2 z3 num den : Int) (lx1 : x1 < -16384)
     (w : World) :
    Calls Try.prog 9 #[vv x1 x2 x3, vv y1 y2 y3, vv z1 z2 z3, .int .i64 num, .int .i64 den] w (Ret (.bool true) w) := by
  have HK := Lib.hid known_true
  have E := Lib.hid (Below.refl w.heap.size w)
  have BX := Lib.hid (Bxs.nil w)
  go_enter Try.func9, Try.ntmps9
  go_upto_region 1 with (fail)
  obtain ⟨u0, hu⟩ : ∃ u0 : World, u0 = w.alloc (.cells #[.int .i64 x1, .int .i64 x2, .int .i64 x3] 23) := ⟨_, rfl⟩
  have b : Below w.heap.size w u0 := by rw [hu]; exact below_one _ _
  have E := Lib.hid (chain E.out b)
  have BX := Lib.hid (BX.out.cons x1 x2 x3)
  rw [← hu] at BX
  have hs : w.heap.size + 1 = u0.heap.size := by rw [hu]; simp
  rw [← hu]
  rw [hs]
  obtain ⟨ga, hga⟩ : ∃ ga, ga = w.heap.size := ⟨_, rfl⟩
  rw [← hga] at BX ⊢
  clear hu b hga hs
  obtain ⟨u1, hu⟩ : ∃ u1 : World, u1 = u0.alloc (.cells #[.int .i64 y1, .int .i64 y2, .int .i64 y3] 23) := ⟨_, rfl⟩
  have b : Below u0.heap.size u0 u1 := by rw [hu]; exact below_one _ _
  have E := Lib.hid (chain E.out b)
  have BX := Lib.hid (BX.out.cons y1 y2 y3)
  rw [← hu] at BX
  have hs : u0.heap.size + 1 = u1.heap.size := by rw [hu]; simp
  rw [← hu]
  rw [hs]
  obtain ⟨gb, hgb⟩ : ∃ gb, gb = u0.heap.size := ⟨_, rfl⟩
  rw [← hgb] at BX ⊢
  clear hu b hgb hs
  obtain ⟨u2, hu⟩ : ∃ u2 : World, u2 = u1.alloc (.cells #[.int .i64 z1, .int .i64 z2, .int .i64 z3] 23) := ⟨_, rfl⟩
  have b : Below u1.heap.size u1 u2 := by rw [hu]; exact below_one _ _
  have E := Lib.hid (chain E.out b)
  have BX := Lib.hid (BX.out.cons z1 z2 z3)
  rw [← hu] at BX
  rw [← hu]
  obtain ⟨gc, hgc⟩ : ∃ gc, gc = u1.heap.size := ⟨_, rfl⟩
  rw [← hgc] at BX ⊢
  clear hu b hgc
  obtain ⟨cga0, cga1, cga2⟩ := BX.out (ga, (x1, x2, x3)) (by simp)
  obtain ⟨cgb0, cgb1, cgb2⟩ := BX.out (gb, (y1, y2, y3)) (by simp)
  obtain ⟨cgc0, cgc1, cgc2⟩ := BX.out (gc, (z1, z2, z3)) (by simp)
  go_wp2
  obtain ⟨u, hu⟩ : ∃ u : World, u = u2.alloc (.cells #[.int .i64 x1, .int .i64 x2, .int .i64 x3, .int .i64 y1, .int .i64 y2, .int .i64 y3, .int .i64 z1, .int .i64 z2, .int .i64 z3] 23) := ⟨_, rfl⟩
  have b : Below u2.heap.size u2 u := by rw [hu]; exact below_one _ _
  have E := Lib.hid (chain E.out b)
  have BX := Lib.hid (BX.out.below b)
  have S : Hid (S9 u u2.heap.size x1 x2 x3 y1 y2 y3 z1 z2 z3) := by rw [hu]; exact ⟨by simp [go_sem], by simp [go_sem], by simp [go_sem], by simp [go_sem], by simp [go_sem], by simp [go_sem], by simp [go_sem], by simp [go_sem], by simp [go_sem]⟩
  rw [← hu]
  obtain ⟨gs, hgs⟩ : ∃ gs, gs = u2.heap.size := ⟨_, rfl⟩
  rw [← hgs] at S ⊢
  clear hu b hgs cga0 cga1 cga2 cgb0 cgb1 cgb2 cgc0 cgc1 cgc2
  refine wp_loop_rounds 4 ?_
  rw [rounds_succ]
  obtain ⟨d0, d1, d2, d3, d4, d5, d6, d7, d8⟩ := S.out
  go_upto_region 4 with (fail)
  obtain ⟨t0, hu⟩ : ∃ t0 : World, t0 = u.alloc (.cells #[.int .i64 x1, .int .i64 x2, .int .i64 x3] 23) := ⟨_, rfl⟩
  have b : Below u.heap.size u t0 := by rw [hu]; exact below_one _ _
  have E := Lib.hid (chain E.out b)
  have BX := Lib.hid (BX.out.cons x1 x2 x3)
  rw [← hu] at BX
  rw [← hu]
  obtain ⟨h0, hh0⟩ : ∃ h0, h0 = u.heap.size := ⟨_, rfl⟩
  rw [← hh0] at BX ⊢
  have S := Lib.hid (S.out.below b)
  clear hu b hh0 d0 d1 d2 d3 d4 d5 d6 d7 d8
  obtain ⟨ch00, ch01, ch02⟩ := BX.out (h0, (x1, x2, x3)) (by simp)
  go_wp2_with fail
  refine (HK.out _).mono ?_
  rintro e y ⟨rfl, b⟩
  have E := Lib.hid (chain E.out b)
  have BX := Lib.hid (BX.out.below b)
  clear b ch00 ch01 ch02
  go_wp2
  go_ret
  exact ⟨rfl, by first | exact E.out | exact E.out.drew⟩

set_option maxRecDepth 100000 in
set_option maxHeartbeats 4000000 in
theorem holds_0hi (x1 x2 x3 y1 y2 y3 z1 z2 z3 num den : Int) (lx1 : ¬ x1 < -16384) (mx1 : 16384 < x1)
     (w : World) :
    Calls Try.prog 9 #[vv x1 x2 x3, vv y1 y2 y3, vv z1 z2 z3, .int .i64 num, .int .i64 den] w (Ret (.bool true) w) := by
  have HK := Lib.hid known_true
  have E := Lib.hid (Below.refl w.heap.size w)
  have BX := Lib.hid (Bxs.nil w)
  go_enter Try.func9, Try.ntmps9
  go_upto_region 1 with (fail)
  obtain ⟨u0, hu⟩ : ∃ u0 : World, u0 = w.alloc (.cells #[.int .i64 x1, .int .i64 x2, .int .i64 x3] 23) := ⟨_, rfl⟩
  have b : Below w.heap.size w u0 := by rw [hu]; exact below_one _ _
  have E := Lib.hid (chain E.out b)
  have BX := Lib.hid (BX.out.cons x1 x2 x3)
  rw [← hu] at BX
  have hs : w.heap.size + 1 = u0.heap.size := by rw [hu]; simp
  rw [← hu]
  rw [hs]
  obtain ⟨ga, hga⟩ : ∃ ga, ga = w.heap.size := ⟨_, rfl⟩
  rw [← hga] at BX ⊢
  clear hu b hga hs
  obtain ⟨u1, hu⟩ : ∃ u1 : World, u1 = u0.alloc (.cells #[.int .i64 y1, .int .i64 y2, .int .i64 y3] 23) := ⟨_, rfl⟩
  have b : Below u0.heap.size u0 u1 := by rw [hu]; exact below_one _ _
  have E := Lib.hid (chain E.out b)
  have BX := Lib.hid (BX.out.cons y1 y2 y3)
  rw [← hu] at BX
  have hs : u0.heap.size + 1 = u1.heap.size := by rw [hu]; simp
  rw [← hu]
  rw [hs]
  obtain ⟨gb, hgb⟩ : ∃ gb, gb = u0.heap.size := ⟨_, rfl⟩
  rw [← hgb] at BX ⊢
  clear hu b hgb hs
  obtain ⟨u2, hu⟩ : ∃ u2 : World, u2 = u1.alloc (.cells #[.int .i64 z1, .int .i64 z2, .int .i64 z3] 23) := ⟨_, rfl⟩
  have b : Below u1.heap.size u1 u2 := by rw [hu]; exact below_one _ _
  have E := Lib.hid (chain E.out b)
  have BX := Lib.hid (BX.out.cons z1 z2 z3)
  rw [← hu] at BX
  rw [← hu]
  obtain ⟨gc, hgc⟩ : ∃ gc, gc = u1.heap.size := ⟨_, rfl⟩
  rw [← hgc] at BX ⊢
  clear hu b hgc
  obtain ⟨cga0, cga1, cga2⟩ := BX.out (ga, (x1, x2, x3)) (by simp)
  obtain ⟨cgb0, cgb1, cgb2⟩ := BX.out (gb, (y1, y2, y3)) (by simp)
  obtain ⟨cgc0, cgc1, cgc2⟩ := BX.out (gc, (z1, z2, z3)) (by simp)
  go_wp2
  obtain ⟨u, hu⟩ : ∃ u : World, u = u2.alloc (.cells #[.int .i64 x1, .int .i64 x2, .int .i64 x3, .int .i64 y1, .int .i64 y2, .int .i64 y3, .int .i64 z1, .int .i64 z2, .int .i64 z3] 23) := ⟨_, rfl⟩
  have b : Below u2.heap.size u2 u := by rw [hu]; exact below_one _ _
  have E := Lib.hid (chain E.out b)
  have BX := Lib.hid (BX.out.below b)
  have S : Hid (S9 u u2.heap.size x1 x2 x3 y1 y2 y3 z1 z2 z3) := by rw [hu]; exact ⟨by simp [go_sem], by simp [go_sem], by simp [go_sem], by simp [go_sem], by simp [go_sem], by simp [go_sem], by simp [go_sem], by simp [go_sem], by simp [go_sem]⟩
  rw [← hu]
  obtain ⟨gs, hgs⟩ : ∃ gs, gs = u2.heap.size := ⟨_, rfl⟩
  rw [← hgs] at S ⊢
  clear hu b hgs cga0 cga1 cga2 cgb0 cgb1 cgb2 cgc0 cgc1 cgc2
  refine wp_loop_rounds 4 ?_
  rw [rounds_succ]
  obtain ⟨d0, d1, d2, d3, d4, d5, d6, d7, d8⟩ := S.out
  go_upto_region 4 with (fail)
  obtain ⟨t0, hu⟩ : ∃ t0 : World, t0 = u.alloc (.cells #[.int .i64 x1, .int .i64 x2, .int .i64 x3] 23) := ⟨_, rfl⟩
  have b : Below u.heap.size u t0 := by rw [hu]; exact below_one _ _
  have E := Lib.hid (chain E.out b)
  have BX := Lib.hid (BX.out.cons x1 x2 x3)
  rw [← hu] at BX
  rw [← hu]
  obtain ⟨h0, hh0⟩ : ∃ h0, h0 = u.heap.size := ⟨_, rfl⟩
  rw [← hh0] at BX ⊢
  have S := Lib.hid (S.out.below b)
  clear hu b hh0 d0 d1 d2 d3 d4 d5 d6 d7 d8
  obtain ⟨ch00, ch01, ch02⟩ := BX.out (h0, (x1, x2, x3)) (by simp)
  go_wp2_with fail
  refine (HK.out _).mono ?_
  rintro e y ⟨rfl, b⟩
  have E := Lib.hid (chain E.out b)
  have BX := Lib.hid (BX.out.below b)
  clear b ch00 ch01 ch02
  go_wp2
  go_ret
  exact ⟨rfl, by first | exact E.out | exact E.out.drew⟩

set_option maxRecDepth 100000 in
set_option maxHeartbeats 4000000 in
theorem holds_1lo (x1 x2 x3 y1 y2 y3 z1 z2 z3 num den : Int) (lx1 : ¬ x1 < -16384) (mx1 : ¬ 16384 < x1) (lx2 : x2 < -16384)
     (w : World) :
    Calls Try.prog 9 #[vv x1 x2 x3, vv y1 y2 y3, vv z1 z2 z3, .int .i64 num, .int .i64 den] w (Ret (.bool true) w) := by
  have HK := Lib.hid known_true
  have E := Lib.hid (Below.refl w.heap.size w)
  have BX := Lib.hid (Bxs.nil w)
  go_enter Try.func9, Try.ntmps9
  go_upto_region 1 with (fail)
  obtain ⟨u0, hu⟩ : ∃ u0 : World, u0 = w.alloc (.cells #[.int .i64 x1, .int .i64 x2, .int .i64 x3] 23) := ⟨_, rfl⟩
  have b : Below w.heap.size w u0 := by rw [hu]; exact below_one _ _
  have E := Lib.hid (chain E.out b)
  have BX := Lib.hid (BX.out.cons x1 x2 x3)
  rw [← hu] at BX
  have hs : w.heap.size + 1 = u0.heap.size := by rw [hu]; simp
  rw [← hu]
  rw [hs]
  obtain ⟨ga, hga⟩ : ∃ ga, ga = w.heap.size := ⟨_, rfl⟩
  rw [← hga] at BX ⊢
  clear hu b hga hs
  obtain ⟨u1, hu⟩ : ∃ u1 : World, u1 = u0.alloc (.cells #[.int .i64 y1, .int .i64 y2, .int .i64 y3] 23) := ⟨_, rfl⟩
  have b : Below u0.heap.size u0 u1 := by rw [hu]; exact below_one _ _
  have E := Lib.hid (chain E.out b)
  have BX := Lib.hid (BX.out.cons y1 y2 y3)
  rw [← hu] at BX
  have hs : u0.heap.size + 1 = u1.heap.size := by rw [hu]; simp
  rw [← hu]
  rw [hs]
  obtain ⟨gb, hgb⟩ : ∃ gb, gb = u0.heap.size := ⟨_, rfl⟩
  rw [← hgb] at BX ⊢
  clear hu b hgb hs
  obtain ⟨u2, hu⟩ : ∃ u2 : World, u2 = u1.alloc (.cells #[.int .i64 z1, .int .i64 z2, .int .i64 z3] 23) := ⟨_, rfl⟩
  have b : Below u1.heap.size u1 u2 := by rw [hu]; exact below_one _ _
  have E := Lib.hid (chain E.out b)
  have BX := Lib.hid (BX.out.cons z1 z2 z3)
  rw [← hu] at BX
  rw [← hu]
  obtain ⟨gc, hgc⟩ : ∃ gc, gc = u1.heap.size := ⟨_, rfl⟩
  rw [← hgc] at BX ⊢
  clear hu b hgc
  obtain ⟨cga0, cga1, cga2⟩ := BX.out (ga, (x1, x2, x3)) (by simp)
  obtain ⟨cgb0, cgb1, cgb2⟩ := BX.out (gb, (y1, y2, y3)) (by simp)
  obtain ⟨cgc0, cgc1, cgc2⟩ := BX.out (gc, (z1, z2, z3)) (by simp)
  go_wp2
  obtain ⟨u, hu⟩ : ∃ u : World, u = u2.alloc (.cells #[.int .i64 x1, .int .i64 x2, .int .i64 x3, .int .i64 y1, .int .i64 y2, .int .i64 y3, .int .i64 z1, .int .i64 z2, .int .i64 z3] 23) := ⟨_, rfl⟩
  have b : Below u2.heap.size u2 u := by rw [hu]; exact below_one _ _
  have E := Lib.hid (chain E.out b)
  have BX := Lib.hid (BX.out.below b)
  have S : Hid (S9 u u2.heap.size x1 x2 x3 y1 y2 y3 z1 z2 z3) := by rw [hu]; exact ⟨by simp [go_sem], by simp [go_sem], by simp [go_sem], by simp [go_sem], by simp [go_sem], by simp [go_sem], by simp [go_sem], by simp [go_sem], by simp [go_sem]⟩
  rw [← hu]
  obtain ⟨gs, hgs⟩ : ∃ gs, gs = u2.heap.size := ⟨_, rfl⟩
  rw [← hgs] at S ⊢
  clear hu b hgs cga0 cga1 cga2 cgb0 cgb1 cgb2 cgc0 cgc1 cgc2
  refine wp_loop_rounds 4 ?_
  rw [rounds_succ]
  obtain ⟨d0, d1, d2, d3, d4, d5, d6, d7, d8⟩ := S.out
  go_upto_region 4 with (fail)
  obtain ⟨t0, hu⟩ : ∃ t0 : World, t0 = u.alloc (.cells #[.int .i64 x1, .int .i64 x2, .int .i64 x3] 23) := ⟨_, rfl⟩
  have b : Below u.heap.size u t0 := by rw [hu]; exact below_one _ _
  have E := Lib.hid (chain E.out b)
  have BX := Lib.hid (BX.out.cons x1 x2 x3)
  rw [← hu] at BX
  rw [← hu]
  obtain ⟨h0, hh0⟩ : ∃ h0, h0 = u.heap.size := ⟨_, rfl⟩
  rw [← hh0] at BX ⊢
  have S := Lib.hid (S.out.below b)
  clear hu b hh0 d0 d1 d2 d3 d4 d5 d6 d7 d8
  obtain ⟨ch00, ch01, ch02⟩ := BX.out (h0, (x1, x2, x3)) (by simp)
  go_wp2_with fail
  refine (HK.out _).mono ?_
  rintro e y ⟨rfl, b⟩
  have E := Lib.hid (chain E.out b)
  have BX := Lib.hid (BX.out.below b)
  clear b ch00 ch01 ch02
  go_wp2
  go_ret
  exact ⟨rfl, by first | exact E.out | exact E.out.drew⟩

set_option maxRecDepth 100000 in
set_option maxHeartbeats 4000000 in
theorem holds_1hi (x1 x2 x3 y1 y2 y3 z1 z2 z3 num den : Int) (lx1 : ¬ x1 < -16384) (mx1 : ¬ 16384 < x1) (lx2 : ¬ x2 < -16384) (mx2 : 16384 < x2)
     (w : World) :
    Calls Try.prog 9 #[vv x1 x2 x3, vv y1 y2 y3, vv z1 z2 z3, .int .i64 num, .int .i64 den] w (Ret (.bool true) w) := by
  have HK := Lib.hid known_true
  have E := Lib.hid (Below.refl w.heap.size w)
  have BX := Lib.hid (Bxs.nil w)
  go_enter Try.func9, Try.ntmps9
  go_upto_region 1 with (fail)
  obtain ⟨u0, hu⟩ : ∃ u0 : World, u0 = w.alloc (.cells #[.int .i64 x1, .int .i64 x2, .int .i64 x3] 23) := ⟨_, rfl⟩
  have b : Below w.heap.size w u0 := by rw [hu]; exact below_one _ _
  have E := Lib.hid (chain E.out b)
  have BX := Lib.hid (BX.out.cons x1 x2 x3)
  rw [← hu] at BX
  have hs : w.heap.size + 1 = u0.heap.size := by rw [hu]; simp
  rw [← hu]
  rw [hs]
  obtain ⟨ga, hga⟩ : ∃ ga, ga = w.heap.size := ⟨_, rfl⟩
  rw [← hga] at BX ⊢
  clear hu b hga hs
  obtain ⟨u1, hu⟩ : ∃ u1 : World, u1 = u0.alloc (.cells #[.int .i64 y1, .int .i64 y2, .int .i64 y3] 23) := ⟨_, rfl⟩
  have b : Below u0.heap.size u0 u1 := by rw [hu]; exact below_one _ _
  have E := Lib.hid (chain E.out b)
  have BX := Lib.hid (BX.out.cons y1 y2 y3)
  rw [← hu] at BX
  have hs : u0.heap.size + 1 = u1.heap.size := by rw [hu]; simp
  rw [← hu]
  rw [hs]
  obtain ⟨gb, hgb⟩ : ∃ gb, gb = u0.heap.size := ⟨_, rfl⟩
  rw [← hgb] at BX ⊢
  clear hu b hgb hs
  obtain ⟨u2, hu⟩ : ∃ u2 : World, u2 = u1.alloc (.cells #[.int .i64 z1, .int .i64 z2, .int .i64 z3] 23) := ⟨_, rfl⟩
  have b : Below u1.heap.size u1 u2 := by rw [hu]; exact below_one _ _
  have E := Lib.hid (chain E.out b)
  have BX := Lib.hid (BX.out.cons z1 z2 z3)
  rw [← hu] at BX
  rw [← hu]
  obtain ⟨gc, hgc⟩ : ∃ gc, gc = u1.heap.size := ⟨_, rfl⟩
  rw [← hgc] at BX ⊢
  clear hu b hgc
  obtain ⟨cga0, cga1, cga2⟩ := BX.out (ga, (x1, x2, x3)) (by simp)
  obtain ⟨cgb0, cgb1, cgb2⟩ := BX.out (gb, (y1, y2, y3)) (by simp)
  obtain ⟨cgc0, cgc1, cgc2⟩ := BX.out (gc, (z1, z2, z3)) (by simp)
  go_wp2
  obtain ⟨u, hu⟩ : ∃ u : World, u = u2.alloc (.cells #[.int .i64 x1, .int .i64 x2, .int .i64 x3, .int .i64 y1, .int .i64 y2, .int .i64 y3, .int .i64 z1, .int .i64 z2, .int .i64 z3] 23) := ⟨_, rfl⟩
  have b : Below u2.heap.size u2 u := by rw [hu]; exact below_one _ _
  have E := Lib.hid (chain E.out b)
  have BX := Lib.hid (BX.out.below b)
  have S : Hid (S9 u u2.heap.size x1 x2 x3 y1 y2 y3 z1 z2 z3) := by rw [hu]; exact ⟨by simp [go_sem], by simp [go_sem], by simp [go_sem], by simp [go_sem], by simp [go_sem], by simp [go_sem], by simp [go_sem], by simp [go_sem], by simp [go_sem]⟩
  rw [← hu]
  obtain ⟨gs, hgs⟩ : ∃ gs, gs = u2.heap.size := ⟨_, rfl⟩
  rw [← hgs] at S ⊢
  clear hu b hgs cga0 cga1 cga2 cgb0 cgb1 cgb2 cgc0 cgc1 cgc2
  refine wp_loop_rounds 4 ?_
  rw [rounds_succ]
  obtain ⟨d0, d1, d2, d3, d4, d5, d6, d7, d8⟩ := S.out
  go_upto_region 4 with (fail)
  obtain ⟨t0, hu⟩ : ∃ t0 : World, t0 = u.alloc (.cells #[.int .i64 x1, .int .i64 x2, .int .i64 x3] 23) := ⟨_, rfl⟩
  have b : Below u.heap.size u t0 := by rw [hu]; exact below_one _ _
  have E := Lib.hid (chain E.out b)
  have BX := Lib.hid (BX.out.cons x1 x2 x3)
  rw [← hu] at BX
  rw [← hu]
  obtain ⟨h0, hh0⟩ : ∃ h0, h0 = u.heap.size := ⟨_, rfl⟩
  rw [← hh0] at BX ⊢
  have S := Lib.hid (S.out.below b)
  clear hu b hh0 d0 d1 d2 d3 d4 d5 d6 d7 d8
  obtain ⟨ch00, ch01, ch02⟩ := BX.out (h0, (x1, x2, x3)) (by simp)
  go_wp2_with fail
  refine (HK.out _).mono ?_
  rintro e y ⟨rfl, b⟩
  have E := Lib.hid (chain E.out b)
  have BX := Lib.hid (BX.out.below b)
  clear b ch00 ch01 ch02
  go_wp2
  go_ret
  exact ⟨rfl, by first | exact E.out | exact E.out.drew⟩

set_option maxRecDepth 100000 in
set_option maxHeartbeats 4000000 in
theorem holds_2lo (x1 x2 x3 y1 y2 y3 z1 z2 z3 num den : Int) (lx1 : ¬ x1 < -16384) (mx1 : ¬ 16384 < x1) (lx2 : ¬ x2 < -16384) (mx2 : ¬ 16384 < x2) (lx3 : x3 < -16384)
     (w : World) :
    Calls Try.prog 9 #[vv x1 x2 x3, vv y1 y2 y3, vv z1 z2 z3, .int .i64 num, .int .i64 den] w (Ret (.bool true) w) := by
  have HK := Lib.hid known_true
  have E := Lib.hid (Below.refl w.heap.size w)
  have BX := Lib.hid (Bxs.nil w)
  go_enter Try.func9, Try.ntmps9
  go_upto_region 1 with (fail)
  obtain ⟨u0, hu⟩ : ∃ u0 : World, u0 = w.alloc (.cells #[.int .i64 x1, .int .i64 x2, .int .i64 x3] 23) := ⟨_, rfl⟩
  have b : Below w.heap.size w u0 := by rw [hu]; exact below_one _ _
  have E := Lib.hid (chain E.out b)
  have BX := Lib.hid (BX.out.cons x1 x2 x3)
  rw [← hu] at BX
  have hs : w.heap.size + 1 = u0.heap.size := by rw [hu]; simp
  rw [← hu]
  rw [hs]
  obtain ⟨ga, hga⟩ : ∃ ga, ga = w.heap.size := ⟨_, rfl⟩
  rw [← hga] at BX ⊢
  clear hu b hga hs
  obtain ⟨u1, hu⟩ : ∃ u1 : World, u1 = u0.alloc (.cells #[.int .i64 y1, .int .i64 y2, .int .i64 y3] 23) := ⟨_, rfl⟩
  have b : Below u0.heap.size u0 u1 := by rw [hu]; exact below_one _ _
  have E := Lib.hid (chain E.out b)
  have BX := Lib.hid (BX.out.cons y1 y2 y3)
  rw [← hu] at BX
  have hs : u0.heap.size + 1 = u1.heap.size := by rw [hu]; simp
  rw [← hu]
  rw [hs]
  obtain ⟨gb, hgb⟩ : ∃ gb, gb = u0.heap.size := ⟨_, rfl⟩
  rw [← hgb] at BX ⊢
  clear hu b hgb hs
  obtain ⟨u2, hu⟩ : ∃ u2 : World, u2 = u1.alloc (.cells #[.int .i64 z1, .int .i64 z2, .int .i64 z3] 23) := ⟨_, rfl⟩
  have b : Below u1.heap.size u1 u2 := by rw [hu]; exact below_one _ _
  have E := Lib.hid (chain E.out b)
  have BX := Lib.hid (BX.out.cons z1 z2 z3)
  rw [← hu] at BX
  rw [← hu]
  obtain ⟨gc, hgc⟩ : ∃ gc, gc = u1.heap.size := ⟨_, rfl⟩
  rw [← hgc] at BX ⊢
  clear hu b hgc
  obtain ⟨cga0, cga1, cga2⟩ := BX.out (ga, (x1, x2, x3)) (by simp)
  obtain ⟨cgb0, cgb1, cgb2⟩ := BX.out (gb, (y1, y2, y3)) (by simp)
  obtain ⟨cgc0, cgc1, cgc2⟩ := BX.out (gc, (z1, z2, z3)) (by simp)
  go_wp2
  obtain ⟨u, hu⟩ : ∃ u : World, u = u2.alloc (.cells #[.int .i64 x1, .int .i64 x2, .int .i64 x3, .int .i64 y1, .int .i64 y2, .int .i64 y3, .int .i64 z1, .int .i64 z2, .int .i64 z3] 23) := ⟨_, rfl⟩
  have b : Below u2.heap.size u2 u := by rw [hu]; exact below_one _ _
  have E := Lib.hid (chain E.out b)
  have BX := Lib.hid (BX.out.below b)
  have S : Hid (S9 u u2.heap.size x1 x2 x3 y1 y2 y3 z1 z2 z3) := by rw [hu]; exact ⟨by simp [go_sem], by simp [go_sem], by simp [go_sem], by simp [go_sem], by simp [go_sem], by simp [go_sem], by simp [go_sem], by simp [go_sem], by simp [go_sem]⟩
  rw [← hu]
  obtain ⟨gs, hgs⟩ : ∃ gs, gs = u2.heap.size := ⟨_, rfl⟩
  rw [← hgs] at S ⊢
  clear hu b hgs cga0 cga1 cga2 cgb0 cgb1 cgb2 cgc0 cgc1 cgc2
  refine wp_loop_rounds 4 ?_
  rw [rounds_succ]
  obtain ⟨d0, d1, d2, d3, d4, d5, d6, d7, d8⟩ := S.out
  go_upto_region 4 with (fail)
  obtain ⟨t0, hu⟩ : ∃ t0 : World, t0 = u.alloc (.cells #[.int .i64 x1, .int .i64 x2, .int .i64 x3] 23) := ⟨_, rfl⟩
  have b : Below u.heap.size u t0 := by rw [hu]; exact below_one _ _
  have E := Lib.hid (chain E.out b)
  have BX := Lib.hid (BX.out.cons x1 x2 x3)
  rw [← hu] at BX
  rw [← hu]
  obtain ⟨h0, hh0⟩ : ∃ h0, h0 = u.heap.size := ⟨_, rfl⟩
  rw [← hh0] at BX ⊢
  have S := Lib.hid (S.out.below b)
  clear hu b hh0 d0 d1 d2 d3 d4 d5 d6 d7 d8
  obtain ⟨ch00, ch01, ch02⟩ := BX.out (h0, (x1, x2, x3)) (by simp)
  go_wp2_with fail
  refine (HK.out _).mono ?_
  rintro e y ⟨rfl, b⟩
  have E := Lib.hid (chain E.out b)
  have BX := Lib.hid (BX.out.below b)
  clear b ch00 ch01 ch02
  go_wp2
  go_ret
  exact ⟨rfl, by first | exact E.out | exact E.out.drew⟩

set_option maxRecDepth 100000 in
set_option maxHeartbeats 4000000 in
theorem holds_2hi (x1 x2 x3 y1 y2 y3 z1 z2 z3 num den : Int) (lx1 : ¬ x1 < -16384) (mx1 : ¬ 16384 < x1) (lx2 : ¬ x2 < -16384) (mx2 : ¬ 16384 < x2) (lx3 : ¬ x3 < -16384) (mx3 : 16384 < x3)
     (w : World) :
    Calls Try.prog 9 #[vv x1 x2 x3, vv y1 y2 y3, vv z1 z2 z3, .int .i64 num, .int .i64 den] w (Ret (.bool true) w) := by
  have HK := Lib.hid known_true
  have E := Lib.hid (Below.refl w.heap.size w)
  have BX := Lib.hid (Bxs.nil w)
  go_enter Try.func9, Try.ntmps9
  go_upto_region 1 with (fail)
  obtain ⟨u0, hu⟩ : ∃ u0 : World, u0 = w.alloc (.cells #[.int .i64 x1, .int .i64 x2, .int .i64 x3] 23) := ⟨_, rfl⟩
  have b : Below w.heap.size w u0 := by rw [hu]; exact below_one _ _
  have E := Lib.hid (chain E.out b)
  have BX := Lib.hid (BX.out.cons x1 x2 x3)
  rw [← hu] at BX
  have hs : w.heap.size + 1 = u0.heap.size := by rw [hu]; simp
  rw [← hu]
  rw [hs]
  obtain ⟨ga, hga⟩ : ∃ ga, ga = w.heap.size := ⟨_, rfl⟩
  rw [← hga] at BX ⊢
  clear hu b hga hs
  obtain ⟨u1, hu⟩ : ∃ u1 : World, u1 = u0.alloc (.cells #[.int .i64 y1, .int .i64 y2, .int .i64 y3] 23) := ⟨_, rfl⟩
  have b : Below u0.heap.size u0 u1 := by rw [hu]; exact below_one _ _
  have E := Lib.hid (chain E.out b)
  have BX := Lib.hid (BX.out.cons y1 y2 y3)
  rw [← hu] at BX
  have hs : u0.heap.size + 1 = u1.heap.size := by rw [hu]; simp
  rw [← hu]
  rw [hs]
  obtain ⟨gb, hgb⟩ : ∃ gb, gb = u0.heap.size := ⟨_, rfl⟩
  rw [← hgb] at BX ⊢
  clear hu b hgb hs
  obtain ⟨u2, hu⟩ : ∃ u2 : World, u2 = u1.alloc (.cells #[.int .i64 z1, .int .i64 z2, .int .i64 z3] 23) := ⟨_, rfl⟩
  have b : Below u1.heap.size u1 u2 := by rw [hu]; exact below_one _ _
  have E := Lib.hid (chain E.out b)
  have BX := Lib.hid (BX.out.cons z1 z2 z3)
  rw [← hu] at BX
  rw [← hu]
  obtain ⟨gc, hgc⟩ : ∃ gc, gc = u1.heap.size := ⟨_, rfl⟩
  rw [← hgc] at BX ⊢
  clear hu b hgc
  obtain ⟨cga0, cga1, cga2⟩ := BX.out (ga, (x1, x2, x3)) (by simp)
  obtain ⟨cgb0, cgb1, cgb2⟩ := BX.out (gb, (y1, y2, y3)) (by simp)
  obtain ⟨cgc0, cgc1, cgc2⟩ := BX.out (gc, (z1, z2, z3)) (by simp)
  go_wp2
  obtain ⟨u, hu⟩ : ∃ u : World, u = u2.alloc (.cells #[.int .i64 x1, .int .i64 x2, .int .i64 x3, .int .i64 y1, .int .i64 y2, .int .i64 y3, .int .i64 z1, .int .i64 z2, .int .i64 z3] 23) := ⟨_, rfl⟩
  have b : Below u2.heap.size u2 u := by rw [hu]; exact below_one _ _
  have E := Lib.hid (chain E.out b)
  have BX := Lib.hid (BX.out.below b)
  have S : Hid (S9 u u2.heap.size x1 x2 x3 y1 y2 y3 z1 z2 z3) := by rw [hu]; exact ⟨by simp [go_sem], by simp [go_sem], by simp [go_sem], by simp [go_sem], by simp [go_sem], by simp [go_sem], by simp [go_sem], by simp [go_sem], by simp [go_sem]⟩
  rw [← hu]
  obtain ⟨gs, hgs⟩ : ∃ gs, gs = u2.heap.size := ⟨_, rfl⟩
  rw [← hgs] at S ⊢
  clear hu b hgs cga0 cga1 cga2 cgb0 cgb1 cgb2 cgc0 cgc1 cgc2
  refine wp_loop_rounds 4 ?_
  rw [rounds_succ]
  obtain ⟨d0, d1, d2, d3, d4, d5, d6, d7, d8⟩ := S.out
  go_upto_region 4 with (fail)
  obtain ⟨t0, hu⟩ : ∃ t0 : World, t0 = u.alloc (.cells #[.int .i64 x1, .int .i64 x2, .int .i64 x3] 23) := ⟨_, rfl⟩
  have b : Below u.heap.size u t0 := by rw [hu]; exact below_one _ _
  have E := Lib.hid (chain E.out b)
  have BX := Lib.hid (BX.out.cons x1 x2 x3)
  rw [← hu] at BX
  rw [← hu]
  obtain ⟨h0, hh0⟩ : ∃ h0, h0 = u.heap.size := ⟨_, rfl⟩
  rw [← hh0] at BX ⊢
  have S := Lib.hid (S.out.below b)
  clear hu b hh0 d0 d1 d2 d3 d4 d5 d6 d7 d8
  obtain ⟨ch00, ch01, ch02⟩ := BX.out (h0, (x1, x2, x3)) (by simp)
  go_wp2_with fail
  refine (HK.out _).mono ?_
  rintro e y ⟨rfl, b⟩
  have E := Lib.hid (chain E.out b)
  have BX := Lib.hid (BX.out.below b)
  clear b ch00 ch01 ch02
  go_wp2
  go_ret
  exact ⟨rfl, by first | exact E.out | exact E.out.drew⟩

set_option maxRecDepth 100000 in
set_option maxHeartbeats 4000000 in
theorem holds_3lo (x1 x2 x3 y1 y2 y3 z1 z2 z3 num den : Int) (lx1 : ¬ x1 < -16384) (mx1 : ¬ 16384 < x1) (lx2 : ¬ x2 < -16384) (mx2 : ¬ 16384 < x2) (lx3 : ¬ x3 < -16384) (mx3 : ¬ 16384 < x3) (ly1 : y1 < -16384)
     (w : World) :
    Calls Try.prog 9 #[vv x1 x2 x3, vv y1 y2 y3, vv z1 z2 z3, .int .i64 num, .int .i64 den] w (Ret (.bool true) w) := by
  have HK := Lib.hid known_true
  have E := Lib.hid (Below.refl w.heap.size w)
  have BX := Lib.hid (Bxs.nil w)
  go_enter Try.func9, Try.ntmps9
  go_upto_region 1 with (fail)
  obtain ⟨u0, hu⟩ : ∃ u0 : World, u0 = w.alloc (.cells #[.int .i64 x1, .int .i64 x2, .int .i64 x3] 23) := ⟨_, rfl⟩
  have b : Below w.heap.size w u0 := by rw [hu]; exact below_one _ _
  have E := Lib.hid (chain E.out b)
  have BX := Lib.hid (BX.out.cons x1 x2 x3)
  rw [← hu] at BX
  have hs : w.heap.size + 1 = u0.heap.size := by rw [hu]; simp
  rw [← hu]
  rw [hs]
  obtain ⟨ga, hga⟩ : ∃ ga, ga = w.heap.size := ⟨_, rfl⟩
  rw [← hga] at BX ⊢
  clear hu b hga hs
  obtain ⟨u1, hu⟩ : ∃ u1 : World, u1 = u0.alloc (.cells #[.int .i64 y1, .int .i64 y2, .int .i64 y3] 23) := ⟨_, rfl⟩
  have b : Below u0.heap.size u0 u1 := by rw [hu]; exact below_one _ _
  have E := Lib.hid (chain E.out b)
  have BX := Lib.hid (BX.out.cons y1 y2 y3)
  rw [← hu] at BX
  have hs : u0.heap.size + 1 = u1.heap.size := by rw [hu]; simp
  rw [← hu]
  rw [hs]
  obtain ⟨gb, hgb⟩ : ∃ gb, gb = u0.heap.size := ⟨_, rfl⟩
  rw [← hgb] at BX ⊢
  clear hu b hgb hs
  obtain ⟨u2, hu⟩ : ∃ u2 : World, u2 = u1.alloc (.cells #[.int .i64 z1, .int .i64 z2, .int .i64 z3] 23) := ⟨_, rfl⟩
  have b : Below u1.heap.size u1 u2 := by rw [hu]; exact below_one _ _
  have E := Lib.hid (chain E.out b)
  have BX := Lib.hid (BX.out.cons z1 z2 z3)
  rw [← hu] at BX
  rw [← hu]
  obtain ⟨gc, hgc⟩ : ∃ gc, gc = u1.heap.size := ⟨_, rfl⟩
  rw [← hgc] at BX ⊢
  clear hu b hgc
  obtain ⟨cga0, cga1, cga2⟩ := BX.out (ga, (x1, x2, x3)) (by simp)
  obtain ⟨cgb0, cgb1, cgb2⟩ := BX.out (gb, (y1, y2, y3)) (by simp)
  obtain ⟨cgc0, cgc1, cgc2⟩ := BX.out (gc, (z1, z2, z3)) (by simp)
  go_wp2
  obtain ⟨u, hu⟩ : ∃ u : World, u = u2.alloc (.cells #[.int .i64 x1, .int .i64 x2, .int .i64 x3, .int .i64 y1, .int .i64 y2, .int .i64 y3, .int .i64 z1, .int .i64 z2, .int .i64 z3] 23) := ⟨_, rfl⟩
  have b : Below u2.heap.size u2 u := by rw [hu]; exact below_one _ _
  have E := Lib.hid (chain E.out b)
  have BX := Lib.hid (BX.out.below b)
  have S : Hid (S9 u u2.heap.size x1 x2 x3 y1 y2 y3 z1 z2 z3) := by rw [hu]; exact ⟨by simp [go_sem], by simp [go_sem], by simp [go_sem], by simp [go_sem], by simp [go_sem], by simp [go_sem], by simp [go_sem], by simp [go_sem], by simp [go_sem]⟩
  rw [← hu]
  obtain ⟨gs, hgs⟩ : ∃ gs, gs = u2.heap.size := ⟨_, rfl⟩
  rw [← hgs] at S ⊢
  clear hu b hgs cga0 cga1 cga2 cgb0 cgb1 cgb2 cgc0 cgc1 cgc2
  refine wp_loop_rounds 4 ?_
  rw [rounds_succ]
  obtain ⟨d0, d1, d2, d3, d4, d5, d6, d7, d8⟩ := S.out
  go_upto_region 4 with (fail)
  obtain ⟨t0, hu⟩ : ∃ t0 : World, t0 = u.alloc (.cells #[.int .i64 x1, .int .i64 x2, .int .i64 x3] 23) := ⟨_, rfl⟩
  have b : Below u.heap.size u t0 := by rw [hu]; exact below_one _ _
  have E := Lib.hid (chain E.out b)
  have BX := Lib.hid (BX.out.cons x1 x2 x3)
  rw [← hu] at BX
  rw [← hu]
  obtain ⟨h0, hh0⟩ : ∃ h0, h0 = u.heap.size := ⟨_, rfl⟩
  rw [← hh0] at BX ⊢
  have S := Lib.hid (S.out.below b)
  clear hu b hh0 d0 d1 d2 d3 d4 d5 d6 d7 d8
  obtain ⟨ch00, ch01, ch02⟩ := BX.out (h0, (x1, x2, x3)) (by simp)
  go_wp2
  clear ch00 ch01 ch02
  rw [rounds_succ]
  obtain ⟨d0, d1, d2, d3, d4, d5, d6, d7, d8⟩ := S.out
  go_upto_region 4 with (fail)
  obtain ⟨t1, hu⟩ : ∃ t1 : World, t1 = t0.alloc (.cells #[.int .i64 y1, .int .i64 y2, .int .i64 y3] 23) := ⟨_, rfl⟩
  have b : Below t0.heap.size t0 t1 := by rw [hu]; exact below_one _ _
  have E := Lib.hid (chain E.out b)
  have BX := Lib.hid (BX.out.cons y1 y2 y3)
  rw [← hu] at BX
  rw [← hu]
  obtain ⟨h1, hh1⟩ : ∃ h1, h1 = t0.heap.size := ⟨_, rfl⟩
  rw [← hh1] at BX ⊢
  have S := Lib.hid (S.out.below b)
  clear hu b hh1 d0 d1 d2 d3 d4 d5 d6 d7 d8
  obtain ⟨ch10, ch11, ch12⟩ := BX.out (h1, (y1, y2, y3)) (by simp)
  go_wp2_with fail
  refine (HK.out _).mono ?_
  rintro e y ⟨rfl, b⟩
  have E := Lib.hid (chain E.out b)
  have BX := Lib.hid (BX.out.below b)
  clear b ch10 ch11 ch12
  go_wp2
  go_ret
  exact ⟨rfl, by first | exact E.out | exact E.out.drew⟩

set_option maxRecDepth 100000 in
set_option maxHeartbeats 4000000 in
theorem holds_3hi (x1 x2 x3 y1 y2 y3 z1 z2 z3 num den : Int) (lx1 : ¬ x1 < -16384) (mx1 : ¬ 16384 < x1) (lx2 : ¬ x2 < -16384) (mx2 : ¬ 16384 < x2) (lx3 : ¬ x3 < -16384) (mx3 : ¬ 16384 < x3) (ly1 : ¬ y1 < -16384) (my1 : 16384 < y1)
     (w : World) :
    Calls Try.prog 9 #[vv x1 x2 x3, vv y1 y2 y3, vv z1 z2 z3, .int .i64 num, .int .i64 den] w (Ret (.bool true) w) := by
  have HK := Lib.hid known_true
  have E := Lib.hid (Below.refl w.heap.size w)
  have BX := Lib.hid (Bxs.nil w)
  go_enter Try.func9, Try.ntmps9
  go_upto_region 1 with (fail)
  obtain ⟨u0, hu⟩ : ∃ u0 : World, u0 = w.alloc (.cells #[.int .i64 x1, .int .i64 x2, .int .i64 x3] 23) := ⟨_, rfl⟩
  have b : Below w.heap.size w u0 := by rw [hu]; exact below_one _ _
  have E := Lib.hid (chain E.out b)
  have BX := Lib.hid (BX.out.cons x1 x2 x3)
  rw [← hu] at BX
  have hs : w.heap.size + 1 = u0.heap.size := by rw [hu]; simp
  rw [← hu]
  rw [hs]
  obtain ⟨ga, hga⟩ : ∃ ga, ga = w.heap.size := ⟨_, rfl⟩
  rw [← hga] at BX ⊢
  clear hu b hga hs
  obtain ⟨u1, hu⟩ : ∃ u1 : World, u1 = u0.alloc (.cells #[.int .i64 y1, .int .i64 y2, .int .i64 y3] 23) := ⟨_, rfl⟩
  have b : Below u0.heap.size u0 u1 := by rw [hu]; exact below_one _ _
  have E := Lib.hid (chain E.out b)
  have BX := Lib.hid (BX.out.cons y1 y2 y3)
  rw [← hu] at BX
  have hs : u0.heap.size + 1 = u1.heap.size := by rw [hu]; simp
  rw [← hu]
  rw [hs]
  obtain ⟨gb, hgb⟩ : ∃ gb, gb = u0.heap.size := ⟨_, rfl⟩
  rw [← hgb] at BX ⊢
  clear hu b hgb hs
  obtain ⟨u2, hu⟩ : ∃ u2 : World, u2 = u1.alloc (.cells #[.int .i64 z1, .int .i64 z2, .int .i64 z3] 23) := ⟨_, rfl⟩
  have b : Below u1.heap.size u1 u2 := by rw [hu]; exact below_one _ _
  have E := Lib.hid (chain E.out b)
  have BX := Lib.hid (BX.out.cons z1 z2 z3)
  rw [← hu] at BX
  rw [← hu]
  obtain ⟨gc, hgc⟩ : ∃ gc, gc = u1.heap.size := ⟨_, rfl⟩
  rw [← hgc] at BX ⊢
  clear hu b hgc
  obtain ⟨cga0, cga1, cga2⟩ := BX.out (ga, (x1, x2, x3)) (by simp)
  obtain ⟨cgb0, cgb1, cgb2⟩ := BX.out (gb, (y1, y2, y3)) (by simp)
  obtain ⟨cgc0, cgc1, cgc2⟩ := BX.out (gc, (z1, z2, z3)) (by simp)
  go_wp2
  obtain ⟨u, hu⟩ : ∃ u : World, u = u2.alloc (.cells #[.int .i64 x1, .int .i64 x2, .int .i64 x3, .int .i64 y1, .int .i64 y2, .int .i64 y3, .int .i64 z1, .int .i64 z2, .int .i64 z3] 23) := ⟨_, rfl⟩
  have b : Below u2.heap.size u2 u := by rw [hu]; exact below_one _ _
  have E := Lib.hid (chain E.out b)
  have BX := Lib.hid (BX.out.below b)
  have S : Hid (S9 u u2.heap.size x1 x2 x3 y1 y2 y3 z1 z2 z3) := by rw [hu]; exact ⟨by simp [go_sem], by simp [go_sem], by simp [go_sem], by simp [go_sem], by simp [go_sem], by simp [go_sem], by simp [go_sem], by simp [go_sem], by simp [go_sem]⟩
  rw [← hu]
  obtain ⟨gs, hgs⟩ : ∃ gs, gs = u2.heap.size := ⟨_, rfl⟩
  rw [← hgs] at S ⊢
  clear hu b hgs cga0 cga1 cga2 cgb0 cgb1 cgb2 cgc0 cgc1 cgc2
  refine wp_loop_rounds 4 ?_
  rw [rounds_succ]
  obtain ⟨d0, d1, d2, d3, d4, d5, d6, d7, d8⟩ := S.out
  go_upto_region 4 with (fail)
  obtain ⟨t0, hu⟩ : ∃ t0 : World, t0 = u.alloc (.cells #[.int .i64 x1, .int .i64 x2, .int .i64 x3] 23) := ⟨_, rfl⟩
  have b : Below u.heap.size u t0 := by rw [hu]; exact below_one _ _
  have E := Lib.hid (chain E.out b)
  have BX := Lib.hid (BX.out.cons x1 x2 x3)
  rw [← hu] at BX
  rw [← hu]
  obtain ⟨h0, hh0⟩ : ∃ h0, h0 = u.heap.size := ⟨_, rfl⟩
  rw [← hh0] at BX ⊢
  have S := Lib.hid (S.out.below b)
  clear hu b hh0 d0 d1 d2 d3 d4 d5 d6 d7 d8
  obtain ⟨ch00, ch01, ch02⟩ := BX.out (h0, (x1, x2, x3)) (by simp)
  go_wp2
  clear ch00 ch01 ch02
  rw [rounds_succ]
  obtain ⟨d0, d1, d2, d3, d4, d5, d6, d7, d8⟩ := S.out
  go_upto_region 4 with (fail)
  obtain ⟨t1, hu⟩ : ∃ t1 : World, t1 = t0.alloc (.cells #[.int .i64 y1, .int .i64 y2, .int .i64 y3] 23) := ⟨_, rfl⟩
  have b : Below t0.heap.size t0 t1 := by rw [hu]; exact below_one _ _
  have E := Lib.hid (chain E.out b)
  have BX := Lib.hid (BX.out.cons y1 y2 y3)
  rw [← hu] at BX
  rw [← hu]
  obtain ⟨h1, hh1⟩ : ∃ h1, h1 = t0.heap.size := ⟨_, rfl⟩
  rw [← hh1] at BX ⊢
  have S := Lib.hid (S.out.below b)
  clear hu b hh1 d0 d1 d2 d3 d4 d5 d6 d7 d8
  obtain ⟨ch10, ch11, ch12⟩ := BX.out (h1, (y1, y2, y3)) (by simp)
  go_wp2_with fail
  refine (HK.out _).mono ?_
  rintro e y ⟨rfl, b⟩
  have E := Lib.hid (chain E.out b)
  have BX := Lib.hid (BX.out.below b)
  clear b ch10 ch11 ch12
  go_wp2
  go_ret
  exact ⟨rfl, by first | exact E.out | exact E.out.drew⟩

set_option maxRecDepth 100000 in
set_option maxHeartbeats 4000000 in
theorem holds_4lo (x1 x2 x3 y1 y2 y3 z1 z2 z3 num den : Int) (lx1 : ¬ x1 < -16384) (mx1 : ¬ 16384 < x1) (lx2 : ¬ x2 < -16384) (mx2 : ¬ 16384 < x2) (lx3 : ¬ x3 < -16384) (mx3 : ¬ 16384 < x3) (ly1 : ¬ y1 < -16384) (my1 : ¬ 16384 < y1) (ly2 : y2 < -16384)
     (w : World) :
    Calls Try.prog 9 #[vv x1 x2 x3, vv y1 y2 y3, vv z1 z2 z3, .int .i64 num, .int .i64 den] w (Ret (.bool true) w) := by
  have HK := Lib.hid known_true
  have E := Lib.hid (Below.refl w.heap.size w)
  have BX := Lib.hid (Bxs.nil w)
  go_enter Try.func9, Try.ntmps9
  go_upto_region 1 with (fail)
  obtain ⟨u0, hu⟩ : ∃ u0 : World, u0 = w.alloc (.cells #[.int .i64 x1, .int .i64 x2, .int .i64 x3] 23) := ⟨_, rfl⟩
  have b : Below w.heap.size w u0 := by rw [hu]; exact below_one _ _
  have E := Lib.hid (chain E.out b)
  have BX := Lib.hid (BX.out.cons x1 x2 x3)
  rw [← hu] at BX
  have hs : w.heap.size + 1 = u0.heap.size := by rw [hu]; simp
  rw [← hu]
  rw [hs]
  obtain ⟨ga, hga⟩ : ∃ ga, ga = w.heap.size := ⟨_, rfl⟩
  rw [← hga] at BX ⊢
  clear hu b hga hs
  obtain ⟨u1, hu⟩ : ∃ u1 : World, u1 = u0.alloc (.cells #[.int .i64 y1, .int .i64 y2, .int .i64 y3] 23) := ⟨_, rfl⟩
  have b : Below u0.heap.size u0 u1 := by rw [hu]; exact below_one _ _
  have E := Lib.hid (chain E.out b)
  have BX := Lib.hid (BX.out.cons y1 y2 y3)
  rw [← hu] at BX
  have hs : u0.heap.size + 1 = u1.heap.size := by rw [hu]; simp
  rw [← hu]
  rw [hs]
  obtain ⟨gb, hgb⟩ : ∃ gb, gb = u0.heap.size := ⟨_, rfl⟩
  rw [← hgb] at BX ⊢
  clear hu b hgb hs
  obtain ⟨u2, hu⟩ : ∃ u2 : World, u2 = u1.alloc (.cells #[.int .i64 z1, .int .i64 z2, .int .i64 z3] 23) := ⟨_, rfl⟩
  have b : Below u1.heap.size u1 u2 := by rw [hu]; exact below_one _ _
  have E := Lib.hid (chain E.out b)
  have BX := Lib.hid (BX.out.cons z1 z2 z3)
  rw [← hu] at BX
  rw [← hu]
  obtain ⟨gc, hgc⟩ : ∃ gc, gc = u1.heap.size := ⟨_, rfl⟩
  rw [← hgc] at BX ⊢
  clear hu b hgc
  obtain ⟨cga0, cga1, cga2⟩ := BX.out (ga, (x1, x2, x3)) (by simp)
  obtain ⟨cgb0, cgb1, cgb2⟩ := BX.out (gb, (y1, y2, y3)) (by simp)
  obtain ⟨cgc0, cgc1, cgc2⟩ := BX.out (gc, (z1, z2, z3)) (by simp)
  go_wp2
  obtain ⟨u, hu⟩ : ∃ u : World, u = u2.alloc (.cells #[.int .i64 x1, .int .i64 x2, .int .i64 x3, .int .i64 y1, .int .i64 y2, .int .i64 y3, .int .i64 z1, .int .i64 z2, .int .i64 z3] 23) := ⟨_, rfl⟩
  have b : Below u2.heap.size u2 u := by rw [hu]; exact below_one _ _
  have E := Lib.hid (chain E.out b)
  have BX := Lib.hid (BX.out.below b)
  have S : Hid (S9 u u2.heap.size x1 x2 x3 y1 y2 y3 z1 z2 z3) := by rw [hu]; exact ⟨by simp [go_sem], by simp [go_sem], by simp [go_sem], by simp [go_sem], by simp [go_sem], by simp [go_sem], by simp [go_sem], by simp [go_sem], by simp [go_sem]⟩
  rw [← hu]
  obtain ⟨gs, hgs⟩ : ∃ gs, gs = u2.heap.size := ⟨_, rfl⟩
  rw [← hgs] at S ⊢
  clear hu b hgs cga0 cga1 cga2 cgb0 cgb1 cgb2 cgc0 cgc1 cgc2
  refine wp_loop_rounds 4 ?_
  rw [rounds_succ]
  obtain ⟨d0, d1, d2, d3, d4, d5, d6, d7, d8⟩ := S.out
  go_upto_region 4 with (fail)
  obtain ⟨t0, hu⟩ : ∃ t0 : World, t0 = u.alloc (.cells #[.int .i64 x1, .int .i64 x2, .int .i64 x3] 23) := ⟨_, rfl⟩
  have b : Below u.heap.size u t0 := by rw [hu]; exact below_one _ _
  have E := Lib.hid (chain E.out b)
  have BX := Lib.hid (BX.out.cons x1 x2 x3)
  rw [← hu] at BX
  rw [← hu]
  obtain ⟨h0, hh0⟩ : ∃ h0, h0 = u.heap.size := ⟨_, rfl⟩
  rw [← hh0] at BX ⊢
  have S := Lib.hid (S.out.below b)
  clear hu b hh0 d0 d1 d2 d3 d4 d5 d6 d7 d8
  obtain ⟨ch00, ch01, ch02⟩ := BX.out (h0, (x1, x2, x3)) (by simp)
  go_wp2
  clear ch00 ch01 ch02
  rw [rounds_succ]
  obtain ⟨d0, d1, d2, d3, d4, d5, d6, d7, d8⟩ := S.out
  go_upto_region 4 with (fail)
  obtain ⟨t1, hu⟩ : ∃ t1 : World, t1 = t0.alloc (.cells #[.int .i64 y1, .int .i64 y2, .int .i64 y3] 23) := ⟨_, rfl⟩
  have b : Below t0.heap.size t0 t1 := by rw [hu]; exact below_one _ _
  have E := Lib.hid (chain E.out b)
  have BX := Lib.hid (BX.out.cons y1 y2 y3)
  rw [← hu] at BX
  rw [← hu]
  obtain ⟨h1, hh1⟩ : ∃ h1, h1 = t0.heap.size := ⟨_, rfl⟩
  rw [← hh1] at BX ⊢
  have S := Lib.hid (S.out.below b)
  clear hu b hh1 d0 d1 d2 d3 d4 d5 d6 d7 d8
  obtain ⟨ch10, ch11, ch12⟩ := BX.out (h1, (y1, y2, y3)) (by simp)
  go_wp2_with fail
  refine (HK.out _).mono ?_
  rintro e y ⟨rfl, b⟩
  have E := Lib.hid (chain E.out b)
  have BX := Lib.hid (BX.out.below b)
  clear b ch10 ch11 ch12
  go_wp2
  go_ret
  exact ⟨rfl, by first | exact E.out | exact E.out.drew⟩

set_option maxRecDepth 100000 in
set_option maxHeartbeats 4000000 in
theorem holds_4hi (x1 x2 x3 y1 y2 y3 z1 z2 z3 num den : Int) (lx1 : ¬ x1 < -16384) (mx1 : ¬ 16384 < x1) (lx2 : ¬ x2 < -16384) (mx2 : ¬ 16384 < x2) (lx3 : ¬ x3 < -16384) (mx3 : ¬ 16384 < x3) (ly1 : ¬ y1 < -16384) (my1 : ¬ 16384 < y1) (ly2 : ¬ y2 < -16384) (my2 : 16384 < y2)
     (w : World) :
    Calls Try.prog 9 #[vv x1 x2 x3, vv y1 y2 y3, vv z1 z2 z3, .int .i64 num, .int .i64 den] w (Ret (.bool true) w) := by
  have HK := Lib.hid known_true
  have E := Lib.hid (Below.refl w.heap.size w)
  have BX := Lib.hid (Bxs.nil w)
  go_enter Try.func9, Try.ntmps9
  go_upto_region 1 with (fail)
  obtain ⟨u0, hu⟩ : ∃ u0 : World, u0 = w.alloc (.cells #[.int .i64 x1, .int .i64 x2, .int .i64 x3] 23) := ⟨_, rfl⟩
  have b : Below w.heap.size w u0 := by rw [hu]; exact below_one _ _
  have E := Lib.hid (chain E.out b)
  have BX := Lib.hid (BX.out.cons x1 x2 x3)
  rw [← hu] at BX
  have hs : w.heap.size + 1 = u0.heap.size := by rw [hu]; simp
  rw [← hu]
  rw [hs]
  obtain ⟨ga, hga⟩ : ∃ ga, ga = w.heap.size := ⟨_, rfl⟩
  rw [← hga] at BX ⊢
  clear hu b hga hs
  obtain ⟨u1, hu⟩ : ∃ u1 : World, u1 = u0.alloc (.cells #[.int .i64 y1, .int .i64 y2, .int .i64 y3] 23) := ⟨_, rfl⟩
  have b : Below u0.heap.size u0 u1 := by rw [hu]; exact below_one _ _
  have E := Lib.hid (chain E.out b)
  have BX := Lib.hid (BX.out.cons y1 y2 y3)
  rw [← hu] at BX
  have hs : u0.heap.size + 1 = u1.heap.size := by rw [hu]; simp
  rw [← hu]
  rw [hs]
  obtain ⟨gb, hgb⟩ : ∃ gb, gb = u0.heap.size := ⟨_, rfl⟩
  rw [← hgb] at BX ⊢
  clear hu b hgb hs
  obtain ⟨u2, hu⟩ : ∃ u2 : World, u2 = u1.alloc (.cells #[.int .i64 z1, .int .i64 z2, .int .i64 z3] 23) := ⟨_, rfl⟩
  have b : Below u1.heap.size u1 u2 := by rw [hu]; exact below_one _ _
  have E := Lib.hid (chain E.out b)
  have BX := Lib.hid (BX.out.cons z1 z2 z3)
  rw [← hu] at BX
  rw [← hu]
  obtain ⟨gc, hgc⟩ : ∃ gc, gc = u1.heap.size := ⟨_, rfl⟩
  rw [← hgc] at BX ⊢
  clear hu b hgc
  obtain ⟨cga0, cga1, cga2⟩ := BX.out (ga, (x1, x2, x3)) (by simp)
  obtain ⟨cgb0, cgb1, cgb2⟩ := BX.out (gb, (y1, y2, y3)) (by simp)
  obtain ⟨cgc0, cgc1, cgc2⟩ := BX.out (gc, (z1, z2, z3)) (by simp)
  go_wp2
  obtain ⟨u, hu⟩ : ∃ u : World, u = u2.alloc (.cells #[.int .i64 x1, .int .i64 x2, .int .i64 x3, .int .i64 y1, .int .i64 y2, .int .i64 y3, .int .i64 z1, .int .i64 z2, .int .i64 z3] 23) := ⟨_, rfl⟩
  have b : Below u2.heap.size u2 u := by rw [hu]; exact below_one _ _
  have E := Lib.hid (chain E.out b)
  have BX := Lib.hid (BX.out.below b)
  have S : Hid (S9 u u2.heap.size x1 x2 x3 y1 y2 y3 z1 z2 z3) := by rw [hu]; exact ⟨by simp [go_sem], by simp [go_sem], by simp [go_sem], by simp [go_sem], by simp [go_sem], by simp [go_sem], by simp [go_sem], by simp [go_sem], by simp [go_sem]⟩
  rw [← hu]
  obtain ⟨gs, hgs⟩ : ∃ gs, gs = u2.heap.size := ⟨_, rfl⟩
  rw [← hgs] at S ⊢
  clear hu b hgs cga0 cga1 cga2 cgb0 cgb1 cgb2 cgc0 cgc1 cgc2
  refine wp_loop_rounds 4 ?_
  rw [rounds_succ]
  obtain ⟨d0, d1, d2, d3, d4, d5, d6, d7, d8⟩ := S.out
  go_upto_region 4 with (fail)
  obtain ⟨t0, hu⟩ : ∃ t0 : World, t0 = u.alloc (.cells #[.int .i64 x1, .int .i64 x2, .int .i64 x3] 23) := ⟨_, rfl⟩
  have b : Below u.heap.size u t0 := by rw [hu]; exact below_one _ _
  have E := Lib.hid (chain E.out b)
  have BX := Lib.hid (BX.out.cons x1 x2 x3)
  rw [← hu] at BX
  rw [← hu]
  obtain ⟨h0, hh0⟩ : ∃ h0, h0 = u.heap.size := ⟨_, rfl⟩
  rw [← hh0] at BX ⊢
  have S := Lib.hid (S.out.below b)
  clear hu b hh0 d0 d1 d2 d3 d4 d5 d6 d7 d8
  obtain ⟨ch00, ch01, ch02⟩ := BX.out (h0, (x1, x2, x3)) (by simp)
  go_wp2
  clear ch00 ch01 ch02
  rw [rounds_succ]
  obtain ⟨d0, d1, d2, d3, d4, d5, d6, d7, d8⟩ := S.out
  go_upto_region 4 with (fail)
  obtain ⟨t1, hu⟩ : ∃ t1 : World, t1 = t0.alloc (.cells #[.int .i64 y1, .int .i64 y2, .int .i64 y3] 23) := ⟨_, rfl⟩
  have b : Below t0.heap.size t0 t1 := by rw [hu]; exact below_one _ _
  have E := Lib.hid (chain E.out b)
  have BX := Lib.hid (BX.out.cons y1 y2 y3)
  rw [← hu] at BX
  rw [← hu]
  obtain ⟨h1, hh1⟩ : ∃ h1, h1 = t0.heap.size := ⟨_, rfl⟩
  rw [← hh1] at BX ⊢
  have S := Lib.hid (S.out.below b)
  clear hu b hh1 d0 d1 d2 d3 d4 d5 d6 d7 d8
  obtain ⟨ch10, ch11, ch12⟩ := BX.out (h1, (y1, y2, y3)) (by simp)
  go_wp2_with fail
  refine (HK.out _).mono ?_
  rintro e y ⟨rfl, b⟩
  have E := Lib.hid (chain E.out b)
  have BX := Lib.hid (BX.out.below b)
  clear b ch10 ch11 ch12
  go_wp2
  go_ret
  exact ⟨rfl, by first | exact E.out | exact E.out.drew⟩

set_option maxRecDepth 100000 in
set_option maxHeartbeats 4000000 in
theorem holds_5lo (x1 x2 x3 y1 y2 y3 z1 z2 z3 num den : Int) (lx1 : ¬ x1 < -16384) (mx1 : ¬ 16384 < x1) (lx2 : ¬ x2 < -16384) (mx2 : ¬ 16384 < x2) (lx3 : ¬ x3 < -16384) (mx3 : ¬ 16384 < x3) (ly1 : ¬ y1 < -16384) (my1 : ¬ 16384 < y1) (ly2 : ¬ y2 < -16384) (my2 : ¬ 16384 < y2) (ly3 : y3 < -16384)
     (w : World) :
    Calls Try.prog 9 #[vv x1 x2 x3, vv y1 y2 y3, vv z1 z2 z3, .int .i64 num, .int .i64 den] w (Ret (.bool true) w) := by
  have HK := Lib.hid known_true
  have E := Lib.hid (Below.refl w.heap.size w)
  have BX := Lib.hid (Bxs.nil w)
  go_enter Try.func9, Try.ntmps9
  go_upto_region 1 with (fail)
  obtain ⟨u0, hu⟩ : ∃ u0 : World, u0 = w.alloc (.cells #[.int .i64 x1, .int .i64 x2, .int .i64 x3] 23) := ⟨_, rfl⟩
  have b : Below w.heap.size w u0 := by rw [hu]; exact below_one _ _
  have E := Lib.hid (chain E.out b)
  have BX := Lib.hid (BX.out.cons x1 x2 x3)
  rw [← hu] at BX
  have hs : w.heap.size + 1 = u0.heap.size := by rw [hu]; simp
  rw [← hu]
  rw [hs]
  obtain ⟨ga, hga⟩ : ∃ ga, ga = w.heap.size := ⟨_, rfl⟩
  rw [← hga] at BX ⊢
  clear hu b hga hs
  obtain ⟨u1, hu⟩ : ∃ u1 : World, u1 = u0.alloc (.cells #[.int .i64 y1, .int .i64 y2, .int .i64 y3] 23) := ⟨_, rfl⟩
  have b : Below u0.heap.size u0 u1 := by rw [hu]; exact below_one _ _
  have E := Lib.hid (chain E.out b)
  have BX := Lib.hid (BX.out.cons y1 y2 y3)
  rw [← hu] at BX
  have hs : u0.heap.size + 1 = u1.heap.size := by rw [hu]; simp
  rw [← hu]
  rw [hs]
  obtain ⟨gb, hgb⟩ : ∃ gb, gb = u0.heap.size := ⟨_, rfl⟩
  rw [← hgb] at BX ⊢
  clear hu b hgb hs
  obtain ⟨u2, hu⟩ : ∃ u2 : World, u2 = u1.alloc (.cells #[.int .i64 z1, .int .i64 z2, .int .i64 z3] 23) := ⟨_, rfl⟩
  have b : Below u1.heap.size u1 u2 := by rw [hu]; exact below_one _ _
  have E := Lib.hid (chain E.out b)
  have BX := Lib.hid (BX.out.cons z1 z2 z3)
  rw [← hu] at BX
  rw [← hu]
  obtain ⟨gc, hgc⟩ : ∃ gc, gc = u1.heap.size := ⟨_, rfl⟩
  rw [← hgc] at BX ⊢
  clear hu b hgc
  obtain ⟨cga0, cga1, cga2⟩ := BX.out (ga, (x1, x2, x3)) (by simp)
  obtain ⟨cgb0, cgb1, cgb2⟩ := BX.out (gb, (y1, y2, y3)) (by simp)
  obtain ⟨cgc0, cgc1, cgc2⟩ := BX.out (gc, (z1, z2, z3)) (by simp)
  go_wp2
  obtain ⟨u, hu⟩ : ∃ u : World, u = u2.alloc (.cells #[.int .i64 x1, .int .i64 x2, .int .i64 x3, .int .i64 y1, .int .i64 y2, .int .i64 y3, .int .i64 z1, .int .i64 z2, .int .i64 z3] 23) := ⟨_, rfl⟩
  have b : Below u2.heap.size u2 u := by rw [hu]; exact below_one _ _
  have E := Lib.hid (chain E.out b)
  have BX := Lib.hid (BX.out.below b)
  have S : Hid (S9 u u2.heap.size x1 x2 x3 y1 y2 y3 z1 z2 z3) := by rw [hu]; exact ⟨by simp [go_sem], by simp [go_sem], by simp [go_sem], by simp [go_sem], by simp [go_sem], by simp [go_sem], by simp [go_sem], by simp [go_sem], by simp [go_sem]⟩
  rw [← hu]
  obtain ⟨gs, hgs⟩ : ∃ gs, gs = u2.heap.size := ⟨_, rfl⟩
  rw [← hgs] at S ⊢
  clear hu b hgs cga0 cga1 cga2 cgb0 cgb1 cgb2 cgc0 cgc1 cgc2
  refine wp_loop_rounds 4 ?_
  rw [rounds_succ]
  obtain ⟨d0, d1, d2, d3, d4, d5, d6, d7, d8⟩ := S.out
  go_upto_region 4 with (fail)
  obtain ⟨t0, hu⟩ : ∃ t0 : World, t0 = u.alloc (.cells #[.int .i64 x1, .int .i64 x2, .int .i64 x3] 23) := ⟨_, rfl⟩
  have b : Below u.heap.size u t0 := by rw [hu]; exact below_one _ _
  have E := Lib.hid (chain E.out b)
  have BX := Lib.hid (BX.out.cons x1 x2 x3)
  rw [← hu] at BX
  rw [← hu]
  obtain ⟨h0, hh0⟩ : ∃ h0, h0 = u.heap.size := ⟨_, rfl⟩
  rw [← hh0] at BX ⊢
  have S := Lib.hid (S.out.below b)
  clear hu b hh0 d0 d1 d2 d3 d4 d5 d6 d7 d8
  obtain ⟨ch00, ch01, ch02⟩ := BX.out (h0, (x1, x2, x3)) (by simp)
  go_wp2
  clear ch00 ch01 ch02
  rw [rounds_succ]
  obtain ⟨d0, d1, d2, d3, d4, d5, d6, d7, d8⟩ := S.out
  go_upto_region 4 with (fail)
  obtain ⟨t1, hu⟩ : ∃ t1 : World, t1 = t0.alloc (.cells #[.int .i64 y1, .int .i64 y2, .int .i64 y3] 23) := ⟨_, rfl⟩
  have b : Below t0.heap.size t0 t1 := by rw [hu]; exact below_one _ _
  have E := Lib.hid (chain E.out b)
  have BX := Lib.hid (BX.out.cons y1 y2 y3)
  rw [← hu] at BX
  rw [← hu]
  obtain ⟨h1, hh1⟩ : ∃ h1, h1 = t0.heap.size := ⟨_, rfl⟩
  rw [← hh1] at BX ⊢
  have S := Lib.hid (S.out.below b)
  clear hu b hh1 d0 d1 d2 d3 d4 d5 d6 d7 d8
  obtain ⟨ch10, ch11, ch12⟩ := BX.out (h1, (y1, y2, y3)) (by simp)
  go_wp2_with fail
  refine (HK.out _).mono ?_
  rintro e y ⟨rfl, b⟩
  have E := Lib.hid (chain E.out b)
  have BX := Lib.hid (BX.out.below b)
  clear b ch10 ch11 ch12
  go_wp2
  go_ret
  exact ⟨rfl, by first | exact E.out | exact E.out.drew⟩

set_option maxRecDepth 100000 in
set_option maxHeartbeats 4000000 in
theorem holds_5hi (x1 x2 x3 y1 y2 y3 z1 z2 z3 num den : Int) (lx1 : ¬ x1 < -16384) (mx1 : ¬ 16384 < x1) (lx2 : ¬ x2 < -16384) (mx2 : ¬ 16384 < x2) (lx3 : ¬ x3 < -16384) (mx3 : ¬ 16384 < x3) (ly1 : ¬ y1 < -16384) (my1 : ¬ 16384 < y1) (ly2 : ¬ y2 < -16384) (my2 : ¬ 16384 < y2) (ly3 : ¬ y3 < -16384) (my3 : 16384 < y3)
     (w : World) :
    Calls Try.prog 9 #[vv x1 x2 x3, vv y1 y2 y3, vv z1 z2 z3, .int .i64 num, .int .i64 den] w (Ret (.bool true) w) := by
  have HK := Lib.hid known_true
  have E := Lib.hid (Below.refl w.heap.size w)
  have BX := Lib.hid (Bxs.nil w)
  go_enter Try.func9, Try.ntmps9
  go_upto_region 1 with (fail)
  obtain ⟨u0, hu⟩ : ∃ u0 : World, u0 = w.alloc (.cells #[.int .i64 x1, .int .i64 x2, .int .i64 x3] 23) := ⟨_, rfl⟩
  have b : Below w.heap.size w u0 := by rw [hu]; exact below_one _ _
  have E := Lib.hid (chain E.out b)
  have BX := Lib.hid (BX.out.cons x1 x2 x3)
  rw [← hu] at BX
  have hs : w.heap.size + 1 = u0.heap.size := by rw [hu]; simp
  rw [← hu]
  rw [hs]
  obtain ⟨ga, hga⟩ : ∃ ga, ga = w.heap.size := ⟨_, rfl⟩
  rw [← hga] at BX ⊢
  clear hu b hga hs
  obtain ⟨u1, hu⟩ : ∃ u1 : World, u1 = u0.alloc (.cells #[.int .i64 y1, .int .i64 y2, .int .i64 y3] 23) := ⟨_, rfl⟩
  have b : Below u0.heap.size u0 u1 := by rw [hu]; exact below_one _ _
  have E := Lib.hid (chain E.out b)
  have BX := Lib.hid (BX.out.cons y1 y2 y3)
  rw [← hu] at BX
  have hs : u0.heap.size + 1 = u1.heap.size := by rw [hu]; simp
  rw [← hu]
  rw [hs]
  obtain ⟨gb, hgb⟩ : ∃ gb, gb = u0.heap.size := ⟨_, rfl⟩
  rw [← hgb] at BX ⊢
  clear hu b hgb hs
  obtain ⟨u2, hu⟩ : ∃ u2 : World, u2 = u1.alloc (.cells #[.int .i64 z1, .int .i64 z2, .int .i64 z3] 23) := ⟨_, rfl⟩
  have b : Below u1.heap.size u1 u2 := by rw [hu]; exact below_one _ _
  have E := Lib.hid (chain E.out b)
  have BX := Lib.hid (BX.out.cons z1 z2 z3)
  rw [← hu] at BX
  rw [← hu]
  obtain ⟨gc, hgc⟩ : ∃ gc, gc = u1.heap.size := ⟨_, rfl⟩
  rw [← hgc] at BX ⊢
  clear hu b hgc
  obtain ⟨cga0, cga1, cga2⟩ := BX.out (ga, (x1, x2, x3)) (by simp)
  obtain ⟨cgb0, cgb1, cgb2⟩ := BX.out (gb, (y1, y2, y3)) (by simp)
  obtain ⟨cgc0, cgc1, cgc2⟩ := BX.out (gc, (z1, z2, z3)) (by simp)
  go_wp2
  obtain ⟨u, hu⟩ : ∃ u : World, u = u2.alloc (.cells #[.int .i64 x1, .int .i64 x2, .int .i64 x3, .int .i64 y1, .int .i64 y2, .int .i64 y3, .int .i64 z1, .int .i64 z2, .int .i64 z3] 23) := ⟨_, rfl⟩
  have b : Below u2.heap.size u2 u := by rw [hu]; exact below_one _ _
  have E := Lib.hid (chain E.out b)
  have BX := Lib.hid (BX.out.below b)
  have S : Hid (S9 u u2.heap.size x1 x2 x3 y1 y2 y3 z1 z2 z3) := by rw [hu]; exact ⟨by simp [go_sem], by simp [go_sem], by simp [go_sem], by simp [go_sem], by simp [go_sem], by simp [go_sem], by simp [go_sem], by simp [go_sem], by simp [go_sem]⟩
  rw [← hu]
  obtain ⟨gs, hgs⟩ : ∃ gs, gs = u2.heap.size := ⟨_, rfl⟩
  rw [← hgs] at S ⊢
  clear hu b hgs cga0 cga1 cga2 cgb0 cgb1 cgb2 cgc0 cgc1 cgc2
  refine wp_loop_rounds 4 ?_
  rw [rounds_succ]
  obtain ⟨d0, d1, d2, d3, d4, d5, d6, d7, d8⟩ := S.out
  go_upto_region 4 with (fail)
  obtain ⟨t0, hu⟩ : ∃ t0 : World, t0 = u.alloc (.cells #[.int .i64 x1, .int .i64 x2, .int .i64 x3] 23) := ⟨_, rfl⟩
  have b : Below u.heap.size u t0 := by rw [hu]; exact below_one _ _
  have E := Lib.hid (chain E.out b)
  have BX := Lib.hid (BX.out.cons x1 x2 x3)
  rw [← hu] at BX
  rw [← hu]
  obtain ⟨h0, hh0⟩ : ∃ h0, h0 = u.heap.size := ⟨_, rfl⟩
  rw [← hh0] at BX ⊢
  have S := Lib.hid (S.out.below b)
  clear hu b hh0 d0 d1 d2 d3 d4 d5 d6 d7 d8
  obtain ⟨ch00, ch01, ch02⟩ := BX.out (h0, (x1, x2, x3)) (by simp)
  go_wp2
  clear ch00 ch01 ch02
  rw [rounds_succ]
  obtain ⟨d0, d1, d2, d3, d4, d5, d6, d7, d8⟩ := S.out
  go_upto_region 4 with (fail)
  obtain ⟨t1, hu⟩ : ∃ t1 : World, t1 = t0.alloc (.cells #[.int .i64 y1, .int .i64 y2, .int .i64 y3] 23) := ⟨_, rfl⟩
  have b : Below t0.heap.size t0 t1 := by rw [hu]; exact below_one _ _
  have E := Lib.hid (chain E.out b)
  have BX := Lib.hid (BX.out.cons y1 y2 y3)
  rw [← hu] at BX
  rw [← hu]
  obtain ⟨h1, hh1⟩ : ∃ h1, h1 = t0.heap.size := ⟨_, rfl⟩
  rw [← hh1] at BX ⊢
  have S := Lib.hid (S.out.below b)
  clear hu b hh1 d0 d1 d2 d3 d4 d5 d6 d7 d8
  obtain ⟨ch10, ch11, ch12⟩ := BX.out (h1, (y1, y2, y3)) (by simp)
  go_wp2_with fail
  refine (HK.out _).mono ?_
  rintro e y ⟨rfl, b⟩
  have E := Lib.hid (chain E.out b)
  have BX := Lib.hid (BX.out.below b)
  clear b ch10 ch11 ch12
  go_wp2
  go_ret
  exact ⟨rfl, by first | exact E.out | exact E.out.drew⟩

set_option maxRecDepth 100000 in
set_option maxHeartbeats 4000000 in
theorem holds_6lo (x1 x2 x3 y1 y2 y3 z1 z2 z3 num den : Int) (lx1 : ¬ x1 < -16384) (mx1 : ¬ 16384 < x1) (lx2 : ¬ x2 < -16384) (mx2 : ¬ 16384 < x2) (lx3 : ¬ x3 < -16384) (mx3 : ¬ 16384 < x3) (ly1 : ¬ y1 < -16384) (my1 : ¬ 16384 < y1) (ly2 : ¬ y2 < -16384) (my2 : ¬ 16384 < y2) (ly3 : ¬ y3 < -16384) (my3 : ¬ 16384 < y3) (lz1 : z1 < -16384)
     (w : World) :
    Calls Try.prog 9 #[vv x1 x2 x3, vv y1 y2 y3, vv z1 z2 z3, .int .i64 num, .int .i64 den] w (Ret (.bool true) w) := by
  have HK := Lib.hid known_true
  have E := Lib.hid (Below.refl w.heap.size w)
  have BX := Lib.hid (Bxs.nil w)
  go_enter Try.func9, Try.ntmps9
  go_upto_region 1 with (fail)
  obtain ⟨u0, hu⟩ : ∃ u0 : World, u0 = w.alloc (.cells #[.int .i64 x1, .int .i64 x2, .int .i64 x3] 23) := ⟨_, rfl⟩
  have b : Below w.heap.size w u0 := by rw [hu]; exact below_one _ _
  have E := Lib.hid (chain E.out b)
  have BX := Lib.hid (BX.out.cons x1 x2 x3)
  rw [← hu] at BX
  have hs : w.heap.size + 1 = u0.heap.size := by rw [hu]; simp
  rw [← hu]
  rw [hs]
  obtain ⟨ga, hga⟩ : ∃ ga, ga = w.heap.size := ⟨_, rfl⟩
  rw [← hga] at BX ⊢
  clear hu b hga hs
  obtain ⟨u1, hu⟩ : ∃ u1 : World, u1 = u0.alloc (.cells #[.int .i64 y1, .int .i64 y2, .int .i64 y3] 23) := ⟨_, rfl⟩
  have b : Below u0.heap.size u0 u1 := by rw [hu]; exact below_one _ _
  have E := Lib.hid (chain E.out b)
  have BX := Lib.hid (BX.out.cons y1 y2 y3)
  rw [← hu] at BX
  have hs : u0.heap.size + 1 = u1.heap.size := by rw [hu]; simp
  rw [← hu]
  rw [hs]
  obtain ⟨gb, hgb⟩ : ∃ gb, gb = u0.heap.size := ⟨_, rfl⟩
  rw [← hgb] at BX ⊢
  clear hu b hgb hs
  obtain ⟨u2, hu⟩ : ∃ u2 : World, u2 = u1.alloc (.cells #[.int .i64 z1, .int .i64 z2, .int .i64 z3] 23) := ⟨_, rfl⟩
  have b : Below u1.heap.size u1 u2 := by rw [hu]; exact below_one _ _
  have E := Lib.hid (chain E.out b)
  have BX := Lib.hid (BX.out.cons z1 z2 z3)
  rw [← hu] at BX
  rw [← hu]
  obtain ⟨gc, hgc⟩ : ∃ gc, gc = u1.heap.size := ⟨_, rfl⟩
  rw [← hgc] at BX ⊢
  clear hu b hgc
  obtain ⟨cga0, cga1, cga2⟩ := BX.out (ga, (x1, x2, x3)) (by simp)
  obtain ⟨cgb0, cgb1, cgb2⟩ := BX.out (gb, (y1, y2, y3)) (by simp)
  obtain ⟨cgc0, cgc1, cgc2⟩ := BX.out (gc, (z1, z2, z3)) (by simp)
  go_wp2
  obtain ⟨u, hu⟩ : ∃ u : World, u = u2.alloc (.cells #[.int .i64 x1, .int .i64 x2, .int .i64 x3, .int .i64 y1, .int .i64 y2, .int .i64 y3, .int .i64 z1, .int .i64 z2, .int .i64 z3] 23) := ⟨_, rfl⟩
  have b : Below u2.heap.size u2 u := by rw [hu]; exact below_one _ _
  have E := Lib.hid (chain E.out b)
  have BX := Lib.hid (BX.out.below b)
  have S : Hid (S9 u u2.heap.size x1 x2 x3 y1 y2 y3 z1 z2 z3) := by rw [hu]; exact ⟨by simp [go_sem], by simp [go_sem], by simp [go_sem], by simp [go_sem], by simp [go_sem], by simp [go_sem], by simp [go_sem], by simp [go_sem], by simp [go_sem]⟩
  rw [← hu]
  obtain ⟨gs, hgs⟩ : ∃ gs, gs = u2.heap.size := ⟨_, rfl⟩
  rw [← hgs] at S ⊢
  clear hu b hgs cga0 cga1 cga2 cgb0 cgb1 cgb2 cgc0 cgc1 cgc2
  refine wp_loop_rounds 4 ?_
  rw [rounds_succ]
  obtain ⟨d0, d1, d2, d3, d4, d5, d6, d7, d8⟩ := S.out
  go_upto_region 4 with (fail)
  obtain ⟨t0, hu⟩ : ∃ t0 : World, t0 = u.alloc (.cells #[.int .i64 x1, .int .i64 x2, .int .i64 x3] 23) := ⟨_, rfl⟩
  have b : Below u.heap.size u t0 := by rw [hu]; exact below_one _ _
  have E := Lib.hid (chain E.out b)
  have BX := Lib.hid (BX.out.cons x1 x2 x3)
  rw [← hu] at BX
  rw [← hu]
  obtain ⟨h0, hh0⟩ : ∃ h0, h0 = u.heap.size := ⟨_, rfl⟩
  rw [← hh0] at BX ⊢
  have S := Lib.hid (S.out.below b)
  clear hu b hh0 d0 d1 d2 d3 d4 d5 d6 d7 d8
  obtain ⟨ch00, ch01, ch02⟩ := BX.out (h0, (x1, x2, x3)) (by simp)
  go_wp2
  clear ch00 ch01 ch02
  rw [rounds_succ]
  obtain ⟨d0, d1, d2, d3, d4, d5, d6, d7, d8⟩ := S.out
  go_upto_region 4 with (fail)
  obtain ⟨t1, hu⟩ : ∃ t1 : World, t1 = t0.alloc (.cells #[.int .i64 y1, .int .i64 y2, .int .i64 y3] 23) := ⟨_, rfl⟩
  have b : Below t0.heap.size t0 t1 := by rw [hu]; exact below_one _ _
  have E := Lib.hid (chain E.out b)
  have BX := Lib.hid (BX.out.cons y1 y2 y3)
  rw [← hu] at BX
  rw [← hu]
  obtain ⟨h1, hh1⟩ : ∃ h1, h1 = t0.heap.size := ⟨_, rfl⟩
  rw [← hh1] at BX ⊢
  have S := Lib.hid (S.out.below b)
  clear hu b hh1 d0 d1 d2 d3 d4 d5 d6 d7 d8
  obtain ⟨ch10, ch11, ch12⟩ := BX.out (h1, (y1, y2, y3)) (by simp)
  go_wp2
  clear ch10 ch11 ch12
  rw [rounds_succ]
  obtain ⟨d0, d1, d2, d3, d4, d5, d6, d7, d8⟩ := S.out
  go_upto_region 4 with (fail)
  obtain ⟨t2, hu⟩ : ∃ t2 : World, t2 = t1.alloc (.cells #[.int .i64 z1, .int .i64 z2, .int .i64 z3] 23) := ⟨_, rfl⟩
  have b : Below t1.heap.size t1 t2 := by rw [hu]; exact below_one _ _
  have E := Lib.hid (chain E.out b)
  have BX := Lib.hid (BX.out.cons z1 z2 z3)
  rw [← hu] at BX
  rw [← hu]
  obtain ⟨h2, hh2⟩ : ∃ h2, h2 = t1.heap.size := ⟨_, rfl⟩
  rw [← hh2] at BX ⊢
  have S := Lib.hid (S.out.below b)
  clear hu b hh2 d0 d1 d2 d3 d4 d5 d6 d7 d8
  obtain ⟨ch20, ch21, ch22⟩ := BX.out (h2, (z1, z2, z3)) (by simp)
  go_wp2_with fail
  refine (HK.out _).mono ?_
  rintro e y ⟨rfl, b⟩
  have E := Lib.hid (chain E.out b)
  have BX := Lib.hid (BX.out.below b)
  clear b ch20 ch21 ch22
  go_wp2
  go_ret
  exact ⟨rfl, by first | exact E.out | exact E.out.drew⟩

set_option maxRecDepth 100000 in
set_option maxHeartbeats 4000000 in
theorem holds_6hi (x1 x2 x3 y1 y2 y3 z1 z2 z3 num den : Int) (lx1 : ¬ x1 < -16384) (mx1 : ¬ 16384 < x1) (lx2 : ¬ x2 < -16384) (mx2 : ¬ 16384 < x2) (lx3 : ¬ x3 < -16384) (mx3 : ¬ 16384 < x3) (ly1 : ¬ y1 < -16384) (my1 : ¬ 16384 < y1) (ly2 : ¬ y2 < -16384) (my2 : ¬ 16384 < y2) (ly3 : ¬ y3 < -16384) (my3 : ¬ 16384 < y3) (lz1 : ¬ z1 < -16384) (mz1 : 16384 < z1)
     (w : World) :
    Calls Try.prog 9 #[vv x1 x2 x3, vv y1 y2 y3, vv z1 z2 z3, .int .i64 num, .int .i64 den] w (Ret (.bool true) w) := by
  have HK := Lib.hid known_true
  have E := Lib.hid (Below.refl w.heap.size w)
  have BX := Lib.hid (Bxs.nil w)
  go_enter Try.func9, Try.ntmps9
  go_upto_region 1 with (fail)
  obtain ⟨u0, hu⟩ : ∃ u0 : World, u0 = w.alloc (.cells #[.int .i64 x1, .int .i64 x2, .int .i64 x3] 23) := ⟨_, rfl⟩
  have b : Below w.heap.size w u0 := by rw [hu]; exact below_one _ _
  have E := Lib.hid (chain E.out b)
  have BX := Lib.hid (BX.out.cons x1 x2 x3)
  rw [← hu] at BX
  have hs : w.heap.size + 1 = u0.heap.size := by rw [hu]; simp
  rw [← hu]
  rw [hs]
  obtain ⟨ga, hga⟩ : ∃ ga, ga = w.heap.size := ⟨_, rfl⟩
  rw [← hga] at BX ⊢
  clear hu b hga hs
  obtain ⟨u1, hu⟩ : ∃ u1 : World, u1 = u0.alloc (.cells #[.int .i64 y1, .int .i64 y2, .int .i64 y3] 23) := ⟨_, rfl⟩
  have b : Below u0.heap.size u0 u1 := by rw [hu]; exact below_one _ _
  have E := Lib.hid (chain E.out b)
  have BX := Lib.hid (BX.out.cons y1 y2 y3)
  rw [← hu] at BX
  have hs : u0.heap.size + 1 = u1.heap.size := by rw [hu]; simp
  rw [← hu]
  rw [hs]
  obtain ⟨gb, hgb⟩ : ∃ gb, gb = u0.heap.size := ⟨_, rfl⟩
  rw [← hgb] at BX ⊢
  clear hu b hgb hs
  obtain ⟨u2, hu⟩ : ∃ u2 : World, u2 = u1.alloc (.cells #[.int .i64 z1, .int .i64 z2, .int .i64 z3] 23) := ⟨_, rfl⟩
  have b : Below u1.heap.size u1 u2 := by rw [hu]; exact below_one _ _
  have E := Lib.hid (chain E.out b)
  have BX := Lib.hid (BX.out.cons z1 z2 z3)
  rw [← hu] at BX
  rw [← hu]
  obtain ⟨gc, hgc⟩ : ∃ gc, gc = u1.heap.size := ⟨_, rfl⟩
  rw [← hgc] at BX ⊢
  clear hu b hgc
  obtain ⟨cga0, cga1, cga2⟩ := BX.out (ga, (x1, x2, x3)) (by simp)
  obtain ⟨cgb0, cgb1, cgb2⟩ := BX.out (gb, (y1, y2, y3)) (by simp)
  obtain ⟨cgc0, cgc1, cgc2⟩ := BX.out (gc, (z1, z2, z3)) (by simp)
  go_wp2
  obtain ⟨u, hu⟩ : ∃ u : World, u = u2.alloc (.cells #[.int .i64 x1, .int .i64 x2, .int .i64 x3, .int .i64 y1, .int .i64 y2, .int .i64 y3, .int .i64 z1, .int .i64 z2, .int .i64 z3] 23) := ⟨_, rfl⟩
  have b : Below u2.heap.size u2 u := by rw [hu]; exact below_one _ _
  have E := Lib.hid (chain E.out b)
  have BX := Lib.hid (BX.out.below b)
  have S : Hid (S9 u u2.heap.size x1 x2 x3 y1 y2 y3 z1 z2 z3) := by rw [hu]; exact ⟨by simp [go_sem], by simp [go_sem], by simp [go_sem], by simp [go_sem], by simp [go_sem], by simp [go_sem], by simp [go_sem], by simp [go_sem], by simp [go_sem]⟩
  rw [← hu]
  obtain ⟨gs, hgs⟩ : ∃ gs, gs = u2.heap.size := ⟨_, rfl⟩
  rw [← hgs] at S ⊢
  clear hu b hgs cga0 cga1 cga2 cgb0 cgb1 cgb2 cgc0 cgc1 cgc2
  refine wp_loop_rounds 4 ?_
  rw [rounds_succ]
  obtain ⟨d0, d1, d2, d3, d4, d5, d6, d7, d8⟩ := S.out
  go_upto_region 4 with (fail)
  obtain ⟨t0, hu⟩ : ∃ t0 : World, t0 = u.alloc (.cells #[.int .i64 x1, .int .i64 x2, .int .i64 x3] 23) := ⟨_, rfl⟩
  have b : Below u.heap.size u t0 := by rw [hu]; exact below_one _ _
  have E := Lib.hid (chain E.out b)
  have BX := Lib.hid (BX.out.cons x1 x2 x3)
  rw [← hu] at BX
  rw [← hu]
  obtain ⟨h0, hh0⟩ : ∃ h0, h0 = u.heap.size := ⟨_, rfl⟩
  rw [← hh0] at BX ⊢
  have S := Lib.hid (S.out.below b)
  clear hu b hh0 d0 d1 d2 d3 d4 d5 d6 d7 d8
  obtain ⟨ch00, ch01, ch02⟩ := BX.out (h0, (x1, x2, x3)) (by simp)
  go_wp2
  clear ch00 ch01 ch02
  rw [rounds_succ]
  obtain ⟨d0, d1, d2, d3, d4, d5, d6, d7, d8⟩ := S.out
  go_upto_region 4 with (fail)
  obtain ⟨t1, hu⟩ : ∃ t1 : World, t1 = t0.alloc (.cells #[.int .i64 y1, .int .i64 y2, .int .i64 y3] 23) := ⟨_, rfl⟩
  have b : Below t0.heap.size t0 t1 := by rw [hu]; exact below_one _ _
  have E := Lib.hid (chain E.out b)
  have BX := Lib.hid (BX.out.cons y1 y2 y3)
  rw [← hu] at BX
  rw [← hu]
  obtain ⟨h1, hh1⟩ : ∃ h1, h1 = t0.heap.size := ⟨_, rfl⟩
  rw [← hh1] at BX ⊢
  have S := Lib.hid (S.out.below b)
  clear hu b hh1 d0 d1 d2 d3 d4 d5 d6 d7 d8
  obtain ⟨ch10, ch11, ch12⟩ := BX.out (h1, (y1, y2, y3)) (by simp)
  go_wp2
  clear ch10 ch11 ch12
  rw [rounds_succ]
  obtain ⟨d0, d1, d2, d3, d4, d5, d6, d7, d8⟩ := S.out
  go_upto_region 4 with (fail)
  obtain ⟨t2, hu⟩ : ∃ t2 : World, t2 = t1.alloc (.cells #[.int .i64 z1, .int .i64 z2, .int .i64 z3] 23) := ⟨_, rfl⟩
  have b : Below t1.heap.size t1 t2 := by rw [hu]; exact below_one _ _
  have E := Lib.hid (chain E.out b)
  have BX := Lib.hid (BX.out.cons z1 z2 z3)
  rw [← hu] at BX
  rw [← hu]
  obtain ⟨h2, hh2⟩ : ∃ h2, h2 = t1.heap.size := ⟨_, rfl⟩
  rw [← hh2] at BX ⊢
  have S := Lib.hid (S.out.below b)
  clear hu b hh2 d0 d1 d2 d3 d4 d5 d6 d7 d8
  obtain ⟨ch20, ch21, ch22⟩ := BX.out (h2, (z1, z2, z3)) (by simp)
  go_wp2_with fail
  refine (HK.out _).mono ?_
  rintro e y ⟨rfl, b⟩
  have E := Lib.hid (chain E.out b)
  have BX := Lib.hid (BX.out.below b)
  clear b ch20 ch21 ch22
  go_wp2
  go_ret
  exact ⟨rfl, by first | exact E.out | exact E.out.drew⟩

set_option maxRecDepth 100000 in
set_option maxHeartbeats 4000000 in
theorem holds_7lo (x1 x2 x3 y1 y2 y3 z1 z2 z3 num den : Int) (lx1 : ¬ x1 < -16384) (mx1 : ¬ 16384 < x1) (lx2 : ¬ x2 < -16384) (mx2 : ¬ 16384 < x2) (lx3 : ¬ x3 < -16384) (mx3 : ¬ 16384 < x3) (ly1 : ¬ y1 < -16384) (my1 : ¬ 16384 < y1) (ly2 : ¬ y2 < -16384) (my2 : ¬ 16384 < y2) (ly3 : ¬ y3 < -16384) (my3 : ¬ 16384 < y3) (lz1 : ¬ z1 < -16384) (mz1 : ¬ 16384 < z1) (lz2 : z2 < -16384)
     (w : World) :
    Calls Try.prog 9 #[vv x1 x2 x3, vv y1 y2 y3, vv z1 z2 z3, .int .i64 num, .int .i64 den] w (Ret (.bool true) w) := by
  have HK := Lib.hid known_true
  have E := Lib.hid (Below.refl w.heap.size w)
  have BX := Lib.hid (Bxs.nil w)
  go_enter Try.func9, Try.ntmps9
  go_upto_region 1 with (fail)
  obtain ⟨u0, hu⟩ : ∃ u0 : World, u0 = w.alloc (.cells #[.int .i64 x1, .int .i64 x2, .int .i64 x3] 23) := ⟨_, rfl⟩
  have b : Below w.heap.size w u0 := by rw [hu]; exact below_one _ _
  have E := Lib.hid (chain E.out b)
  have BX := Lib.hid (BX.out.cons x1 x2 x3)
  rw [← hu] at BX
  have hs : w.heap.size + 1 = u0.heap.size := by rw [hu]; simp
  rw [← hu]
  rw [hs]
  obtain ⟨ga, hga⟩ : ∃ ga, ga = w.heap.size := ⟨_, rfl⟩
  rw [← hga] at BX ⊢
  clear hu b hga hs
  obtain ⟨u1, hu⟩ : ∃ u1 : World, u1 = u0.alloc (.cells #[.int .i64 y1, .int .i64 y2, .int .i64 y3] 23) := ⟨_, rfl⟩
  have b : Below u0.heap.size u0 u1 := by rw [hu]; exact below_one _ _
  have E := Lib.hid (chain E.out b)
  have BX := Lib.hid (BX.out.cons y1 y2 y3)
  rw [← hu] at BX
  have hs : u0.heap.size + 1 = u1.heap.size := by rw [hu]; simp
  rw [← hu]
  rw [hs]
  obtain ⟨gb, hgb⟩ : ∃ gb, gb = u0.heap.size := ⟨_, rfl⟩
  rw [← hgb] at BX ⊢
  clear hu b hgb hs
  obtain ⟨u2, hu⟩ : ∃ u2 : World, u2 = u1.alloc (.cells #[.int .i64 z1, .int .i64 z2, .int .i64 z3] 23) := ⟨_, rfl⟩
  have b : Below u1.heap.size u1 u2 := by rw [hu]; exact below_one _ _
  have E := Lib.hid (chain E.out b)
  have BX := Lib.hid (BX.out.cons z1 z2 z3)
  rw [← hu] at BX
  rw [← hu]
  obtain ⟨gc, hgc⟩ : ∃ gc, gc = u1.heap.size := ⟨_, rfl⟩
  rw [← hgc] at BX ⊢
  clear hu b hgc
  obtain ⟨cga0, cga1, cga2⟩ := BX.out (ga, (x1, x2, x3)) (by simp)
  obtain ⟨cgb0, cgb1, cgb2⟩ := BX.out (gb, (y1, y2, y3)) (by simp)
  obtain ⟨cgc0, cgc1, cgc2⟩ := BX.out (gc, (z1, z2, z3)) (by simp)
  go_wp2
  obtain ⟨u, hu⟩ : ∃ u : World, u = u2.alloc (.cells #[.int .i64 x1, .int .i64 x2, .int .i64 x3, .int .i64 y1, .int .i64 y2, .int .i64 y3, .int .i64 z1, .int .i64 z2, .int .i64 z3] 23) := ⟨_, rfl⟩
  have b : Below u2.heap.size u2 u := by rw [hu]; exact below_one _ _
  have E := Lib.hid (chain E.out b)
  have BX := Lib.hid (BX.out.below b)
  have S : Hid (S9 u u2.heap.size x1 x2 x3 y1 y2 y3 z1 z2 z3) := by rw [hu]; exact ⟨by simp [go_sem], by simp [go_sem], by simp [go_sem], by simp [go_sem], by simp [go_sem], by simp [go_sem], by simp [go_sem], by simp [go_sem], by simp [go_sem]⟩
  rw [← hu]
  obtain ⟨gs, hgs⟩ : ∃ gs, gs = u2.heap.size := ⟨_, rfl⟩
  rw [← hgs] at S ⊢
  clear hu b hgs cga0 cga1 cga2 cgb0 cgb1 cgb2 cgc0 cgc1 cgc2
  refine wp_loop_rounds 4 ?_
  rw [rounds_succ]
  obtain ⟨d0, d1, d2, d3, d4, d5, d6, d7, d8⟩ := S.out
  go_upto_region 4 with (fail)
  obtain ⟨t0, hu⟩ : ∃ t0 : World, t0 = u.alloc (.cells #[.int .i64 x1, .int .i64 x2, .int .i64 x3] 23) := ⟨_, rfl⟩
  have b : Below u.heap.size u t0 := by rw [hu]; exact below_one _ _
  have E := Lib.hid (chain E.out b)
  have BX := Lib.hid (BX.out.cons x1 x2 x3)
  rw [← hu] at BX
  rw [← hu]
  obtain ⟨h0, hh0⟩ : ∃ h0, h0 = u.heap.size := ⟨_, rfl⟩
  rw [← hh0] at BX ⊢
  have S := Lib.hid (S.out.below b)
  clear hu b hh0 d0 d1 d2 d3 d4 d5 d6 d7 d8
  obtain ⟨ch00, ch01, ch02⟩ := BX.out (h0, (x1, x2, x3)) (by simp)
  go_wp2
  clear ch00 ch01 ch02
  rw [rounds_succ]
  obtain ⟨d0, d1, d2, d3, d4, d5, d6, d7, d8⟩ := S.out
  go_upto_region 4 with (fail)
  obtain ⟨t1, hu⟩ : ∃ t1 : World, t1 = t0.alloc (.cells #[.int .i64 y1, .int .i64 y2, .int .i64 y3] 23) := ⟨_, rfl⟩
  have b : Below t0.heap.size t0 t1 := by rw [hu]; exact below_one _ _
  have E := Lib.hid (chain E.out b)
  have BX := Lib.hid (BX.out.cons y1 y2 y3)
  rw [← hu] at BX
  rw [← hu]
  obtain ⟨h1, hh1⟩ : ∃ h1, h1 = t0.heap.size := ⟨_, rfl⟩
  rw [← hh1] at BX ⊢
  have S := Lib.hid (S.out.below b)
  clear hu b hh1 d0 d1 d2 d3 d4 d5 d6 d7 d8
  obtain ⟨ch10, ch11, ch12⟩ := BX.out (h1, (y1, y2, y3)) (by simp)
  go_wp2
  clear ch10 ch11 ch12
  rw [rounds_succ]
  obtain ⟨d0, d1, d2, d3, d4, d5, d6, d7, d8⟩ := S.out
  go_upto_region 4 with (fail)
  obtain ⟨t2, hu⟩ : ∃ t2 : World, t2 = t1.alloc (.cells #[.int .i64 z1, .int .i64 z2, .int .i64 z3] 23) := ⟨_, rfl⟩
  have b : Below t1.heap.size t1 t2 := by rw [hu]; exact below_one _ _
  have E := Lib.hid (chain E.out b)
  have BX := Lib.hid (BX.out.cons z1 z2 z3)
  rw [← hu] at BX
  rw [← hu]
  obtain ⟨h2, hh2⟩ : ∃ h2, h2 = t1.heap.size := ⟨_, rfl⟩
  rw [← hh2] at BX ⊢
  have S := Lib.hid (S.out.below b)
  clear hu b hh2 d0 d1 d2 d3 d4 d5 d6 d7 d8
  obtain ⟨ch20, ch21, ch22⟩ := BX.out (h2, (z1, z2, z3)) (by simp)
  go_wp2_with fail
  refine (HK.out _).mono ?_
  rintro e y ⟨rfl, b⟩
  have E := Lib.hid (chain E.out b)
  have BX := Lib.hid (BX.out.below b)
  clear b ch20 ch21 ch22
  go_wp2
  go_ret
  exact ⟨rfl, by first | exact E.out | exact E.out.drew⟩

set_option maxRecDepth 100000 in
set_option maxHeartbeats 4000000 in
theorem holds_7hi (x1 x2 x3 y1 y2 y3 z1 z2 z3 num den : Int) (lx1 : ¬ x1 < -16384) (mx1 : ¬ 16384 < x1) (lx2 : ¬ x2 < -16384) (mx2 : ¬ 16384 < x2) (lx3 : ¬ x3 < -16384) (mx3 : ¬ 16384 < x3) (ly1 : ¬ y1 < -16384) (my1 : ¬ 16384 < y1) (ly2 : ¬ y2 < -16384) (my2 : ¬ 16384 < y2) (ly3 : ¬ y3 < -16384) (my3 : ¬ 16384 < y3) (lz1 : ¬ z1 < -16384) (mz1 : ¬ 16384 < z1) (lz2 : ¬ z2 < -16384) (mz2 : 16384 < z2)
     (w : World) :
    Calls Try.prog 9 #[vv x1 x2 x3, vv y1 y2 y3, vv z1 z2 z3, .int .i64 num, .int .i64 den] w (Ret (.bool true) w) := by
  have HK := Lib.hid known_true
  have E := Lib.hid (Below.refl w.heap.size w)
  have BX := Lib.hid (Bxs.nil w)
  go_enter Try.func9, Try.ntmps9
  go_upto_region 1 with (fail)
  obtain ⟨u0, hu⟩ : ∃ u0 : World, u0 = w.alloc (.cells #[.int .i64 x1, .int .i64 x2, .int .i64 x3] 23) := ⟨_, rfl⟩
  have b : Below w.heap.size w u0 := by rw [hu]; exact below_one _ _
  have E := Lib.hid (chain E.out b)
  have BX := Lib.hid (BX.out.cons x1 x2 x3)
  rw [← hu] at BX
  have hs : w.heap.size + 1 = u0.heap.size := by rw [hu]; simp
  rw [← hu]
  rw [hs]
  obtain ⟨ga, hga⟩ : ∃ ga, ga = w.heap.size := ⟨_, rfl⟩
  rw [← hga] at BX ⊢
  clear hu b hga hs
  obtain ⟨u1, hu⟩ : ∃ u1 : World, u1 = u0.alloc (.cells #[.int .i64 y1, .int .i64 y2, .int .i64 y3] 23) := ⟨_, rfl⟩
  have b : Below u0.heap.size u0 u1 := by rw [hu]; exact below_one _ _
  have E := Lib.hid (chain E.out b)
  have BX := Lib.hid (BX.out.cons y1 y2 y3)
  rw [← hu] at BX
  have hs : u0.heap.size + 1 = u1.heap.size := by rw [hu]; simp
  rw [← hu]
  rw [hs]
  obtain ⟨gb, hgb⟩ : ∃ gb, gb = u0.heap.size := ⟨_, rfl⟩
  rw [← hgb] at BX ⊢
  clear hu b hgb hs
  obtain ⟨u2, hu⟩ : ∃ u2 : World, u2 = u1.alloc (.cells #[.int .i64 z1, .int .i64 z2, .int .i64 z3] 23) := ⟨_, rfl⟩
  have b : Below u1.heap.size u1 u2 := by rw [hu]; exact below_one _ _
  have E := Lib.hid (chain E.out b)
  have BX := Lib.hid (BX.out.cons z1 z2 z3)
  rw [← hu] at BX
  rw [← hu]
  obtain ⟨gc, hgc⟩ : ∃ gc, gc = u1.heap.size := ⟨_, rfl⟩
  rw [← hgc] at BX ⊢
  clear hu b hgc
  obtain ⟨cga0, cga1, cga2⟩ := BX.out (ga, (x1, x2, x3)) (by simp)
  obtain ⟨cgb0, cgb1, cgb2⟩ := BX.out (gb, (y1, y2, y3)) (by simp)
  obtain ⟨cgc0, cgc1, cgc2⟩ := BX.out (gc, (z1, z2, z3)) (by simp)
  go_wp2
  obtain ⟨u, hu⟩ : ∃ u : World, u = u2.alloc (.cells #[.int .i64 x1, .int .i64 x2, .int .i64 x3, .int .i64 y1, .int .i64 y2, .int .i64 y3, .int .i64 z1, .int .i64 z2, .int .i64 z3] 23) := ⟨_, rfl⟩
  have b : Below u2.heap.size u2 u := by rw [hu]; exact below_one _ _
  have E := Lib.hid (chain E.out b)
  have BX := Lib.hid (BX.out.below b)
  have S : Hid (S9 u u2.heap.size x1 x2 x3 y1 y2 y3 z1 z2 z3) := by rw [hu]; exact ⟨by simp [go_sem], by simp [go_sem], by simp [go_sem], by simp [go_sem], by simp [go_sem], by simp [go_sem], by simp [go_sem], by simp [go_sem], by simp [go_sem]⟩
  rw [← hu]
  obtain ⟨gs, hgs⟩ : ∃ gs, gs = u2.heap.size := ⟨_, rfl⟩
  rw [← hgs] at S ⊢
  clear hu b hgs cga0 cga1 cga2 cgb0 cgb1 cgb2 cgc0 cgc1 cgc2
  refine wp_loop_rounds 4 ?_
  rw [rounds_succ]
  obtain ⟨d0, d1, d2, d3, d4, d5, d6, d7, d8⟩ := S.out
  go_upto_region 4 with (fail)
  obtain ⟨t0, hu⟩ : ∃ t0 : World, t0 = u.alloc (.cells #[.int .i64 x1, .int .i64 x2, .int .i64 x3] 23) := ⟨_, rfl⟩
  have b : Below u.heap.size u t0 := by rw [hu]; exact below_one _ _
  have E := Lib.hid (chain E.out b)
  have BX := Lib.hid (BX.out.cons x1 x2 x3)
  rw [← hu] at BX
  rw [← hu]
  obtain ⟨h0, hh0⟩ : ∃ h0, h0 = u.heap.size := ⟨_, rfl⟩
  rw [← hh0] at BX ⊢
  have S := Lib.hid (S.out.below b)
  clear hu b hh0 d0 d1 d2 d3 d4 d5 d6 d7 d8
  obtain ⟨ch00, ch01, ch02⟩ := BX.out (h0, (x1, x2, x3)) (by simp)
  go_wp2
  clear ch00 ch01 ch02
  rw [rounds_succ]
  obtain ⟨d0, d1, d2, d3, d4, d5, d6, d7, d8⟩ := S.out
  go_upto_region 4 with (fail)
  obtain ⟨t1, hu⟩ : ∃ t1 : World, t1 = t0.alloc (.cells #[.int .i64 y1, .int .i64 y2, .int .i64 y3] 23) := ⟨_, rfl⟩
  have b : Below t0.heap.size t0 t1 := by rw [hu]; exact below_one _ _
  have E := Lib.hid (chain E.out b)
  have BX := Lib.hid (BX.out.cons y1 y2 y3)
  rw [← hu] at BX
  rw [← hu]
  obtain ⟨h1, hh1⟩ : ∃ h1, h1 = t0.heap.size := ⟨_, rfl⟩
  rw [← hh1] at BX ⊢
  have S := Lib.hid (S.out.below b)
  clear hu b hh1 d0 d1 d2 d3 d4 d5 d6 d7 d8
  obtain ⟨ch10, ch11, ch12⟩ := BX.out (h1, (y1, y2, y3)) (by simp)
  go_wp2
  clear ch10 ch11 ch12
  rw [rounds_succ]
  obtain ⟨d0, d1, d2, d3, d4, d5, d6, d7, d8⟩ := S.out
  go_upto_region 4 with (fail)
  obtain ⟨t2, hu⟩ : ∃ t2 : World, t2 = t1.alloc (.cells #[.int .i64 z1, .int .i64 z2, .int .i64 z3] 23) := ⟨_, rfl⟩
  have b : Below t1.heap.size t1 t2 := by rw [hu]; exact below_one _ _
  have E := Lib.hid (chain E.out b)
  have BX := Lib.hid (BX.out.cons z1 z2 z3)
  rw [← hu] at BX
  rw [← hu]
  obtain ⟨h2, hh2⟩ : ∃ h2, h2 = t1.heap.size := ⟨_, rfl⟩
  rw [← hh2] at BX ⊢
  have S := Lib.hid (S.out.below b)
  clear hu b hh2 d0 d1 d2 d3 d4 d5 d6 d7 d8
  obtain ⟨ch20, ch21, ch22⟩ := BX.out (h2, (z1, z2, z3)) (by simp)
  go_wp2_with fail
  refine (HK.out _).mono ?_
  rintro e y ⟨rfl, b⟩
  have E := Lib.hid (chain E.out b)
  have BX := Lib.hid (BX.out.below b)
  clear b ch20 ch21 ch22
  go_wp2
  go_ret
  exact ⟨rfl, by first | exact E.out | exact E.out.drew⟩

set_option maxRecDepth 100000 in
set_option maxHeartbeats 4000000 in
theorem holds_8lo (x1 x2 x3 y1 y2 y3 z1 z2 z3 num den : Int) (lx1 : ¬ x1 < -16384) (mx1 : ¬ 16384 < x1) (lx2 : ¬ x2 < -16384) (mx2 : ¬ 16384 < x2) (lx3 : ¬ x3 < -16384) (mx3 : ¬ 16384 < x3) (ly1 : ¬ y1 < -16384) (my1 : ¬ 16384 < y1) (ly2 : ¬ y2 < -16384) (my2 : ¬ 16384 < y2) (ly3 : ¬ y3 < -16384) (my3 : ¬ 16384 < y3) (lz1 : ¬ z1 < -16384) (mz1 : ¬ 16384 < z1) (lz2 : ¬ z2 < -16384) (mz2 : ¬ 16384 < z2) (lz3 : z3 < -16384)
     (w : World) :
    Calls Try.prog 9 #[vv x1 x2 x3, vv y1 y2 y3, vv z1 z2 z3, .int .i64 num, .int .i64 den] w (Ret (.bool true) w) := by
  have HK := Lib.hid known_true
  have E := Lib.hid (Below.refl w.heap.size w)
  have BX := Lib.hid (Bxs.nil w)
  go_enter Try.func9, Try.ntmps9
  go_upto_region 1 with (fail)
  obtain ⟨u0, hu⟩ : ∃ u0 : World, u0 = w.alloc (.cells #[.int .i64 x1, .int .i64 x2, .int .i64 x3] 23) := ⟨_, rfl⟩
  have b : Below w.heap.size w u0 := by rw [hu]; exact below_one _ _
  have E := Lib.hid (chain E.out b)
  have BX := Lib.hid (BX.out.cons x1 x2 x3)
  rw [← hu] at BX
  have hs : w.heap.size + 1 = u0.heap.size := by rw [hu]; simp
  rw [← hu]
  rw [hs]
  obtain ⟨ga, hga⟩ : ∃ ga, ga = w.heap.size := ⟨_, rfl⟩
  rw [← hga] at BX ⊢
  clear hu b hga hs
  obtain ⟨u1, hu⟩ : ∃ u1 : World, u1 = u0.alloc (.cells #[.int .i64 y1, .int .i64 y2, .int .i64 y3] 23) := ⟨_, rfl⟩
  have b : Below u0.heap.size u0 u1 := by rw [hu]; exact below_one _ _
  have E := Lib.hid (chain E.out b)
  have BX := Lib.hid (BX.out.cons y1 y2 y3)
  rw [← hu] at BX
  have hs : u0.heap.size + 1 = u1.heap.size := by rw [hu]; simp
  rw [← hu]
  rw [hs]
  obtain ⟨gb, hgb⟩ : ∃ gb, gb = u0.heap.size := ⟨_, rfl⟩
  rw [← hgb] at BX ⊢
  clear hu b hgb hs
  obtain ⟨u2, hu⟩ : ∃ u2 : World, u2 = u1.alloc (.cells #[.int .i64 z1, .int .i64 z2, .int .i64 z3] 23) := ⟨_, rfl⟩
  have b : Below u1.heap.size u1 u2 := by rw [hu]; exact below_one _ _
  have E := Lib.hid (chain E.out b)
  have BX := Lib.hid (BX.out.cons z1 z2 z3)
  rw [← hu] at BX
  rw [← hu]
  obtain ⟨gc, hgc⟩ : ∃ gc, gc = u1.heap.size := ⟨_, rfl⟩
  rw [← hgc] at BX ⊢
  clear hu b hgc
  obtain ⟨cga0, cga1, cga2⟩ := BX.out (ga, (x1, x2, x3)) (by simp)
  obtain ⟨cgb0, cgb1, cgb2⟩ := BX.out (gb, (y1, y2, y3)) (by simp)
  obtain ⟨cgc0, cgc1, cgc2⟩ := BX.out (gc, (z1, z2, z3)) (by simp)
  go_wp2
  obtain ⟨u, hu⟩ : ∃ u : World, u = u2.alloc (.cells #[.int .i64 x1, .int .i64 x2, .int .i64 x3, .int .i64 y1, .int .i64 y2, .int .i64 y3, .int .i64 z1, .int .i64 z2, .int .i64 z3] 23) := ⟨_, rfl⟩
  have b : Below u2.heap.size u2 u := by rw [hu]; exact below_one _ _
  have E := Lib.hid (chain E.out b)
  have BX := Lib.hid (BX.out.below b)
  have S : Hid (S9 u u2.heap.size x1 x2 x3 y1 y2 y3 z1 z2 z3) := by rw [hu]; exact ⟨by simp [go_sem], by simp [go_sem], by simp [go_sem], by simp [go_sem], by simp [go_sem], by simp [go_sem], by simp [go_sem], by simp [go_sem], by simp [go_sem]⟩
  rw [← hu]
  obtain ⟨gs, hgs⟩ : ∃ gs, gs = u2.heap.size := ⟨_, rfl⟩
  rw [← hgs] at S ⊢
  clear hu b hgs cga0 cga1 cga2 cgb0 cgb1 cgb2 cgc0 cgc1 cgc2
  refine wp_loop_rounds 4 ?_
  rw [rounds_succ]
  obtain ⟨d0, d1, d2, d3, d4, d5, d6, d7, d8⟩ := S.out
  go_upto_region 4 with (fail)
  obtain ⟨t0, hu⟩ : ∃ t0 : World, t0 = u.alloc (.cells #[.int .i64 x1, .int .i64 x2, .int .i64 x3] 23) := ⟨_, rfl⟩
  have b : Below u.heap.size u t0 := by rw [hu]; exact below_one _ _
  have E := Lib.hid (chain E.out b)
  have BX := Lib.hid (BX.out.cons x1 x2 x3)
  rw [← hu] at BX
  rw [← hu]
  obtain ⟨h0, hh0⟩ : ∃ h0, h0 = u.heap.size := ⟨_, rfl⟩
  rw [← hh0] at BX ⊢
  have S := Lib.hid (S.out.below b)
  clear hu b hh0 d0 d1 d2 d3 d4 d5 d6 d7 d8
  obtain ⟨ch00, ch01, ch02⟩ := BX.out (h0, (x1, x2, x3)) (by simp)
  go_wp2
  clear ch00 ch01 ch02
  rw [rounds_succ]
  obtain ⟨d0, d1, d2, d3, d4, d5, d6, d7, d8⟩ := S.out
  go_upto_region 4 with (fail)
  obtain ⟨t1, hu⟩ : ∃ t1 : World, t1 = t0.alloc (.cells #[.int .i64 y1, .int .i64 y2, .int .i64 y3] 23) := ⟨_, rfl⟩
  have b : Below t0.heap.size t0 t1 := by rw [hu]; exact below_one _ _
  have E := Lib.hid (chain E.out b)
  have BX := Lib.hid (BX.out.cons y1 y2 y3)
  rw [← hu] at BX
  rw [← hu]
  obtain ⟨h1, hh1⟩ : ∃ h1, h1 = t0.heap.size := ⟨_, rfl⟩
  rw [← hh1] at BX ⊢
  have S := Lib.hid (S.out.below b)
  clear hu b hh1 d0 d1 d2 d3 d4 d5 d6 d7 d8
  obtain ⟨ch10, ch11, ch12⟩ := BX.out (h1, (y1, y2, y3)) (by simp)
  go_wp2
  clear ch10 ch11 ch12
  rw [rounds_succ]
  obtain ⟨d0, d1, d2, d3, d4, d5, d6, d7, d8⟩ := S.out
  go_upto_region 4 with (fail)
  obtain ⟨t2, hu⟩ : ∃ t2 : World, t2 = t1.alloc (.cells #[.int .i64 z1, .int .i64 z2, .int .i64 z3] 23) := ⟨_, rfl⟩
  have b : Below t1.heap.size t1 t2 := by rw [hu]; exact below_one _ _
  have E := Lib.hid (chain E.out b)
  have BX := Lib.hid (BX.out.cons z1 z2 z3)
  rw [← hu] at BX
  rw [← hu]
  obtain ⟨h2, hh2⟩ : ∃ h2, h2 = t1.heap.size := ⟨_, rfl⟩
  rw [← hh2] at BX ⊢
  have S := Lib.hid (S.out.below b)
  clear hu b hh2 d0 d1 d2 d3 d4 d5 d6 d7 d8
  obtain ⟨ch20, ch21, ch22⟩ := BX.out (h2, (z1, z2, z3)) (by simp)
  go_wp2_with fail
  refine (HK.out _).mono ?_
  rintro e y ⟨rfl, b⟩
  have E := Lib.hid (chain E.out b)
  have BX := Lib.hid (BX.out.below b)
  clear b ch20 ch21 ch22
  go_wp2
  go_ret
  exact ⟨rfl, by first | exact E.out | exact E.out.drew⟩

set_option maxRecDepth 100000 in
set_option maxHeartbeats 4000000 in
theorem holds_8hi (x1 x2 x3 y1 y2 y3 z1 z2 z3 num den : Int) (lx1 : ¬ x1 < -16384) (mx1 : ¬ 16384 < x1) (lx2 : ¬ x2 < -16384) (mx2 : ¬ 16384 < x2) (lx3 : ¬ x3 < -16384) (mx3 : ¬ 16384 < x3) (ly1 : ¬ y1 < -16384) (my1 : ¬ 16384 < y1) (ly2 : ¬ y2 < -16384) (my2 : ¬ 16384 < y2) (ly3 : ¬ y3 < -16384) (my3 : ¬ 16384 < y3) (lz1 : ¬ z1 < -16384) (mz1 : ¬ 16384 < z1) (lz2 : ¬ z2 < -16384) (mz2 : ¬ 16384 < z2) (lz3 : ¬ z3 < -16384) (mz3 : 16384 < z3)
     (w : World) :
    Calls Try.prog 9 #[vv x1 x2 x3, vv y1 y2 y3, vv z1 z2 z3, .int .i64 num, .int .i64 den] w (Ret (.bool true) w) := by
  have HK := Lib.hid known_true
  have E := Lib.hid (Below.refl w.heap.size w)
  have BX := Lib.hid (Bxs.nil w)
  go_enter Try.func9, Try.ntmps9
  go_upto_region 1 with (fail)
  obtain ⟨u0, hu⟩ : ∃ u0 : World, u0 = w.alloc (.cells #[.int .i64 x1, .int .i64 x2, .int .i64 x3] 23) := ⟨_, rfl⟩
  have b : Below w.heap.size w u0 := by rw [hu]; exact below_one _ _
  have E := Lib.hid (chain E.out b)
  have BX := Lib.hid (BX.out.cons x1 x2 x3)
  rw [← hu] at BX
  have hs : w.heap.size + 1 = u0.heap.size := by rw [hu]; simp
  rw [← hu]
  rw [hs]
  obtain ⟨ga, hga⟩ : ∃ ga, ga = w.heap.size := ⟨_, rfl⟩
  rw [← hga] at BX ⊢
  clear hu b hga hs
  obtain ⟨u1, hu⟩ : ∃ u1 : World, u1 = u0.alloc (.cells #[.int .i64 y1, .int .i64 y2, .int .i64 y3] 23) := ⟨_, rfl⟩
  have b : Below u0.heap.size u0 u1 := by rw [hu]; exact below_one _ _
  have E := Lib.hid (chain E.out b)
  have BX := Lib.hid (BX.out.cons y1 y2 y3)
  rw [← hu] at BX
  have hs : u0.heap.size + 1 = u1.heap.size := by rw [hu]; simp
  rw [← hu]
  rw [hs]
  obtain ⟨gb, hgb⟩ : ∃ gb, gb = u0.heap.size := ⟨_, rfl⟩
  rw [← hgb] at BX ⊢
  clear hu b hgb hs
  obtain ⟨u2, hu⟩ : ∃ u2 : World, u2 = u1.alloc (.cells #[.int .i64 z1, .int .i64 z2, .int .i64 z3] 23) := ⟨_, rfl⟩
  have b : Below u1.heap.size u1 u2 := by rw [hu]; exact below_one _ _
  have E := Lib.hid (chain E.out b)
  have BX := Lib.hid (BX.out.cons z1 z2 z3)
  rw [← hu] at BX
  rw [← hu]
  obtain ⟨gc, hgc⟩ : ∃ gc, gc = u1.heap.size := ⟨_, rfl⟩
  rw [← hgc] at BX ⊢
  clear hu b hgc
  obtain ⟨cga0, cga1, cga2⟩ := BX.out (ga, (x1, x2, x3)) (by simp)
  obtain ⟨cgb0, cgb1, cgb2⟩ := BX.out (gb, (y1, y2, y3)) (by simp)
  obtain ⟨cgc0, cgc1, cgc2⟩ := BX.out (gc, (z1, z2, z3)) (by simp)
  go_wp2
  obtain ⟨u, hu⟩ : ∃ u : World, u = u2.alloc (.cells #[.int .i64 x1, .int .i64 x2, .int .i64 x3, .int .i64 y1, .int .i64 y2, .int .i64 y3, .int .i64 z1, .int .i64 z2, .int .i64 z3] 23) := ⟨_, rfl⟩
  have b : Below u2.heap.size u2 u := by rw [hu]; exact below_one _ _
  have E := Lib.hid (chain E.out b)
  have BX := Lib.hid (BX.out.below b)
  have S : Hid (S9 u u2.heap.size x1 x2 x3 y1 y2 y3 z1 z2 z3) := by rw [hu]; exact ⟨by simp [go_sem], by simp [go_sem], by simp [go_sem], by simp [go_sem], by simp [go_sem], by simp [go_sem], by simp [go_sem], by simp [go_sem], by simp [go_sem]⟩
  rw [← hu]
  obtain ⟨gs, hgs⟩ : ∃ gs, gs = u2.heap.size := ⟨_, rfl⟩
  rw [← hgs] at S ⊢
  clear hu b hgs cga0 cga1 cga2 cgb0 cgb1 cgb2 cgc0 cgc1 cgc2
  refine wp_loop_rounds 4 ?_
  rw [rounds_succ]
  obtain ⟨d0, d1, d2, d3, d4, d5, d6, d7, d8⟩ := S.out
  go_upto_region 4 with (fail)
  obtain ⟨t0, hu⟩ : ∃ t0 : World, t0 = u.alloc (.cells #[.int .i64 x1, .int .i64 x2, .int .i64 x3] 23) := ⟨_, rfl⟩
  have b : Below u.heap.size u t0 := by rw [hu]; exact below_one _ _
  have E := Lib.hid (chain E.out b)
  have BX := Lib.hid (BX.out.cons x1 x2 x3)
  rw [← hu] at BX
  rw [← hu]
  obtain ⟨h0, hh0⟩ : ∃ h0, h0 = u.heap.size := ⟨_, rfl⟩
  rw [← hh0] at BX ⊢
  have S := Lib.hid (S.out.below b)
  clear hu b hh0 d0 d1 d2 d3 d4 d5 d6 d7 d8
  obtain ⟨ch00, ch01, ch02⟩ := BX.out (h0, (x1, x2, x3)) (by simp)
  go_wp2
  clear ch00 ch01 ch02
  rw [rounds_succ]
  obtain ⟨d0, d1, d2, d3, d4, d5, d6, d7, d8⟩ := S.out
  go_upto_region 4 with (fail)
  obtain ⟨t1, hu⟩ : ∃ t1 : World, t1 = t0.alloc (.cells #[.int .i64 y1, .int .i64 y2, .int .i64 y3] 23) := ⟨_, rfl⟩
  have b : Below t0.heap.size t0 t1 := by rw [hu]; exact below_one _ _
  have E := Lib.hid (chain E.out b)
  have BX := Lib.hid (BX.out.cons y1 y2 y3)
  rw [← hu] at BX
  rw [← hu]
  obtain ⟨h1, hh1⟩ : ∃ h1, h1 = t0.heap.size := ⟨_, rfl⟩
  rw [← hh1] at BX ⊢
  have S := Lib.hid (S.out.below b)
  clear hu b hh1 d0 d1 d2 d3 d4 d5 d6 d7 d8
  obtain ⟨ch10, ch11, ch12⟩ := BX.out (h1, (y1, y2, y3)) (by simp)
  go_wp2
  clear ch10 ch11 ch12
  rw [rounds_succ]
  obtain ⟨d0, d1, d2, d3, d4, d5, d6, d7, d8⟩ := S.out
  go_upto_region 4 with (fail)
  obtain ⟨t2, hu⟩ : ∃ t2 : World, t2 = t1.alloc (.cells #[.int .i64 z1, .int .i64 z2, .int .i64 z3] 23) := ⟨_, rfl⟩
  have b : Below t1.heap.size t1 t2 := by rw [hu]; exact below_one _ _
  have E := Lib.hid (chain E.out b)
  have BX := Lib.hid (BX.out.cons z1 z2 z3)
  rw [← hu] at BX
  rw [← hu]
  obtain ⟨h2, hh2⟩ : ∃ h2, h2 = t1.heap.size := ⟨_, rfl⟩
  rw [← hh2] at BX ⊢
  have S := Lib.hid (S.out.below b)
  clear hu b hh2 d0 d1 d2 d3 d4 d5 d6 d7 d8
  obtain ⟨ch20, ch21, ch22⟩ := BX.out (h2, (z1, z2, z3)) (by simp)
  go_wp2_with fail
  refine (HK.out _).mono ?_
  rintro e y ⟨rfl, b⟩
  have E := Lib.hid (chain E.out b)
  have BX := Lib.hid (BX.out.below b)
  clear b ch20 ch21 ch22
  go_wp2
  go_ret
  exact ⟨rfl, by first | exact E.out | exact E.out.drew⟩
end Go.Proofs.Ytdicbeaocedkmaa
