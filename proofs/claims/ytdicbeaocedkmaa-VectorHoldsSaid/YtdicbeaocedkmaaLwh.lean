/- VectorHolds: the walk over what its calls give. -/
import Derived.Test.YtdicbeaocedkmaaLwf
set_option linter.all false
namespace Go.Proofs.Ytdicbeaocedkmaa
open Go.RowKit

set_option maxRecDepth 100000 in
set_option maxHeartbeats 4000000 in
theorem holds_d0 (x1 x2 x3 y1 y2 y3 z1 z2 z3 num den p1 p2 p3 d l1 l2 m n A1 A2 A3 A4 B1 B2 B3 B4 C1 C2 C3 C4 C5 D M : Int) (lx1 : ¬ x1 < -16384) (mx1 : ¬ 16384 < x1) (lx2 : ¬ x2 < -16384) (mx2 : ¬ 16384 < x2) (lx3 : ¬ x3 < -16384) (mx3 : ¬ 16384 < x3) (ly1 : ¬ y1 < -16384) (my1 : ¬ 16384 < y1) (ly2 : ¬ y2 < -16384) (my2 : ¬ 16384 < y2) (ly3 : ¬ y3 < -16384) (my3 : ¬ 16384 < y3) (lz1 : ¬ z1 < -16384) (mz1 : ¬ 16384 < z1) (lz2 : ¬ z2 < -16384) (mz2 : ¬ 16384 < z2) (lz3 : ¬ z3 < -16384) (mz3 : ¬ 16384 < z3) 
    (w0 : IntKind.i64.wrap (p1 * x1) = A1) (w1 : IntKind.i64.wrap (p2 * x2) = A2) (w2 : IntKind.i64.wrap (p3 * x3) = A3) (w3 : IntKind.i64.wrap (A1 + A2) = A4) (w4 : IntKind.i64.wrap (A4 + A3) = 0) (w5 : IntKind.i64.wrap (p1 * y1) = B1) (w6 : IntKind.i64.wrap (p2 * y2) = B2) (w7 : IntKind.i64.wrap (p3 * y3) = B3) (w8 : IntKind.i64.wrap (B1 + B2) = B4) (w9 : IntKind.i64.wrap (B4 + B3) = 0) (w10 : IntKind.i64.wrap (p1 * p1) = C1) (w11 : IntKind.i64.wrap (p2 * p2) = C2) (w12 : IntKind.i64.wrap (p3 * p3) = C3) (w13 : IntKind.i64.wrap (C1 + C2) = C4) (w14 : IntKind.i64.wrap (C4 + C3) = C5) (w15 : IntKind.i64.wrap (d * d) = D) (w16 : IntKind.i64.wrap (C5 + D) = M) (w17 : IntKind.i64.wrap (l1 * l2) = M) (w18 : IntKind.i64.wrap (-n) = m)
    (h1 : den < 1)
    (H1 : ∀ w, Calls Try.prog 25 #[vv x1 x2 x3, vv y1 y2 y3] w (Ret (.tuple #[vv p1 p2 p3, .int .i64 0]) w))
    (H2 : ∀ w, Calls Try.prog 24 #[vv x1 x2 x3, vv y1 y2 y3] w (Ret (.tuple #[.int .i64 d, .int .i64 0]) w))
    (H3 : ∀ w, Calls Try.prog 26 #[vv x1 x2 x3] w (Ret (.tuple #[.int .i64 l1, .int .i64 0]) w))
    (H4 : ∀ w, Calls Try.prog 26 #[vv y1 y2 y3] w (Ret (.tuple #[.int .i64 l2, .int .i64 0]) w))
    (H5 : ∀ w, Calls Try.prog 33 #[vv x1 x2 x3, vv y1 y2 y3, vv z1 z2 z3] w (Ret (.tuple #[.int .i64 m, .int .i64 0]) w))
    (H6 : ∀ w, Calls Try.prog 33 #[vv y1 y2 y3, vv x1 x2 x3, vv z1 z2 z3] w (Ret (.tuple #[.int .i64 n, .int .i64 0]) w)) (w : World) :
    Calls Try.prog 9 #[vv x1 x2 x3, vv y1 y2 y3, vv z1 z2 z3, .int .i64 num, .int .i64 den] w (Ret (.bool true) w) := by
  have H1 := Lib.hid H1
  have H2 := Lib.hid H2
  have H3 := Lib.hid H3
  have H4 := Lib.hid H4
  have H5 := Lib.hid H5
  have H6 := Lib.hid H6
  have HK := Lib.hid known_true
  have E := Lib.hid (Below.refl w.heap.size w)
  have BX := Lib.hid (Bxs.nil w)
  go_enter Try.func9, Try.ntmps9
  go_upto_region 1 with (fail)
  obtain ⟨u0, hu⟩ : ∃ u0 : World, u0 = w.alloc (.cells #[.int .i64 x1, .int .i64 x2, .int .i64 x3] 23) := ⟨_, rfl⟩
  have b : Below w.heap.size w u0 := by rw [hu]; exact below_one _ _
  have E := Lib.hid (chain E.out b)
  have BX := Lib.hid (BX.out.cons x1 x2 x3)
  rw [← hu] at BX
  have hs : w.heap.size + 1 = u0.heap.size := by rw [hu]; simp
  rw [← hu]
  rw [hs]
  obtain ⟨ga, hga⟩ : ∃ ga, ga = w.heap.size := ⟨_, rfl⟩
  rw [← hga] at BX ⊢
  clear hu b hga hs
  obtain ⟨u1, hu⟩ : ∃ u1 : World, u1 = u0.alloc (.cells #[.int .i64 y1, .int .i64 y2, .int .i64 y3] 23) := ⟨_, rfl⟩
  have b : Below u0.heap.size u0 u1 := by rw [hu]; exact below_one _ _
  have E := Lib.hid (chain E.out b)
  have BX := Lib.hid (BX.out.cons y1 y2 y3)
  rw [← hu] at BX
  have hs : u0.heap.size + 1 = u1.heap.size := by rw [hu]; simp
  rw [← hu]
  rw [hs]
  obtain ⟨gb, hgb⟩ : ∃ gb, gb = u0.heap.size := ⟨_, rfl⟩
  rw [← hgb] at BX ⊢
  clear hu b hgb hs
  obtain ⟨u2, hu⟩ : ∃ u2 : World, u2 = u1.alloc (.cells #[.int .i64 z1, .int .i64 z2, .int .i64 z3] 23) := ⟨_, rfl⟩
  have b : Below u1.heap.size u1 u2 := by rw [hu]; exact below_one _ _
  have E := Lib.hid (chain E.out b)
  have BX := Lib.hid (BX.out.cons z1 z2 z3)
  rw [← hu] at BX
  rw [← hu]
  obtain ⟨gc, hgc⟩ : ∃ gc, gc = u1.heap.size := ⟨_, rfl⟩
  rw [← hgc] at BX ⊢
  clear hu b hgc
  obtain ⟨cga0, cga1, cga2⟩ := BX.out (ga, (x1, x2, x3)) (by simp)
  obtain ⟨cgb0, cgb1, cgb2⟩ := BX.out (gb, (y1, y2, y3)) (by simp)
  obtain ⟨cgc0, cgc1, cgc2⟩ := BX.out (gc, (z1, z2, z3)) (by simp)
  go_wp2
  obtain ⟨u, hu⟩ : ∃ u : World, u = u2.alloc (.cells #[.int .i64 x1, .int .i64 x2, .int .i64 x3, .int .i64 y1, .int .i64 y2, .int .i64 y3, .int .i64 z1, .int .i64 z2, .int .i64 z3] 23) := ⟨_, rfl⟩
  have b : Below u2.heap.size u2 u := by rw [hu]; exact below_one _ _
  have E := Lib.hid (chain E.out b)
  have BX := Lib.hid (BX.out.below b)
  have S : Hid (S9 u u2.heap.size x1 x2 x3 y1 y2 y3 z1 z2 z3) := by rw [hu]; exact ⟨by simp [go_sem], by simp [go_sem], by simp [go_sem], by simp [go_sem], by simp [go_sem], by simp [go_sem], by simp [go_sem], by simp [go_sem], by simp [go_sem]⟩
  rw [← hu]
  obtain ⟨gs, hgs⟩ : ∃ gs, gs = u2.heap.size := ⟨_, rfl⟩
  rw [← hgs] at S ⊢
  clear hu b hgs cga0 cga1 cga2 cgb0 cgb1 cgb2 cgc0 cgc1 cgc2
  refine wp_loop_rounds 4 ?_
  rw [rounds_succ]
  obtain ⟨d0, d1, d2, d3, d4, d5, d6, d7, d8⟩ := S.out
  go_upto_region 4 with (fail)
  obtain ⟨t0, hu⟩ : ∃ t0 : World, t0 = u.alloc (.cells #[.int .i64 x1, .int .i64 x2, .int .i64 x3] 23) := ⟨_, rfl⟩
  have b : Below u.heap.size u t0 := by rw [hu]; exact below_one _ _
  have E := Lib.hid (chain E.out b)
  have BX := Lib.hid (BX.out.cons x1 x2 x3)
  rw [← hu] at BX
  rw [← hu]
  obtain ⟨h0, hh0⟩ : ∃ h0, h0 = u.heap.size := ⟨_, rfl⟩
  rw [← hh0] at BX ⊢
  have S := Lib.hid (S.out.below b)
  clear hu b hh0 d0 d1 d2 d3 d4 d5 d6 d7 d8
  obtain ⟨ch00, ch01, ch02⟩ := BX.out (h0, (x1, x2, x3)) (by simp)
  go_wp2
  clear ch00 ch01 ch02
  rw [rounds_succ]
  obtain ⟨d0, d1, d2, d3, d4, d5, d6, d7, d8⟩ := S.out
  go_upto_region 4 with (fail)
  obtain ⟨t1, hu⟩ : ∃ t1 : World, t1 = t0.alloc (.cells #[.int .i64 y1, .int .i64 y2, .int .i64 y3] 23) := ⟨_, rfl⟩
  have b : Below t0.heap.size t0 t1 := by rw [hu]; exact below_one _ _
  have E := Lib.hid (chain E.out b)
  have BX := Lib.hid (BX.out.cons y1 y2 y3)
  rw [← hu] at BX
  rw [← hu]
  obtain ⟨h1, hh1⟩ : ∃ h1, h1 = t0.heap.size := ⟨_, rfl⟩
  rw [← hh1] at BX ⊢
  have S := Lib.hid (S.out.below b)
  clear hu b hh1 d0 d1 d2 d3 d4 d5 d6 d7 d8
  obtain ⟨ch10, ch11, ch12⟩ := BX.out (h1, (y1, y2, y3)) (by simp)
  go_wp2
  clear ch10 ch11 ch12
  rw [rounds_succ]
  obtain ⟨d0, d1, d2, d3, d4, d5, d6, d7, d8⟩ := S.out
  go_upto_region 4 with (fail)
  obtain ⟨t2, hu⟩ : ∃ t2 : World, t2 = t1.alloc (.cells #[.int .i64 z1, .int .i64 z2, .int .i64 z3] 23) := ⟨_, rfl⟩
  have b : Below t1.heap.size t1 t2 := by rw [hu]; exact below_one _ _
  have E := Lib.hid (chain E.out b)
  have BX := Lib.hid (BX.out.cons z1 z2 z3)
  rw [← hu] at BX
  rw [← hu]
  obtain ⟨h2, hh2⟩ : ∃ h2, h2 = t1.heap.size := ⟨_, rfl⟩
  rw [← hh2] at BX ⊢
  have S := Lib.hid (S.out.below b)
  clear hu b hh2 d0 d1 d2 d3 d4 d5 d6 d7 d8
  obtain ⟨ch20, ch21, ch22⟩ := BX.out (h2, (z1, z2, z3)) (by simp)
  go_wp2
  clear ch20 ch21 ch22
  rw [rounds_succ]
  obtain ⟨cga0, cga1, cga2⟩ := BX.out (ga, (x1, x2, x3)) (by simp)
  obtain ⟨cgb0, cgb1, cgb2⟩ := BX.out (gb, (y1, y2, y3)) (by simp)
  go_wp2_with fail
  refine (H1.out _).mono ?_
  rintro e y ⟨rfl, b⟩
  have E := Lib.hid (chain E.out b)
  have BX := Lib.hid (BX.out.below b)
  clear b cga0 cga1 cga2 cgb0 cgb1 cgb2
  go_upto_region 8 with (fail)
  obtain ⟨u, hu⟩ : ∃ u : World, u = y.alloc (.cells #[.int .i64 p1, .int .i64 p2, .int .i64 p3] 23) := ⟨_, rfl⟩
  have b : Below y.heap.size y u := by rw [hu]; exact below_one _ _
  have E := Lib.hid (chain E.out b)
  have BX := Lib.hid (BX.out.cons p1 p2 p3)
  rw [← hu] at BX
  rw [← hu]
  obtain ⟨g0, hg0⟩ : ∃ g0, g0 = y.heap.size := ⟨_, rfl⟩
  rw [← hg0] at BX ⊢
  clear hu b hg0
  obtain ⟨cga0, cga1, cga2⟩ := BX.out (ga, (x1, x2, x3)) (by simp)
  obtain ⟨cgb0, cgb1, cgb2⟩ := BX.out (gb, (y1, y2, y3)) (by simp)
  go_wp2_with fail
  refine (H2.out _).mono ?_
  rintro e y ⟨rfl, b⟩
  have E := Lib.hid (chain E.out b)
  have BX := Lib.hid (BX.out.below b)
  clear b cga0 cga1 cga2 cgb0 cgb1 cgb2
  obtain ⟨cga0, cga1, cga2⟩ := BX.out (ga, (x1, x2, x3)) (by simp)
  go_wp2_with fail
  refine (H3.out _).mono ?_
  rintro e y ⟨rfl, b⟩
  have E := Lib.hid (chain E.out b)
  have BX := Lib.hid (BX.out.below b)
  clear b cga0 cga1 cga2
  obtain ⟨cgb0, cgb1, cgb2⟩ := BX.out (gb, (y1, y2, y3)) (by simp)
  go_wp2_with fail
  refine (H4.out _).mono ?_
  rintro e y ⟨rfl, b⟩
  have E := Lib.hid (chain E.out b)
  have BX := Lib.hid (BX.out.below b)
  clear b cgb0 cgb1 cgb2
  obtain ⟨cg00, cg01, cg02⟩ := BX.out (g0, (p1, p2, p3)) (by simp)
  obtain ⟨cga0, cga1, cga2⟩ := BX.out (ga, (x1, x2, x3)) (by simp)
  obtain ⟨cgb0, cgb1, cgb2⟩ := BX.out (gb, (y1, y2, y3)) (by simp)
  obtain ⟨cgc0, cgc1, cgc2⟩ := BX.out (gc, (z1, z2, z3)) (by simp)
  go_wp2_with fail
  refine (H5.out _).mono ?_
  rintro e y ⟨rfl, b⟩
  have E := Lib.hid (chain E.out b)
  have BX := Lib.hid (BX.out.below b)
  clear b cg00 cg01 cg02 cga0 cga1 cga2 cgb0 cgb1 cgb2 cgc0 cgc1 cgc2
  obtain ⟨cga0, cga1, cga2⟩ := BX.out (ga, (x1, x2, x3)) (by simp)
  obtain ⟨cgb0, cgb1, cgb2⟩ := BX.out (gb, (y1, y2, y3)) (by simp)
  obtain ⟨cgc0, cgc1, cgc2⟩ := BX.out (gc, (z1, z2, z3)) (by simp)
  go_wp2_with fail
  refine (H6.out _).mono ?_
  rintro e y ⟨rfl, b⟩
  have E := Lib.hid (chain E.out b)
  have BX := Lib.hid (BX.out.below b)
  clear b cga0 cga1 cga2 cgb0 cgb1 cgb2 cgc0 cgc1 cgc2
  go_wp2_with fail
  refine (HK.out _).mono ?_
  rintro e y ⟨rfl, b⟩
  have E := Lib.hid (chain E.out b)
  have BX := Lib.hid (BX.out.below b)
  clear b
  go_wp2
  go_ret
  exact ⟨rfl, by first | exact E.out | exact E.out.drew⟩

set_option maxRecDepth 100000 in
set_option maxHeartbeats 4000000 in
theorem holds_d1 (x1 x2 x3 y1 y2 y3 z1 z2 z3 num den p1 p2 p3 d l1 l2 m n A1 A2 A3 A4 B1 B2 B3 B4 C1 C2 C3 C4 C5 D M : Int) (lx1 : ¬ x1 < -16384) (mx1 : ¬ 16384 < x1) (lx2 : ¬ x2 < -16384) (mx2 : ¬ 16384 < x2) (lx3 : ¬ x3 < -16384) (mx3 : ¬ 16384 < x3) (ly1 : ¬ y1 < -16384) (my1 : ¬ 16384 < y1) (ly2 : ¬ y2 < -16384) (my2 : ¬ 16384 < y2) (ly3 : ¬ y3 < -16384) (my3 : ¬ 16384 < y3) (lz1 : ¬ z1 < -16384) (mz1 : ¬ 16384 < z1) (lz2 : ¬ z2 < -16384) (mz2 : ¬ 16384 < z2) (lz3 : ¬ z3 < -16384) (mz3 : ¬ 16384 < z3) 
    (w0 : IntKind.i64.wrap (p1 * x1) = A1) (w1 : IntKind.i64.wrap (p2 * x2) = A2) (w2 : IntKind.i64.wrap (p3 * x3) = A3) (w3 : IntKind.i64.wrap (A1 + A2) = A4) (w4 : IntKind.i64.wrap (A4 + A3) = 0) (w5 : IntKind.i64.wrap (p1 * y1) = B1) (w6 : IntKind.i64.wrap (p2 * y2) = B2) (w7 : IntKind.i64.wrap (p3 * y3) = B3) (w8 : IntKind.i64.wrap (B1 + B2) = B4) (w9 : IntKind.i64.wrap (B4 + B3) = 0) (w10 : IntKind.i64.wrap (p1 * p1) = C1) (w11 : IntKind.i64.wrap (p2 * p2) = C2) (w12 : IntKind.i64.wrap (p3 * p3) = C3) (w13 : IntKind.i64.wrap (C1 + C2) = C4) (w14 : IntKind.i64.wrap (C4 + C3) = C5) (w15 : IntKind.i64.wrap (d * d) = D) (w16 : IntKind.i64.wrap (C5 + D) = M) (w17 : IntKind.i64.wrap (l1 * l2) = M) (w18 : IntKind.i64.wrap (-n) = m)
    (h1 : ¬ den < 1) (h2 : 4294967296 < den)
    (H1 : ∀ w, Calls Try.prog 25 #[vv x1 x2 x3, vv y1 y2 y3] w (Ret (.tuple #[vv p1 p2 p3, .int .i64 0]) w))
    (H2 : ∀ w, Calls Try.prog 24 #[vv x1 x2 x3, vv y1 y2 y3] w (Ret (.tuple #[.int .i64 d, .int .i64 0]) w))
    (H3 : ∀ w, Calls Try.prog 26 #[vv x1 x2 x3] w (Ret (.tuple #[.int .i64 l1, .int .i64 0]) w))
    (H4 : ∀ w, Calls Try.prog 26 #[vv y1 y2 y3] w (Ret (.tuple #[.int .i64 l2, .int .i64 0]) w))
    (H5 : ∀ w, Calls Try.prog 33 #[vv x1 x2 x3, vv y1 y2 y3, vv z1 z2 z3] w (Ret (.tuple #[.int .i64 m, .int .i64 0]) w))
    (H6 : ∀ w, Calls Try.prog 33 #[vv y1 y2 y3, vv x1 x2 x3, vv z1 z2 z3] w (Ret (.tuple #[.int .i64 n, .int .i64 0]) w)) (w : World) :
    Calls Try.prog 9 #[vv x1 x2 x3, vv y1 y2 y3, vv z1 z2 z3, .int .i64 num, .int .i64 den] w (Ret (.bool true) w) := by
  have H1 := Lib.hid H1
  have H2 := Lib.hid H2
  have H3 := Lib.hid H3
  have H4 := Lib.hid H4
  have H5 := Lib.hid H5
  have H6 := Lib.hid H6
  have HK := Lib.hid known_true
  have E := Lib.hid (Below.refl w.heap.size w)
  have BX := Lib.hid (Bxs.nil w)
  go_enter Try.func9, Try.ntmps9
  go_upto_region 1 with (fail)
  obtain ⟨u0, hu⟩ : ∃ u0 : World, u0 = w.alloc (.cells #[.int .i64 x1, .int .i64 x2, .int .i64 x3] 23) := ⟨_, rfl⟩
  have b : Below w.heap.size w u0 := by rw [hu]; exact below_one _ _
  have E := Lib.hid (chain E.out b)
  have BX := Lib.hid (BX.out.cons x1 x2 x3)
  rw [← hu] at BX
  have hs : w.heap.size + 1 = u0.heap.size := by rw [hu]; simp
  rw [← hu]
  rw [hs]
  obtain ⟨ga, hga⟩ : ∃ ga, ga = w.heap.size := ⟨_, rfl⟩
  rw [← hga] at BX ⊢
  clear hu b hga hs
  obtain ⟨u1, hu⟩ : ∃ u1 : World, u1 = u0.alloc (.cells #[.int .i64 y1, .int .i64 y2, .int .i64 y3] 23) := ⟨_, rfl⟩
  have b : Below u0.heap.size u0 u1 := by rw [hu]; exact below_one _ _
  have E := Lib.hid (chain E.out b)
  have BX := Lib.hid (BX.out.cons y1 y2 y3)
  rw [← hu] at BX
  have hs : u0.heap.size + 1 = u1.heap.size := by rw [hu]; simp
  rw [← hu]
  rw [hs]
  obtain ⟨gb, hgb⟩ : ∃ gb, gb = u0.heap.size := ⟨_, rfl⟩
  rw [← hgb] at BX ⊢
  clear hu b hgb hs
  obtain ⟨u2, hu⟩ : ∃ u2 : World, u2 = u1.alloc (.cells #[.int .i64 z1, .int .i64 z2, .int .i64 z3] 23) := ⟨_, rfl⟩
  have b : Below u1.heap.size u1 u2 := by rw [hu]; exact below_one _ _
  have E := Lib.hid (chain E.out b)
  have BX := Lib.hid (BX.out.cons z1 z2 z3)
  rw [← hu] at BX
  rw [← hu]
  obtain ⟨gc, hgc⟩ : ∃ gc, gc = u1.heap.size := ⟨_, rfl⟩
  rw [← hgc] at BX ⊢
  clear hu b hgc
  obtain ⟨cga0, cga1, cga2⟩ := BX.out (ga, (x1, x2, x3)) (by simp)
  obtain ⟨cgb0, cgb1, cgb2⟩ := BX.out (gb, (y1, y2, y3)) (by simp)
  obtain ⟨cgc0, cgc1, cgc2⟩ := BX.out (gc, (z1, z2, z3)) (by simp)
  go_wp2
  obtain ⟨u, hu⟩ : ∃ u : World, u = u2.alloc (.cells #[.int .i64 x1, .int .i64 x2, .int .i64 x3, .int .i64 y1, .int .i64 y2, .int .i64 y3, .int .i64 z1, .int .i64 z2, .int .i64 z3] 23) := ⟨_, rfl⟩
  have b : Below u2.heap.size u2 u := by rw [hu]; exact below_one _ _
  have E := Lib.hid (chain E.out b)
  have BX := Lib.hid (BX.out.below b)
  have S : Hid (S9 u u2.heap.size x1 x2 x3 y1 y2 y3 z1 z2 z3) := by rw [hu]; exact ⟨by simp [go_sem], by simp [go_sem], by simp [go_sem], by simp [go_sem], by simp [go_sem], by simp [go_sem], by simp [go_sem], by simp [go_sem], by simp [go_sem]⟩
  rw [← hu]
  obtain ⟨gs, hgs⟩ : ∃ gs, gs = u2.heap.size := ⟨_, rfl⟩
  rw [← hgs] at S ⊢
  clear hu b hgs cga0 cga1 cga2 cgb0 cgb1 cgb2 cgc0 cgc1 cgc2
  refine wp_loop_rounds 4 ?_
  rw [rounds_succ]
  obtain ⟨d0, d1, d2, d3, d4, d5, d6, d7, d8⟩ := S.out
  go_upto_region 4 with (fail)
  obtain ⟨t0, hu⟩ : ∃ t0 : World, t0 = u.alloc (.cells #[.int .i64 x1, .int .i64 x2, .int .i64 x3] 23) := ⟨_, rfl⟩
  have b : Below u.heap.size u t0 := by rw [hu]; exact below_one _ _
  have E := Lib.hid (chain E.out b)
  have BX := Lib.hid (BX.out.cons x1 x2 x3)
  rw [← hu] at BX
  rw [← hu]
  obtain ⟨h0, hh0⟩ : ∃ h0, h0 = u.heap.size := ⟨_, rfl⟩
  rw [← hh0] at BX ⊢
  have S := Lib.hid (S.out.below b)
  clear hu b hh0 d0 d1 d2 d3 d4 d5 d6 d7 d8
  obtain ⟨ch00, ch01, ch02⟩ := BX.out (h0, (x1, x2, x3)) (by simp)
  go_wp2
  clear ch00 ch01 ch02
  rw [rounds_succ]
  obtain ⟨d0, d1, d2, d3, d4, d5, d6, d7, d8⟩ := S.out
  go_upto_region 4 with (fail)
  obtain ⟨t1, hu⟩ : ∃ t1 : World, t1 = t0.alloc (.cells #[.int .i64 y1, .int .i64 y2, .int .i64 y3] 23) := ⟨_, rfl⟩
  have b : Below t0.heap.size t0 t1 := by rw [hu]; exact below_one _ _
  have E := Lib.hid (chain E.out b)
  have BX := Lib.hid (BX.out.cons y1 y2 y3)
  rw [← hu] at BX
  rw [← hu]
  obtain ⟨h1, hh1⟩ : ∃ h1, h1 = t0.heap.size := ⟨_, rfl⟩
  rw [← hh1] at BX ⊢
  have S := Lib.hid (S.out.below b)
  clear hu b hh1 d0 d1 d2 d3 d4 d5 d6 d7 d8
  obtain ⟨ch10, ch11, ch12⟩ := BX.out (h1, (y1, y2, y3)) (by simp)
  go_wp2
  clear ch10 ch11 ch12
  rw [rounds_succ]
  obtain ⟨d0, d1, d2, d3, d4, d5, d6, d7, d8⟩ := S.out
  go_upto_region 4 with (fail)
  obtain ⟨t2, hu⟩ : ∃ t2 : World, t2 = t1.alloc (.cells #[.int .i64 z1, .int .i64 z2, .int .i64 z3] 23) := ⟨_, rfl⟩
  have b : Below t1.heap.size t1 t2 := by rw [hu]; exact below_one _ _
  have E := Lib.hid (chain E.out b)
  have BX := Lib.hid (BX.out.cons z1 z2 z3)
  rw [← hu] at BX
  rw [← hu]
  obtain ⟨h2, hh2⟩ : ∃ h2, h2 = t1.heap.size := ⟨_, rfl⟩
  rw [← hh2] at BX ⊢
  have S := Lib.hid (S.out.below b)
  clear hu b hh2 d0 d1 d2 d3 d4 d5 d6 d7 d8
  obtain ⟨ch20, ch21, ch22⟩ := BX.out (h2, (z1, z2, z3)) (by simp)
  go_wp2
  clear ch20 ch21 ch22
  rw [rounds_succ]
  obtain ⟨cga0, cga1, cga2⟩ := BX.out (ga, (x1, x2, x3)) (by simp)
  obtain ⟨cgb0, cgb1, cgb2⟩ := BX.out (gb, (y1, y2, y3)) (by simp)
  go_wp2_with fail
  refine (H1.out _).mono ?_
  rintro e y ⟨rfl, b⟩
  have E := Lib.hid (chain E.out b)
  have BX := Lib.hid (BX.out.below b)
  clear b cga0 cga1 cga2 cgb0 cgb1 cgb2
  go_upto_region 8 with (fail)
  obtain ⟨u, hu⟩ : ∃ u : World, u = y.alloc (.cells #[.int .i64 p1, .int .i64 p2, .int .i64 p3] 23) := ⟨_, rfl⟩
  have b : Below y.heap.size y u := by rw [hu]; exact below_one _ _
  have E := Lib.hid (chain E.out b)
  have BX := Lib.hid (BX.out.cons p1 p2 p3)
  rw [← hu] at BX
  rw [← hu]
  obtain ⟨g0, hg0⟩ : ∃ g0, g0 = y.heap.size := ⟨_, rfl⟩
  rw [← hg0] at BX ⊢
  clear hu b hg0
  obtain ⟨cga0, cga1, cga2⟩ := BX.out (ga, (x1, x2, x3)) (by simp)
  obtain ⟨cgb0, cgb1, cgb2⟩ := BX.out (gb, (y1, y2, y3)) (by simp)
  go_wp2_with fail
  refine (H2.out _).mono ?_
  rintro e y ⟨rfl, b⟩
  have E := Lib.hid (chain E.out b)
  have BX := Lib.hid (BX.out.below b)
  clear b cga0 cga1 cga2 cgb0 cgb1 cgb2
  obtain ⟨cga0, cga1, cga2⟩ := BX.out (ga, (x1, x2, x3)) (by simp)
  go_wp2_with fail
  refine (H3.out _).mono ?_
  rintro e y ⟨rfl, b⟩
  have E := Lib.hid (chain E.out b)
  have BX := Lib.hid (BX.out.below b)
  clear b cga0 cga1 cga2
  obtain ⟨cgb0, cgb1, cgb2⟩ := BX.out (gb, (y1, y2, y3)) (by simp)
  go_wp2_with fail
  refine (H4.out _).mono ?_
  rintro e y ⟨rfl, b⟩
  have E := Lib.hid (chain E.out b)
  have BX := Lib.hid (BX.out.below b)
  clear b cgb0 cgb1 cgb2
  obtain ⟨cg00, cg01, cg02⟩ := BX.out (g0, (p1, p2, p3)) (by simp)
  obtain ⟨cga0, cga1, cga2⟩ := BX.out (ga, (x1, x2, x3)) (by simp)
  obtain ⟨cgb0, cgb1, cgb2⟩ := BX.out (gb, (y1, y2, y3)) (by simp)
  obtain ⟨cgc0, cgc1, cgc2⟩ := BX.out (gc, (z1, z2, z3)) (by simp)
  go_wp2_with fail
  refine (H5.out _).mono ?_
  rintro e y ⟨rfl, b⟩
  have E := Lib.hid (chain E.out b)
  have BX := Lib.hid (BX.out.below b)
  clear b cg00 cg01 cg02 cga0 cga1 cga2 cgb0 cgb1 cgb2 cgc0 cgc1 cgc2
  obtain ⟨cga0, cga1, cga2⟩ := BX.out (ga, (x1, x2, x3)) (by simp)
  obtain ⟨cgb0, cgb1, cgb2⟩ := BX.out (gb, (y1, y2, y3)) (by simp)
  obtain ⟨cgc0, cgc1, cgc2⟩ := BX.out (gc, (z1, z2, z3)) (by simp)
  go_wp2_with fail
  refine (H6.out _).mono ?_
  rintro e y ⟨rfl, b⟩
  have E := Lib.hid (chain E.out b)
  have BX := Lib.hid (BX.out.below b)
  clear b cga0 cga1 cga2 cgb0 cgb1 cgb2 cgc0 cgc1 cgc2
  go_wp2_with fail
  refine (HK.out _).mono ?_
  rintro e y ⟨rfl, b⟩
  have E := Lib.hid (chain E.out b)
  have BX := Lib.hid (BX.out.below b)
  clear b
  go_wp2
  go_ret
  exact ⟨rfl, by first | exact E.out | exact E.out.drew⟩

set_option maxRecDepth 100000 in
set_option maxHeartbeats 4000000 in
theorem holds_n0 (x1 x2 x3 y1 y2 y3 z1 z2 z3 num den p1 p2 p3 d l1 l2 m n A1 A2 A3 A4 B1 B2 B3 B4 C1 C2 C3 C4 C5 D M : Int) (lx1 : ¬ x1 < -16384) (mx1 : ¬ 16384 < x1) (lx2 : ¬ x2 < -16384) (mx2 : ¬ 16384 < x2) (lx3 : ¬ x3 < -16384) (mx3 : ¬ 16384 < x3) (ly1 : ¬ y1 < -16384) (my1 : ¬ 16384 < y1) (ly2 : ¬ y2 < -16384) (my2 : ¬ 16384 < y2) (ly3 : ¬ y3 < -16384) (my3 : ¬ 16384 < y3) (lz1 : ¬ z1 < -16384) (mz1 : ¬ 16384 < z1) (lz2 : ¬ z2 < -16384) (mz2 : ¬ 16384 < z2) (lz3 : ¬ z3 < -16384) (mz3 : ¬ 16384 < z3) 
    (w0 : IntKind.i64.wrap (p1 * x1) = A1) (w1 : IntKind.i64.wrap (p2 * x2) = A2) (w2 : IntKind.i64.wrap (p3 * x3) = A3) (w3 : IntKind.i64.wrap (A1 + A2) = A4) (w4 : IntKind.i64.wrap (A4 + A3) = 0) (w5 : IntKind.i64.wrap (p1 * y1) = B1) (w6 : IntKind.i64.wrap (p2 * y2) = B2) (w7 : IntKind.i64.wrap (p3 * y3) = B3) (w8 : IntKind.i64.wrap (B1 + B2) = B4) (w9 : IntKind.i64.wrap (B4 + B3) = 0) (w10 : IntKind.i64.wrap (p1 * p1) = C1) (w11 : IntKind.i64.wrap (p2 * p2) = C2) (w12 : IntKind.i64.wrap (p3 * p3) = C3) (w13 : IntKind.i64.wrap (C1 + C2) = C4) (w14 : IntKind.i64.wrap (C4 + C3) = C5) (w15 : IntKind.i64.wrap (d * d) = D) (w16 : IntKind.i64.wrap (C5 + D) = M) (w17 : IntKind.i64.wrap (l1 * l2) = M) (w18 : IntKind.i64.wrap (-n) = m)
    (h1 : ¬ den < 1) (h2 : ¬ 4294967296 < den) (h3 : num < 0)
    (H1 : ∀ w, Calls Try.prog 25 #[vv x1 x2 x3, vv y1 y2 y3] w (Ret (.tuple #[vv p1 p2 p3, .int .i64 0]) w))
    (H2 : ∀ w, Calls Try.prog 24 #[vv x1 x2 x3, vv y1 y2 y3] w (Ret (.tuple #[.int .i64 d, .int .i64 0]) w))
    (H3 : ∀ w, Calls Try.prog 26 #[vv x1 x2 x3] w (Ret (.tuple #[.int .i64 l1, .int .i64 0]) w))
    (H4 : ∀ w, Calls Try.prog 26 #[vv y1 y2 y3] w (Ret (.tuple #[.int .i64 l2, .int .i64 0]) w))
    (H5 : ∀ w, Calls Try.prog 33 #[vv x1 x2 x3, vv y1 y2 y3, vv z1 z2 z3] w (Ret (.tuple #[.int .i64 m, .int .i64 0]) w))
    (H6 : ∀ w, Calls Try.prog 33 #[vv y1 y2 y3, vv x1 x2 x3, vv z1 z2 z3] w (Ret (.tuple #[.int .i64 n, .int .i64 0]) w)) (w : World) :
    Calls Try.prog 9 #[vv x1 x2 x3, vv y1 y2 y3, vv z1 z2 z3, .int .i64 num, .int .i64 den] w (Ret (.bool true) w) := by
  have H1 := Lib.hid H1
  have H2 := Lib.hid H2
  have H3 := Lib.hid H3
  have H4 := Lib.hid H4
  have H5 := Lib.hid H5
  have H6 := Lib.hid H6
  have HK := Lib.hid known_true
  have E := Lib.hid (Below.refl w.heap.size w)
  have BX := Lib.hid (Bxs.nil w)
  go_enter Try.func9, Try.ntmps9
  go_upto_region 1 with (fail)
  obtain ⟨u0, hu⟩ : ∃ u0 : World, u0 = w.alloc (.cells #[.int .i64 x1, .int .i64 x2, .int .i64 x3] 23) := ⟨_, rfl⟩
  have b : Below w.heap.size w u0 := by rw [hu]; exact below_one _ _
  have E := Lib.hid (chain E.out b)
  have BX := Lib.hid (BX.out.cons x1 x2 x3)
  rw [← hu] at BX
  have hs : w.heap.size + 1 = u0.heap.size := by rw [hu]; simp
  rw [← hu]
  rw [hs]
  obtain ⟨ga, hga⟩ : ∃ ga, ga = w.heap.size := ⟨_, rfl⟩
  rw [← hga] at BX ⊢
  clear hu b hga hs
  obtain ⟨u1, hu⟩ : ∃ u1 : World, u1 = u0.alloc (.cells #[.int .i64 y1, .int .i64 y2, .int .i64 y3] 23) := ⟨_, rfl⟩
  have b : Below u0.heap.size u0 u1 := by rw [hu]; exact below_one _ _
  have E := Lib.hid (chain E.out b)
  have BX := Lib.hid (BX.out.cons y1 y2 y3)
  rw [← hu] at BX
  have hs : u0.heap.size + 1 = u1.heap.size := by rw [hu]; simp
  rw [← hu]
  rw [hs]
  obtain ⟨gb, hgb⟩ : ∃ gb, gb = u0.heap.size := ⟨_, rfl⟩
  rw [← hgb] at BX ⊢
  clear hu b hgb hs
  obtain ⟨u2, hu⟩ : ∃ u2 : World, u2 = u1.alloc (.cells #[.int .i64 z1, .int .i64 z2, .int .i64 z3] 23) := ⟨_, rfl⟩
  have b : Below u1.heap.size u1 u2 := by rw [hu]; exact below_one _ _
  have E := Lib.hid (chain E.out b)
  have BX := Lib.hid (BX.out.cons z1 z2 z3)
  rw [← hu] at BX
  rw [← hu]
  obtain ⟨gc, hgc⟩ : ∃ gc, gc = u1.heap.size := ⟨_, rfl⟩
  rw [← hgc] at BX ⊢
  clear hu b hgc
  obtain ⟨cga0, cga1, cga2⟩ := BX.out (ga, (x1, x2, x3)) (by simp)
  obtain ⟨cgb0, cgb1, cgb2⟩ := BX.out (gb, (y1, y2, y3)) (by simp)
  obtain ⟨cgc0, cgc1, cgc2⟩ := BX.out (gc, (z1, z2, z3)) (by simp)
  go_wp2
  obtain ⟨u, hu⟩ : ∃ u : World, u = u2.alloc (.cells #[.int .i64 x1, .int .i64 x2, .int .i64 x3, .int .i64 y1, .int .i64 y2, .int .i64 y3, .int .i64 z1, .int .i64 z2, .int .i64 z3] 23) := ⟨_, rfl⟩
  have b : Below u2.heap.size u2 u := by rw [hu]; exact below_one _ _
  have E := Lib.hid (chain E.out b)
  have BX := Lib.hid (BX.out.below b)
  have S : Hid (S9 u u2.heap.size x1 x2 x3 y1 y2 y3 z1 z2 z3) := by rw [hu]; exact ⟨by simp [go_sem], by simp [go_sem], by simp [go_sem], by simp [go_sem], by simp [go_sem], by simp [go_sem], by simp [go_sem], by simp [go_sem], by simp [go_sem]⟩
  rw [← hu]
  obtain ⟨gs, hgs⟩ : ∃ gs, gs = u2.heap.size := ⟨_, rfl⟩
  rw [← hgs] at S ⊢
  clear hu b hgs cga0 cga1 cga2 cgb0 cgb1 cgb2 cgc0 cgc1 cgc2
  refine wp_loop_rounds 4 ?_
  rw [rounds_succ]
  obtain ⟨d0, d1, d2, d3, d4, d5, d6, d7, d8⟩ := S.out
  go_upto_region 4 with (fail)
  obtain ⟨t0, hu⟩ : ∃ t0 : World, t0 = u.alloc (.cells #[.int .i64 x1, .int .i64 x2, .int .i64 x3] 23) := ⟨_, rfl⟩
  have b : Below u.heap.size u t0 := by rw [hu]; exact below_one _ _
  have E := Lib.hid (chain E.out b)
  have BX := Lib.hid (BX.out.cons x1 x2 x3)
  rw [← hu] at BX
  rw [← hu]
  obtain ⟨h0, hh0⟩ : ∃ h0, h0 = u.heap.size := ⟨_, rfl⟩
  rw [← hh0] at BX ⊢
  have S := Lib.hid (S.out.below b)
  clear hu b hh0 d0 d1 d2 d3 d4 d5 d6 d7 d8
  obtain ⟨ch00, ch01, ch02⟩ := BX.out (h0, (x1, x2, x3)) (by simp)
  go_wp2
  clear ch00 ch01 ch02
  rw [rounds_succ]
  obtain ⟨d0, d1, d2, d3, d4, d5, d6, d7, d8⟩ := S.out
  go_upto_region 4 with (fail)
  obtain ⟨t1, hu⟩ : ∃ t1 : World, t1 = t0.alloc (.cells #[.int .i64 y1, .int .i64 y2, .int .i64 y3] 23) := ⟨_, rfl⟩
  have b : Below t0.heap.size t0 t1 := by rw [hu]; exact below_one _ _
  have E := Lib.hid (chain E.out b)
  have BX := Lib.hid (BX.out.cons y1 y2 y3)
  rw [← hu] at BX
  rw [← hu]
  obtain ⟨h1, hh1⟩ : ∃ h1, h1 = t0.heap.size := ⟨_, rfl⟩
  rw [← hh1] at BX ⊢
  have S := Lib.hid (S.out.below b)
  clear hu b hh1 d0 d1 d2 d3 d4 d5 d6 d7 d8
  obtain ⟨ch10, ch11, ch12⟩ := BX.out (h1, (y1, y2, y3)) (by simp)
  go_wp2
  clear ch10 ch11 ch12
  rw [rounds_succ]
  obtain ⟨d0, d1, d2, d3, d4, d5, d6, d7, d8⟩ := S.out
  go_upto_region 4 with (fail)
  obtain ⟨t2, hu⟩ : ∃ t2 : World, t2 = t1.alloc (.cells #[.int .i64 z1, .int .i64 z2, .int .i64 z3] 23) := ⟨_, rfl⟩
  have b : Below t1.heap.size t1 t2 := by rw [hu]; exact below_one _ _
  have E := Lib.hid (chain E.out b)
  have BX := Lib.hid (BX.out.cons z1 z2 z3)
  rw [← hu] at BX
  rw [← hu]
  obtain ⟨h2, hh2⟩ : ∃ h2, h2 = t1.heap.size := ⟨_, rfl⟩
  rw [← hh2] at BX ⊢
  have S := Lib.hid (S.out.below b)
  clear hu b hh2 d0 d1 d2 d3 d4 d5 d6 d7 d8
  obtain ⟨ch20, ch21, ch22⟩ := BX.out (h2, (z1, z2, z3)) (by simp)
  go_wp2
  clear ch20 ch21 ch22
  rw [rounds_succ]
  obtain ⟨cga0, cga1, cga2⟩ := BX.out (ga, (x1, x2, x3)) (by simp)
  obtain ⟨cgb0, cgb1, cgb2⟩ := BX.out (gb, (y1, y2, y3)) (by simp)
  go_wp2_with fail
  refine (H1.out _).mono ?_
  rintro e y ⟨rfl, b⟩
  have E := Lib.hid (chain E.out b)
  have BX := Lib.hid (BX.out.below b)
  clear b cga0 cga1 cga2 cgb0 cgb1 cgb2
  go_upto_region 8 with (fail)
  obtain ⟨u, hu⟩ : ∃ u : World, u = y.alloc (.cells #[.int .i64 p1, .int .i64 p2, .int .i64 p3] 23) := ⟨_, rfl⟩
  have b : Below y.heap.size y u := by rw [hu]; exact below_one _ _
  have E := Lib.hid (chain E.out b)
  have BX := Lib.hid (BX.out.cons p1 p2 p3)
  rw [← hu] at BX
  rw [← hu]
  obtain ⟨g0, hg0⟩ : ∃ g0, g0 = y.heap.size := ⟨_, rfl⟩
  rw [← hg0] at BX ⊢
  clear hu b hg0
  obtain ⟨cga0, cga1, cga2⟩ := BX.out (ga, (x1, x2, x3)) (by simp)
  obtain ⟨cgb0, cgb1, cgb2⟩ := BX.out (gb, (y1, y2, y3)) (by simp)
  go_wp2_with fail
  refine (H2.out _).mono ?_
  rintro e y ⟨rfl, b⟩
  have E := Lib.hid (chain E.out b)
  have BX := Lib.hid (BX.out.below b)
  clear b cga0 cga1 cga2 cgb0 cgb1 cgb2
  obtain ⟨cga0, cga1, cga2⟩ := BX.out (ga, (x1, x2, x3)) (by simp)
  go_wp2_with fail
  refine (H3.out _).mono ?_
  rintro e y ⟨rfl, b⟩
  have E := Lib.hid (chain E.out b)
  have BX := Lib.hid (BX.out.below b)
  clear b cga0 cga1 cga2
  obtain ⟨cgb0, cgb1, cgb2⟩ := BX.out (gb, (y1, y2, y3)) (by simp)
  go_wp2_with fail
  refine (H4.out _).mono ?_
  rintro e y ⟨rfl, b⟩
  have E := Lib.hid (chain E.out b)
  have BX := Lib.hid (BX.out.below b)
  clear b cgb0 cgb1 cgb2
  obtain ⟨cg00, cg01, cg02⟩ := BX.out (g0, (p1, p2, p3)) (by simp)
  obtain ⟨cga0, cga1, cga2⟩ := BX.out (ga, (x1, x2, x3)) (by simp)
  obtain ⟨cgb0, cgb1, cgb2⟩ := BX.out (gb, (y1, y2, y3)) (by simp)
  obtain ⟨cgc0, cgc1, cgc2⟩ := BX.out (gc, (z1, z2, z3)) (by simp)
  go_wp2_with fail
  refine (H5.out _).mono ?_
  rintro e y ⟨rfl, b⟩
  have E := Lib.hid (chain E.out b)
  have BX := Lib.hid (BX.out.below b)
  clear b cg00 cg01 cg02 cga0 cga1 cga2 cgb0 cgb1 cgb2 cgc0 cgc1 cgc2
  obtain ⟨cga0, cga1, cga2⟩ := BX.out (ga, (x1, x2, x3)) (by simp)
  obtain ⟨cgb0, cgb1, cgb2⟩ := BX.out (gb, (y1, y2, y3)) (by simp)
  obtain ⟨cgc0, cgc1, cgc2⟩ := BX.out (gc, (z1, z2, z3)) (by simp)
  go_wp2_with fail
  refine (H6.out _).mono ?_
  rintro e y ⟨rfl, b⟩
  have E := Lib.hid (chain E.out b)
  have BX := Lib.hid (BX.out.below b)
  clear b cga0 cga1 cga2 cgb0 cgb1 cgb2 cgc0 cgc1 cgc2
  go_wp2_with fail
  refine (HK.out _).mono ?_
  rintro e y ⟨rfl, b⟩
  have E := Lib.hid (chain E.out b)
  have BX := Lib.hid (BX.out.below b)
  clear b
  go_wp2
  go_ret
  exact ⟨rfl, by first | exact E.out | exact E.out.drew⟩

set_option maxRecDepth 100000 in
set_option maxHeartbeats 4000000 in
theorem holds_n1 (x1 x2 x3 y1 y2 y3 z1 z2 z3 num den p1 p2 p3 d l1 l2 m n A1 A2 A3 A4 B1 B2 B3 B4 C1 C2 C3 C4 C5 D M : Int) (lx1 : ¬ x1 < -16384) (mx1 : ¬ 16384 < x1) (lx2 : ¬ x2 < -16384) (mx2 : ¬ 16384 < x2) (lx3 : ¬ x3 < -16384) (mx3 : ¬ 16384 < x3) (ly1 : ¬ y1 < -16384) (my1 : ¬ 16384 < y1) (ly2 : ¬ y2 < -16384) (my2 : ¬ 16384 < y2) (ly3 : ¬ y3 < -16384) (my3 : ¬ 16384 < y3) (lz1 : ¬ z1 < -16384) (mz1 : ¬ 16384 < z1) (lz2 : ¬ z2 < -16384) (mz2 : ¬ 16384 < z2) (lz3 : ¬ z3 < -16384) (mz3 : ¬ 16384 < z3) 
    (w0 : IntKind.i64.wrap (p1 * x1) = A1) (w1 : IntKind.i64.wrap (p2 * x2) = A2) (w2 : IntKind.i64.wrap (p3 * x3) = A3) (w3 : IntKind.i64.wrap (A1 + A2) = A4) (w4 : IntKind.i64.wrap (A4 + A3) = 0) (w5 : IntKind.i64.wrap (p1 * y1) = B1) (w6 : IntKind.i64.wrap (p2 * y2) = B2) (w7 : IntKind.i64.wrap (p3 * y3) = B3) (w8 : IntKind.i64.wrap (B1 + B2) = B4) (w9 : IntKind.i64.wrap (B4 + B3) = 0) (w10 : IntKind.i64.wrap (p1 * p1) = C1) (w11 : IntKind.i64.wrap (p2 * p2) = C2) (w12 : IntKind.i64.wrap (p3 * p3) = C3) (w13 : IntKind.i64.wrap (C1 + C2) = C4) (w14 : IntKind.i64.wrap (C4 + C3) = C5) (w15 : IntKind.i64.wrap (d * d) = D) (w16 : IntKind.i64.wrap (C5 + D) = M) (w17 : IntKind.i64.wrap (l1 * l2) = M) (w18 : IntKind.i64.wrap (-n) = m)
    (h1 : ¬ den < 1) (h2 : ¬ 4294967296 < den) (h3 : ¬ num < 0) (h4 : den < num)
    (H1 : ∀ w, Calls Try.prog 25 #[vv x1 x2 x3, vv y1 y2 y3] w (Ret (.tuple #[vv p1 p2 p3, .int .i64 0]) w))
    (H2 : ∀ w, Calls Try.prog 24 #[vv x1 x2 x3, vv y1 y2 y3] w (Ret (.tuple #[.int .i64 d, .int .i64 0]) w))
    (H3 : ∀ w, Calls Try.prog 26 #[vv x1 x2 x3] w (Ret (.tuple #[.int .i64 l1, .int .i64 0]) w))
    (H4 : ∀ w, Calls Try.prog 26 #[vv y1 y2 y3] w (Ret (.tuple #[.int .i64 l2, .int .i64 0]) w))
    (H5 : ∀ w, Calls Try.prog 33 #[vv x1 x2 x3, vv y1 y2 y3, vv z1 z2 z3] w (Ret (.tuple #[.int .i64 m, .int .i64 0]) w))
    (H6 : ∀ w, Calls Try.prog 33 #[vv y1 y2 y3, vv x1 x2 x3, vv z1 z2 z3] w (Ret (.tuple #[.int .i64 n, .int .i64 0]) w)) (w : World) :
    Calls Try.prog 9 #[vv x1 x2 x3, vv y1 y2 y3, vv z1 z2 z3, .int .i64 num, .int .i64 den] w (Ret (.bool true) w) := by
  have H1 := Lib.hid H1
  have H2 := Lib.hid H2
  have H3 := Lib.hid H3
  have H4 := Lib.hid H4
  have H5 := Lib.hid H5
  have H6 := Lib.hid H6
  have HK := Lib.hid known_true
  have E := Lib.hid (Below.refl w.heap.size w)
  have BX := Lib.hid (Bxs.nil w)
  go_enter Try.func9, Try.ntmps9
  go_upto_region 1 with (fail)
  obtain ⟨u0, hu⟩ : ∃ u0 : World, u0 = w.alloc (.cells #[.int .i64 x1, .int .i64 x2, .int .i64 x3] 23) := ⟨_, rfl⟩
  have b : Below w.heap.size w u0 := by rw [hu]; exact below_one _ _
  have E := Lib.hid (chain E.out b)
  have BX := Lib.hid (BX.out.cons x1 x2 x3)
  rw [← hu] at BX
  have hs : w.heap.size + 1 = u0.heap.size := by rw [hu]; simp
  rw [← hu]
  rw [hs]
  obtain ⟨ga, hga⟩ : ∃ ga, ga = w.heap.size := ⟨_, rfl⟩
  rw [← hga] at BX ⊢
  clear hu b hga hs
  obtain ⟨u1, hu⟩ : ∃ u1 : World, u1 = u0.alloc (.cells #[.int .i64 y1, .int .i64 y2, .int .i64 y3] 23) := ⟨_, rfl⟩
  have b : Below u0.heap.size u0 u1 := by rw [hu]; exact below_one _ _
  have E := Lib.hid (chain E.out b)
  have BX := Lib.hid (BX.out.cons y1 y2 y3)
  rw [← hu] at BX
  have hs : u0.heap.size + 1 = u1.heap.size := by rw [hu]; simp
  rw [← hu]
  rw [hs]
  obtain ⟨gb, hgb⟩ : ∃ gb, gb = u0.heap.size := ⟨_, rfl⟩
  rw [← hgb] at BX ⊢
  clear hu b hgb hs
  obtain ⟨u2, hu⟩ : ∃ u2 : World, u2 = u1.alloc (.cells #[.int .i64 z1, .int .i64 z2, .int .i64 z3] 23) := ⟨_, rfl⟩
  have b : Below u1.heap.size u1 u2 := by rw [hu]; exact below_one _ _
  have E := Lib.hid (chain E.out b)
  have BX := Lib.hid (BX.out.cons z1 z2 z3)
  rw [← hu] at BX
  rw [← hu]
  obtain ⟨gc, hgc⟩ : ∃ gc, gc = u1.heap.size := ⟨_, rfl⟩
  rw [← hgc] at BX ⊢
  clear hu b hgc
  obtain ⟨cga0, cga1, cga2⟩ := BX.out (ga, (x1, x2, x3)) (by simp)
  obtain ⟨cgb0, cgb1, cgb2⟩ := BX.out (gb, (y1, y2, y3)) (by simp)
  obtain ⟨cgc0, cgc1, cgc2⟩ := BX.out (gc, (z1, z2, z3)) (by simp)
  go_wp2
  obtain ⟨u, hu⟩ : ∃ u : World, u = u2.alloc (.cells #[.int .i64 x1, .int .i64 x2, .int .i64 x3, .int .i64 y1, .int .i64 y2, .int .i64 y3, .int .i64 z1, .int .i64 z2, .int .i64 z3] 23) := ⟨_, rfl⟩
  have b : Below u2.heap.size u2 u := by rw [hu]; exact below_one _ _
  have E := Lib.hid (chain E.out b)
  have BX := Lib.hid (BX.out.below b)
  have S : Hid (S9 u u2.heap.size x1 x2 x3 y1 y2 y3 z1 z2 z3) := by rw [hu]; exact ⟨by simp [go_sem], by simp [go_sem], by simp [go_sem], by simp [go_sem], by simp [go_sem], by simp [go_sem], by simp [go_sem], by simp [go_sem], by simp [go_sem]⟩
  rw [← hu]
  obtain ⟨gs, hgs⟩ : ∃ gs, gs = u2.heap.size := ⟨_, rfl⟩
  rw [← hgs] at S ⊢
  clear hu b hgs cga0 cga1 cga2 cgb0 cgb1 cgb2 cgc0 cgc1 cgc2
  refine wp_loop_rounds 4 ?_
  rw [rounds_succ]
  obtain ⟨d0, d1, d2, d3, d4, d5, d6, d7, d8⟩ := S.out
  go_upto_region 4 with (fail)
  obtain ⟨t0, hu⟩ : ∃ t0 : World, t0 = u.alloc (.cells #[.int .i64 x1, .int .i64 x2, .int .i64 x3] 23) := ⟨_, rfl⟩
  have b : Below u.heap.size u t0 := by rw [hu]; exact below_one _ _
  have E := Lib.hid (chain E.out b)
  have BX := Lib.hid (BX.out.cons x1 x2 x3)
  rw [← hu] at BX
  rw [← hu]
  obtain ⟨h0, hh0⟩ : ∃ h0, h0 = u.heap.size := ⟨_, rfl⟩
  rw [← hh0] at BX ⊢
  have S := Lib.hid (S.out.below b)
  clear hu b hh0 d0 d1 d2 d3 d4 d5 d6 d7 d8
  obtain ⟨ch00, ch01, ch02⟩ := BX.out (h0, (x1, x2, x3)) (by simp)
  go_wp2
  clear ch00 ch01 ch02
  rw [rounds_succ]
  obtain ⟨d0, d1, d2, d3, d4, d5, d6, d7, d8⟩ := S.out
  go_upto_region 4 with (fail)
  obtain ⟨t1, hu⟩ : ∃ t1 : World, t1 = t0.alloc (.cells #[.int .i64 y1, .int .i64 y2, .int .i64 y3] 23) := ⟨_, rfl⟩
  have b : Below t0.heap.size t0 t1 := by rw [hu]; exact below_one _ _
  have E := Lib.hid (chain E.out b)
  have BX := Lib.hid (BX.out.cons y1 y2 y3)
  rw [← hu] at BX
  rw [← hu]
  obtain ⟨h1, hh1⟩ : ∃ h1, h1 = t0.heap.size := ⟨_, rfl⟩
  rw [← hh1] at BX ⊢
  have S := Lib.hid (S.out.below b)
  clear hu b hh1 d0 d1 d2 d3 d4 d5 d6 d7 d8
  obtain ⟨ch10, ch11, ch12⟩ := BX.out (h1, (y1, y2, y3)) (by simp)
  go_wp2
  clear ch10 ch11 ch12
  rw [rounds_succ]
  obtain ⟨d0, d1, d2, d3, d4, d5, d6, d7, d8⟩ := S.out
  go_upto_region 4 with (fail)
  obtain ⟨t2, hu⟩ : ∃ t2 : World, t2 = t1.alloc (.cells #[.int .i64 z1, .int .i64 z2, .int .i64 z3] 23) := ⟨_, rfl⟩
  have b : Below t1.heap.size t1 t2 := by rw [hu]; exact below_one _ _
  have E := Lib.hid (chain E.out b)
  have BX := Lib.hid (BX.out.cons z1 z2 z3)
  rw [← hu] at BX
  rw [← hu]
  obtain ⟨h2, hh2⟩ : ∃ h2, h2 = t1.heap.size := ⟨_, rfl⟩
  rw [← hh2] at BX ⊢
  have S := Lib.hid (S.out.below b)
  clear hu b hh2 d0 d1 d2 d3 d4 d5 d6 d7 d8
  obtain ⟨ch20, ch21, ch22⟩ := BX.out (h2, (z1, z2, z3)) (by simp)
  go_wp2
  clear ch20 ch21 ch22
  rw [rounds_succ]
  obtain ⟨cga0, cga1, cga2⟩ := BX.out (ga, (x1, x2, x3)) (by simp)
  obtain ⟨cgb0, cgb1, cgb2⟩ := BX.out (gb, (y1, y2, y3)) (by simp)
  go_wp2_with fail
  refine (H1.out _).mono ?_
  rintro e y ⟨rfl, b⟩
  have E := Lib.hid (chain E.out b)
  have BX := Lib.hid (BX.out.below b)
  clear b cga0 cga1 cga2 cgb0 cgb1 cgb2
  go_upto_region 8 with (fail)
  obtain ⟨u, hu⟩ : ∃ u : World, u = y.alloc (.cells #[.int .i64 p1, .int .i64 p2, .int .i64 p3] 23) := ⟨_, rfl⟩
  have b : Below y.heap.size y u := by rw [hu]; exact below_one _ _
  have E := Lib.hid (chain E.out b)
  have BX := Lib.hid (BX.out.cons p1 p2 p3)
  rw [← hu] at BX
  rw [← hu]
  obtain ⟨g0, hg0⟩ : ∃ g0, g0 = y.heap.size := ⟨_, rfl⟩
  rw [← hg0] at BX ⊢
  clear hu b hg0
  obtain ⟨cga0, cga1, cga2⟩ := BX.out (ga, (x1, x2, x3)) (by simp)
  obtain ⟨cgb0, cgb1, cgb2⟩ := BX.out (gb, (y1, y2, y3)) (by simp)
  go_wp2_with fail
  refine (H2.out _).mono ?_
  rintro e y ⟨rfl, b⟩
  have E := Lib.hid (chain E.out b)
  have BX := Lib.hid (BX.out.below b)
  clear b cga0 cga1 cga2 cgb0 cgb1 cgb2
  obtain ⟨cga0, cga1, cga2⟩ := BX.out (ga, (x1, x2, x3)) (by simp)
  go_wp2_with fail
  refine (H3.out _).mono ?_
  rintro e y ⟨rfl, b⟩
  have E := Lib.hid (chain E.out b)
  have BX := Lib.hid (BX.out.below b)
  clear b cga0 cga1 cga2
  obtain ⟨cgb0, cgb1, cgb2⟩ := BX.out (gb, (y1, y2, y3)) (by simp)
  go_wp2_with fail
  refine (H4.out _).mono ?_
  rintro e y ⟨rfl, b⟩
  have E := Lib.hid (chain E.out b)
  have BX := Lib.hid (BX.out.below b)
  clear b cgb0 cgb1 cgb2
  obtain ⟨cg00, cg01, cg02⟩ := BX.out (g0, (p1, p2, p3)) (by simp)
  obtain ⟨cga0, cga1, cga2⟩ := BX.out (ga, (x1, x2, x3)) (by simp)
  obtain ⟨cgb0, cgb1, cgb2⟩ := BX.out (gb, (y1, y2, y3)) (by simp)
  obtain ⟨cgc0, cgc1, cgc2⟩ := BX.out (gc, (z1, z2, z3)) (by simp)
  go_wp2_with fail
  refine (H5.out _).mono ?_
  rintro e y ⟨rfl, b⟩
  have E := Lib.hid (chain E.out b)
  have BX := Lib.hid (BX.out.below b)
  clear b cg00 cg01 cg02 cga0 cga1 cga2 cgb0 cgb1 cgb2 cgc0 cgc1 cgc2
  obtain ⟨cga0, cga1, cga2⟩ := BX.out (ga, (x1, x2, x3)) (by simp)
  obtain ⟨cgb0, cgb1, cgb2⟩ := BX.out (gb, (y1, y2, y3)) (by simp)
  obtain ⟨cgc0, cgc1, cgc2⟩ := BX.out (gc, (z1, z2, z3)) (by simp)
  go_wp2_with fail
  refine (H6.out _).mono ?_
  rintro e y ⟨rfl, b⟩
  have E := Lib.hid (chain E.out b)
  have BX := Lib.hid (BX.out.below b)
  clear b cga0 cga1 cga2 cgb0 cgb1 cgb2 cgc0 cgc1 cgc2
  go_wp2_with fail
  refine (HK.out _).mono ?_
  rintro e y ⟨rfl, b⟩
  have E := Lib.hid (chain E.out b)
  have BX := Lib.hid (BX.out.below b)
  clear b
  go_wp2
  go_ret
  exact ⟨rfl, by first | exact E.out | exact E.out.drew⟩
end Go.Proofs.Ytdicbeaocedkmaa
