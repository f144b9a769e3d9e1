/- What the theorem leans on, part 4: Pha, Phb, Hrb, Hrc, Hrd, Phc, Phd. -/
import Derived.Test.YtpkfngfenkcjoaaZ3
import Derived.Test.YtpkfngfenkcjoaaZ2

/- hull's small functions: walks over what their calls give. -/
set_option linter.all false
namespace Go.Proofs.Ytpkfngfenkcjoaa
open Go.RowKit

set_option maxRecDepth 100000 in
set_option maxHeartbeats 4000000 in
theorem flat_any (x y z : Int) (w : World) : Calls Try.prog 35 #[vv x y z] w (Ret (vv x y 0) w) := by
  go_enter Try.func35, Try.ntmps35
  go_upto_region 1 with (fail)
  obtain ⟨w0, hw0⟩ : ∃ w0 : World, w0 = (w.alloc (.cells #[.int .i64 x, .int .i64 y, .int .i64 z] 24)).alloc (.cells #[.int .i64 0, .int .i64 0, .int .i64 0] 24) := ⟨_, rfl⟩
  have hb0 : Hid (Below w.heap.size w w0) := by rw [hw0]; exact (below_one w _).alloc (by simp) _
  have hv0 : Hid (V3 w0 w.heap.size x y z) := by rw [hw0]; exact ⟨by simp [go_sem], by simp [go_sem], by simp [go_sem]⟩
  have hv1 : Hid (V3 w0 (w.heap.size + 1) 0 0 0) := by rw [hw0]; exact ⟨by simp [go_sem], by simp [go_sem], by simp [go_sem]⟩
  have f10 : w0.frozen? ⟨w.heap.size + 1, 0, none⟩ = false := by rw [hw0]; simp [go_sem]
  have f11 : w0.frozen? ⟨w.heap.size + 1, 1, none⟩ = false := by rw [hw0]; simp [go_sem]
  have f12 : w0.frozen? ⟨w.heap.size + 1, 2, none⟩ = false := by rw [hw0]; simp [go_sem]
  have F1 := Lib.hid (And.intro f10 (And.intro f11 f12))
  clear f10 f11 f12
  rw [← hw0]
  clear hw0
  obtain ⟨k00, k01, k02⟩ := hv0.out.below (Below.refl _ _)
  obtain ⟨k10, k11, k12⟩ := hv1.out.below (Below.refl _ _)
  have g10 := keepf (Below.refl _ _) hv1.out.1 F1.out.1
  have g11 := keepf (Below.refl _ _) hv1.out.2.1 F1.out.2.1
  have g12 := keepf (Below.refl _ _) hv1.out.2.2 F1.out.2.2
  have n01 : ¬ (w.heap.size = w.heap.size + 1) := by omega
  have n10 : ¬ (w.heap.size + 1 = w.heap.size) := by omega
  have HZ := Lib.hid (((hb0.out.setCell (p := ⟨w.heap.size + 1, 0, none⟩) (by simp) (.int .i64 x)).setCell (p := ⟨w.heap.size + 1, 1, none⟩) (by simp) (.int .i64 y)).setCell (p := ⟨w.heap.size + 1, 2, none⟩) (by simp) (.int .i64 0))
  go_wp2
  exact bodyPost_ret (v := vv x y 0) (by simp [results, Try.results35, go_sem, k10, k11, k12]) rfl ⟨rfl, HZ.out⟩

set_option maxRecDepth 100000 in
set_option maxHeartbeats 4000000 in
theorem turn_way (x1 x2 x3 y1 y2 y3 z1 z2 z3 r : Int) 
    (H1 : ∀ w, Calls Try.prog 63 #[vv x1 x2 x3, vv y1 y2 y3, vv z1 z2 z3] w (Ret (.tuple #[.int .i64 r, .int .i64 0]) w)) (w : World) :
    Calls Try.prog 37 #[vv x1 x2 x3, vv y1 y2 y3, vv z1 z2 z3] w (Ret (.int .i64 r) w) := by
  have H1 := Lib.hid H1
  have E := Lib.hid (Below.refl w.heap.size w)
  have BX := Lib.hid (Bxs.nil w)
  go_enter Try.func37, Try.ntmps37
  go_upto_region 1 with (fail)
  obtain ⟨u0, hu⟩ : ∃ u0 : World, u0 = w.alloc (.cells #[.int .i64 x1, .int .i64 x2, .int .i64 x3] 24) := ⟨_, rfl⟩
  have b : Below w.heap.size w u0 := by rw [hu]; exact below_one _ _
  have E := Lib.hid (chain E.out b)
  have BX := Lib.hid (BX.out.cons x1 x2 x3)
  rw [← hu] at BX
  have hs : w.heap.size + 1 = u0.heap.size := by rw [hu]; simp
  rw [← hu]
  rw [hs]
  obtain ⟨ga, hga⟩ : ∃ ga, ga = w.heap.size := ⟨_, rfl⟩
  rw [← hga] at BX ⊢
  clear hu b hga hs
  obtain ⟨u1, hu⟩ : ∃ u1 : World, u1 = u0.alloc (.cells #[.int .i64 y1, .int .i64 y2, .int .i64 y3] 24) := ⟨_, rfl⟩
  have b : Below u0.heap.size u0 u1 := by rw [hu]; exact below_one _ _
  have E := Lib.hid (chain E.out b)
  have BX := Lib.hid (BX.out.cons y1 y2 y3)
  rw [← hu] at BX
  have hs : u0.heap.size + 1 = u1.heap.size := by rw [hu]; simp
  rw [← hu]
  rw [hs]
  obtain ⟨gb, hgb⟩ : ∃ gb, gb = u0.heap.size := ⟨_, rfl⟩
  rw [← hgb] at BX ⊢
  clear hu b hgb hs
  obtain ⟨u2, hu⟩ : ∃ u2 : World, u2 = u1.alloc (.cells #[.int .i64 z1, .int .i64 z2, .int .i64 z3] 24) := ⟨_, rfl⟩
  have b : Below u1.heap.size u1 u2 := by rw [hu]; exact below_one _ _
  have E := Lib.hid (chain E.out b)
  have BX := Lib.hid (BX.out.cons z1 z2 z3)
  rw [← hu] at BX
  rw [← hu]
  obtain ⟨gc, hgc⟩ : ∃ gc, gc = u1.heap.size := ⟨_, rfl⟩
  rw [← hgc] at BX ⊢
  clear hu b hgc
  obtain ⟨cga0, cga1, cga2⟩ := BX.out (ga, (x1, x2, x3)) (by simp)
  obtain ⟨cgb0, cgb1, cgb2⟩ := BX.out (gb, (y1, y2, y3)) (by simp)
  obtain ⟨cgc0, cgc1, cgc2⟩ := BX.out (gc, (z1, z2, z3)) (by simp)
  go_wp2_with fail
  refine (H1.out _).mono ?_
  rintro e y ⟨rfl, b⟩
  have E := Lib.hid (chain E.out b)
  have BX := Lib.hid (BX.out.below b)
  clear b cga0 cga1 cga2 cgb0 cgb1 cgb2 cgc0 cgc1 cgc2
  go_wp2
  go_ret
  exact ⟨rfl, by first | exact E.out | exact E.out.drew | exact E.out.alloc E.out.size _⟩

set_option maxRecDepth 100000 in
set_option maxHeartbeats 4000000 in
theorem area2_way (x1 x2 x3 y1 y2 y3 r1 r2 r3 : Int) 
    (H1 : ∀ w, Calls Try.prog 44 #[vv x1 x2 x3, vv y1 y2 y3] w (Ret (.tuple #[vv r1 r2 r3, .int .i64 0]) w)) (w : World) :
    Calls Try.prog 21 #[vv x1 x2 x3, vv y1 y2 y3] w (Ret (.int .i64 r3) w) := by
  have H1 := Lib.hid H1
  have E := Lib.hid (Below.refl w.heap.size w)
  have BX := Lib.hid (Bxs.nil w)
  go_enter Try.func21, Try.ntmps21
  go_upto_region 1 with (fail)
  obtain ⟨u0, hu⟩ : ∃ u0 : World, u0 = w.alloc (.cells #[.int .i64 x1, .int .i64 x2, .int .i64 x3] 24) := ⟨_, rfl⟩
  have b : Below w.heap.size w u0 := by rw [hu]; exact below_one _ _
  have E := Lib.hid (chain E.out b)
  have BX := Lib.hid (BX.out.cons x1 x2 x3)
  rw [← hu] at BX
  have hs : w.heap.size + 1 = u0.heap.size := by rw [hu]; simp
  rw [← hu]
  rw [hs]
  obtain ⟨ga, hga⟩ : ∃ ga, ga = w.heap.size := ⟨_, rfl⟩
  rw [← hga] at BX ⊢
  clear hu b hga hs
  obtain ⟨u1, hu⟩ : ∃ u1 : World, u1 = u0.alloc (.cells #[.int .i64 y1, .int .i64 y2, .int .i64 y3] 24) := ⟨_, rfl⟩
  have b : Below u0.heap.size u0 u1 := by rw [hu]; exact below_one _ _
  have E := Lib.hid (chain E.out b)
  have BX := Lib.hid (BX.out.cons y1 y2 y3)
  rw [← hu] at BX
  rw [← hu]
  obtain ⟨gb, hgb⟩ : ∃ gb, gb = u0.heap.size := ⟨_, rfl⟩
  rw [← hgb] at BX ⊢
  clear hu b hgb
  obtain ⟨cga0, cga1, cga2⟩ := BX.out (ga, (x1, x2, x3)) (by simp)
  obtain ⟨cgb0, cgb1, cgb2⟩ := BX.out (gb, (y1, y2, y3)) (by simp)
  go_wp2_with fail
  refine (H1.out _).mono ?_
  rintro e y ⟨rfl, b⟩
  have E := Lib.hid (chain E.out b)
  have BX := Lib.hid (BX.out.below b)
  clear b cga0 cga1 cga2 cgb0 cgb1 cgb2
  go_wp2
  go_ret
  exact ⟨rfl, by first | exact E.out | exact E.out.drew | exact E.out.alloc E.out.size _⟩

set_option maxRecDepth 100000 in
set_option maxHeartbeats 4000000 in
theorem distance2_way (x1 x2 x3 y1 y2 y3 r : Int) 
    (H1 : ∀ w, Calls Try.prog 47 #[vv x1 x2 x3, vv y1 y2 y3] w (Ret (.tuple #[.int .i64 r, .int .i64 0]) w)) (w : World) :
    Calls Try.prog 23 #[vv x1 x2 x3, vv y1 y2 y3] w (Ret (.int .i64 r) w) := by
  have H1 := Lib.hid H1
  have E := Lib.hid (Below.refl w.heap.size w)
  have BX := Lib.hid (Bxs.nil w)
  go_enter Try.func23, Try.ntmps23
  go_upto_region 1 with (fail)
  obtain ⟨u0, hu⟩ : ∃ u0 : World, u0 = w.alloc (.cells #[.int .i64 x1, .int .i64 x2, .int .i64 x3] 24) := ⟨_, rfl⟩
  have b : Below w.heap.size w u0 := by rw [hu]; exact below_one _ _
  have E := Lib.hid (chain E.out b)
  have BX := Lib.hid (BX.out.cons x1 x2 x3)
  rw [← hu] at BX
  have hs : w.heap.size + 1 = u0.heap.size := by rw [hu]; simp
  rw [← hu]
  rw [hs]
  obtain ⟨ga, hga⟩ : ∃ ga, ga = w.heap.size := ⟨_, rfl⟩
  rw [← hga] at BX ⊢
  clear hu b hga hs
  obtain ⟨u1, hu⟩ : ∃ u1 : World, u1 = u0.alloc (.cells #[.int .i64 y1, .int .i64 y2, .int .i64 y3] 24) := ⟨_, rfl⟩
  have b : Below u0.heap.size u0 u1 := by rw [hu]; exact below_one _ _
  have E := Lib.hid (chain E.out b)
  have BX := Lib.hid (BX.out.cons y1 y2 y3)
  rw [← hu] at BX
  rw [← hu]
  obtain ⟨gb, hgb⟩ : ∃ gb, gb = u0.heap.size := ⟨_, rfl⟩
  rw [← hgb] at BX ⊢
  clear hu b hgb
  obtain ⟨cga0, cga1, cga2⟩ := BX.out (ga, (x1, x2, x3)) (by simp)
  obtain ⟨cgb0, cgb1, cgb2⟩ := BX.out (gb, (y1, y2, y3)) (by simp)
  go_wp2_with fail
  refine (H1.out _).mono ?_
  rintro e y ⟨rfl, b⟩
  have E := Lib.hid (chain E.out b)
  have BX := Lib.hid (BX.out.below b)
  clear b cga0 cga1 cga2 cgb0 cgb1 cgb2
  go_wp2
  go_ret
  exact ⟨rfl, by first | exact E.out | exact E.out.drew | exact E.out.alloc E.out.size _⟩

set_option maxRecDepth 100000 in
set_option maxHeartbeats 4000000 in
theorem dot_way (x1 x2 x3 y1 y2 y3 r : Int) 
    (H1 : ∀ w, Calls Try.prog 49 #[vv x1 x2 x3, vv y1 y2 y3] w (Ret (.tuple #[.int .i64 r, .int .i64 0]) w)) (w : World) :
    Calls Try.prog 25 #[vv x1 x2 x3, vv y1 y2 y3] w (Ret (.int .i64 r) w) := by
  have H1 := Lib.hid H1
  have E := Lib.hid (Below.refl w.heap.size w)
  have BX := Lib.hid (Bxs.nil w)
  go_enter Try.func25, Try.ntmps25
  go_upto_region 1 with (fail)
  obtain ⟨u0, hu⟩ : ∃ u0 : World, u0 = w.alloc (.cells #[.int .i64 x1, .int .i64 x2, .int .i64 x3] 24) := ⟨_, rfl⟩
  have b : Below w.heap.size w u0 := by rw [hu]; exact below_one _ _
  have E := Lib.hid (chain E.out b)
  have BX := Lib.hid (BX.out.cons x1 x2 x3)
  rw [← hu] at BX
  have hs : w.heap.size + 1 = u0.heap.size := by rw [hu]; simp
  rw [← hu]
  rw [hs]
  obtain ⟨ga, hga⟩ : ∃ ga, ga = w.heap.size := ⟨_, rfl⟩
  rw [← hga] at BX ⊢
  clear hu b hga hs
  obtain ⟨u1, hu⟩ : ∃ u1 : World, u1 = u0.alloc (.cells #[.int .i64 y1, .int .i64 y2, .int .i64 y3] 24) := ⟨_, rfl⟩
  have b : Below u0.heap.size u0 u1 := by rw [hu]; exact below_one _ _
  have E := Lib.hid (chain E.out b)
  have BX := Lib.hid (BX.out.cons y1 y2 y3)
  rw [← hu] at BX
  rw [← hu]
  obtain ⟨gb, hgb⟩ : ∃ gb, gb = u0.heap.size := ⟨_, rfl⟩
  rw [← hgb] at BX ⊢
  clear hu b hgb
  obtain ⟨cga0, cga1, cga2⟩ := BX.out (ga, (x1, x2, x3)) (by simp)
  obtain ⟨cgb0, cgb1, cgb2⟩ := BX.out (gb, (y1, y2, y3)) (by simp)
  go_wp2_with fail
  refine (H1.out _).mono ?_
  rintro e y ⟨rfl, b⟩
  have E := Lib.hid (chain E.out b)
  have BX := Lib.hid (BX.out.below b)
  clear b cga0 cga1 cga2 cgb0 cgb1 cgb2
  go_wp2
  go_ret
  exact ⟨rfl, by first | exact E.out | exact E.out.drew | exact E.out.alloc E.out.size _⟩

set_option maxRecDepth 100000 in
set_option maxHeartbeats 4000000 in
theorem sol_0 (x1 x2 x3 y1 y2 y3 z1 z2 z3 r c d : Int) (h : ¬ r = 0)
    (HT : ∀ w, Calls Try.prog 37 #[vv x1 x2 x3, vv y1 y2 y3, vv z1 z2 z3] w (Ret (.int .i64 r) w)) (w : World) :
    Calls Try.prog 36 #[vv x1 x2 x3, vv y1 y2 y3, vv z1 z2 z3] w (Ret (.int .i64 (-1)) w) := by
  have HT := Lib.hid HT
  have E := Lib.hid (Below.refl w.heap.size w)
  have BX := Lib.hid (Bxs.nil w)
  go_enter Try.func36, Try.ntmps36
  go_upto_region 1 with (fail)
  obtain ⟨u0, hu⟩ : ∃ u0 : World, u0 = w.alloc (.cells #[.int .i64 x1, .int .i64 x2, .int .i64 x3] 24) := ⟨_, rfl⟩
  have b : Below w.heap.size w u0 := by rw [hu]; exact below_one _ _
  have E := Lib.hid (chain E.out b)
  have BX := Lib.hid (BX.out.cons x1 x2 x3)
  rw [← hu] at BX
  have hs : w.heap.size + 1 = u0.heap.size := by rw [hu]; simp
  rw [← hu]
  rw [hs]
  obtain ⟨ga, hga⟩ : ∃ ga, ga = w.heap.size := ⟨_, rfl⟩
  rw [← hga] at BX ⊢
  clear hu b hga hs
  obtain ⟨u1, hu⟩ : ∃ u1 : World, u1 = u0.alloc (.cells #[.int .i64 y1, .int .i64 y2, .int .i64 y3] 24) := ⟨_, rfl⟩
  have b : Below u0.heap.size u0 u1 := by rw [hu]; exact below_one _ _
  have E := Lib.hid (chain E.out b)
  have BX := Lib.hid (BX.out.cons y1 y2 y3)
  rw [← hu] at BX
  have hs : u0.heap.size + 1 = u1.heap.size := by rw [hu]; simp
  rw [← hu]
  rw [hs]
  obtain ⟨gb, hgb⟩ : ∃ gb, gb = u0.heap.size := ⟨_, rfl⟩
  rw [← hgb] at BX ⊢
  clear hu b hgb hs
  obtain ⟨u2, hu⟩ : ∃ u2 : World, u2 = u1.alloc (.cells #[.int .i64 z1, .int .i64 z2, .int .i64 z3] 24) := ⟨_, rfl⟩
  have b : Below u1.heap.size u1 u2 := by rw [hu]; exact below_one _ _
  have E := Lib.hid (chain E.out b)
  have BX := Lib.hid (BX.out.cons z1 z2 z3)
  rw [← hu] at BX
  rw [← hu]
  obtain ⟨gc, hgc⟩ : ∃ gc, gc = u1.heap.size := ⟨_, rfl⟩
  rw [← hgc] at BX ⊢
  clear hu b hgc
  obtain ⟨cga0, cga1, cga2⟩ := BX.out (ga, (x1, x2, x3)) (by simp)
  obtain ⟨cgb0, cgb1, cgb2⟩ := BX.out (gb, (y1, y2, y3)) (by simp)
  obtain ⟨cgc0, cgc1, cgc2⟩ := BX.out (gc, (z1, z2, z3)) (by simp)
  go_wp2_with fail
  refine (HT.out _).mono ?_
  rintro e y ⟨rfl, b⟩
  have E := Lib.hid (chain E.out b)
  have BX := Lib.hid (BX.out.below b)
  clear b cga0 cga1 cga2 cgb0 cgb1 cgb2 cgc0 cgc1 cgc2
  go_wp2
  go_ret
  exact ⟨rfl, by first | exact E.out | exact E.out.drew | exact E.out.alloc E.out.size _⟩

set_option maxRecDepth 100000 in
set_option maxHeartbeats 4000000 in
theorem sol_1 (x1 x2 x3 y1 y2 y3 z1 z2 z3 r c d : Int) (h : r = 0) (h1 : ¬ c ≤ 0)
    (HT : ∀ w, Calls Try.prog 37 #[vv x1 x2 x3, vv y1 y2 y3, vv z1 z2 z3] w (Ret (.int .i64 r) w))
    (HC : ∀ w, Calls Try.prog 59 #[vv x1 x2 x3, vv z1 z2 z3] w (Ret (.int .i64 c) w)) (w : World) :
    Calls Try.prog 36 #[vv x1 x2 x3, vv y1 y2 y3, vv z1 z2 z3] w (Ret (.int .i64 (-1)) w) := by
  have HT := Lib.hid HT
  have HC := Lib.hid HC
  have E := Lib.hid (Below.refl w.heap.size w)
  have BX := Lib.hid (Bxs.nil w)
  go_enter Try.func36, Try.ntmps36
  go_upto_region 1 with (fail)
  obtain ⟨u0, hu⟩ : ∃ u0 : World, u0 = w.alloc (.cells #[.int .i64 x1, .int .i64 x2, .int .i64 x3] 24) := ⟨_, rfl⟩
  have b : Below w.heap.size w u0 := by rw [hu]; exact below_one _ _
  have E := Lib.hid (chain E.out b)
  have BX := Lib.hid (BX.out.cons x1 x2 x3)
  rw [← hu] at BX
  have hs : w.heap.size + 1 = u0.heap.size := by rw [hu]; simp
  rw [← hu]
  rw [hs]
  obtain ⟨ga, hga⟩ : ∃ ga, ga = w.heap.size := ⟨_, rfl⟩
  rw [← hga] at BX ⊢
  clear hu b hga hs
  obtain ⟨u1, hu⟩ : ∃ u1 : World, u1 = u0.alloc (.cells #[.int .i64 y1, .int .i64 y2, .int .i64 y3] 24) := ⟨_, rfl⟩
  have b : Below u0.heap.size u0 u1 := by rw [hu]; exact below_one _ _
  have E := Lib.hid (chain E.out b)
  have BX := Lib.hid (BX.out.cons y1 y2 y3)
  rw [← hu] at BX
  have hs : u0.heap.size + 1 = u1.heap.size := by rw [hu]; simp
  rw [← hu]
  rw [hs]
  obtain ⟨gb, hgb⟩ : ∃ gb, gb = u0.heap.size := ⟨_, rfl⟩
  rw [← hgb] at BX ⊢
  clear hu b hgb hs
  obtain ⟨u2, hu⟩ : ∃ u2 : World, u2 = u1.alloc (.cells #[.int .i64 z1, .int .i64 z2, .int .i64 z3] 24) := ⟨_, rfl⟩
  have b : Below u1.heap.size u1 u2 := by rw [hu]; exact below_one _ _
  have E := Lib.hid (chain E.out b)
  have BX := Lib.hid (BX.out.cons z1 z2 z3)
  rw [← hu] at BX
  rw [← hu]
  obtain ⟨gc, hgc⟩ : ∃ gc, gc = u1.heap.size := ⟨_, rfl⟩
  rw [← hgc] at BX ⊢
  clear hu b hgc
  obtain ⟨cga0, cga1, cga2⟩ := BX.out (ga, (x1, x2, x3)) (by simp)
  obtain ⟨cgb0, cgb1, cgb2⟩ := BX.out (gb, (y1, y2, y3)) (by simp)
  obtain ⟨cgc0, cgc1, cgc2⟩ := BX.out (gc, (z1, z2, z3)) (by simp)
  go_wp2_with fail
  refine (HT.out _).mono ?_
  rintro e y ⟨rfl, b⟩
  have E := Lib.hid (chain E.out b)
  have BX := Lib.hid (BX.out.below b)
  clear b cga0 cga1 cga2 cgb0 cgb1 cgb2 cgc0 cgc1 cgc2
  obtain ⟨cga0, cga1, cga2⟩ := BX.out (ga, (x1, x2, x3)) (by simp)
  obtain ⟨cgc0, cgc1, cgc2⟩ := BX.out (gc, (z1, z2, z3)) (by simp)
  go_wp2_with fail
  refine (HC.out _).mono ?_
  rintro e y ⟨rfl, b⟩
  have E := Lib.hid (chain E.out b)
  have BX := Lib.hid (BX.out.below b)
  clear b cga0 cga1 cga2 cgc0 cgc1 cgc2
  go_wp2
  go_ret
  exact ⟨rfl, by first | exact E.out | exact E.out.drew | exact E.out.alloc E.out.size _⟩

set_option maxRecDepth 100000 in
set_option maxHeartbeats 4000000 in
theorem sol_2 (x1 x2 x3 y1 y2 y3 z1 z2 z3 r c d : Int) (h : r = 0) (h1 : c ≤ 0) (h2 : ¬ d ≤ 0)
    (HT : ∀ w, Calls Try.prog 37 #[vv x1 x2 x3, vv y1 y2 y3, vv z1 z2 z3] w (Ret (.int .i64 r) w))
    (HC : ∀ w, Calls Try.prog 59 #[vv x1 x2 x3, vv z1 z2 z3] w (Ret (.int .i64 c) w))
    (HD : ∀ w, Calls Try.prog 59 #[vv z1 z2 z3, vv y1 y2 y3] w (Ret (.int .i64 d) w)) (w : World) :
    Calls Try.prog 36 #[vv x1 x2 x3, vv y1 y2 y3, vv z1 z2 z3] w (Ret (.int .i64 (-1)) w) := by
  have HT := Lib.hid HT
  have HC := Lib.hid HC
  have HD := Lib.hid HD
  have E := Lib.hid (Below.refl w.heap.size w)
  have BX := Lib.hid (Bxs.nil w)
  go_enter Try.func36, Try.ntmps36
  go_upto_region 1 with (fail)
  obtain ⟨u0, hu⟩ : ∃ u0 : World, u0 = w.alloc (.cells #[.int .i64 x1, .int .i64 x2, .int .i64 x3] 24) := ⟨_, rfl⟩
  have b : Below w.heap.size w u0 := by rw [hu]; exact below_one _ _
  have E := Lib.hid (chain E.out b)
  have BX := Lib.hid (BX.out.cons x1 x2 x3)
  rw [← hu] at BX
  have hs : w.heap.size + 1 = u0.heap.size := by rw [hu]; simp
  rw [← hu]
  rw [hs]
  obtain ⟨ga, hga⟩ : ∃ ga, ga = w.heap.size := ⟨_, rfl⟩
  rw [← hga] at BX ⊢
  clear hu b hga hs
  obtain ⟨u1, hu⟩ : ∃ u1 : World, u1 = u0.alloc (.cells #[.int .i64 y1, .int .i64 y2, .int .i64 y3] 24) := ⟨_, rfl⟩
  have b : Below u0.heap.size u0 u1 := by rw [hu]; exact below_one _ _
  have E := Lib.hid (chain E.out b)
  have BX := Lib.hid (BX.out.cons y1 y2 y3)
  rw [← hu] at BX
  have hs : u0.heap.size + 1 = u1.heap.size := by rw [hu]; simp
  rw [← hu]
  rw [hs]
  obtain ⟨gb, hgb⟩ : ∃ gb, gb = u0.heap.size := ⟨_, rfl⟩
  rw [← hgb] at BX ⊢
  clear hu b hgb hs
  obtain ⟨u2, hu⟩ : ∃ u2 : World, u2 = u1.alloc (.cells #[.int .i64 z1, .int .i64 z2, .int .i64 z3] 24) := ⟨_, rfl⟩
  have b : Below u1.heap.size u1 u2 := by rw [hu]; exact below_one _ _
  have E := Lib.hid (chain E.out b)
  have BX := Lib.hid (BX.out.cons z1 z2 z3)
  rw [← hu] at BX
  rw [← hu]
  obtain ⟨gc, hgc⟩ : ∃ gc, gc = u1.heap.size := ⟨_, rfl⟩
  rw [← hgc] at BX ⊢
  clear hu b hgc
  obtain ⟨cga0, cga1, cga2⟩ := BX.out (ga, (x1, x2, x3)) (by simp)
  obtain ⟨cgb0, cgb1, cgb2⟩ := BX.out (gb, (y1, y2, y3)) (by simp)
  obtain ⟨cgc0, cgc1, cgc2⟩ := BX.out (gc, (z1, z2, z3)) (by simp)
  go_wp2_with fail
  refine (HT.out _).mono ?_
  rintro e y ⟨rfl, b⟩
  have E := Lib.hid (chain E.out b)
  have BX := Lib.hid (BX.out.below b)
  clear b cga0 cga1 cga2 cgb0 cgb1 cgb2 cgc0 cgc1 cgc2
  obtain ⟨cga0, cga1, cga2⟩ := BX.out (ga, (x1, x2, x3)) (by simp)
  obtain ⟨cgc0, cgc1, cgc2⟩ := BX.out (gc, (z1, z2, z3)) (by simp)
  go_wp2_with fail
  refine (HC.out _).mono ?_
  rintro e y ⟨rfl, b⟩
  have E := Lib.hid (chain E.out b)
  have BX := Lib.hid (BX.out.below b)
  clear b cga0 cga1 cga2 cgc0 cgc1 cgc2
  obtain ⟨cgc0, cgc1, cgc2⟩ := BX.out (gc, (z1, z2, z3)) (by simp)
  obtain ⟨cgb0, cgb1, cgb2⟩ := BX.out (gb, (y1, y2, y3)) (by simp)
  go_wp2_with fail
  refine (HD.out _).mono ?_
  rintro e y ⟨rfl, b⟩
  have E := Lib.hid (chain E.out b)
  have BX := Lib.hid (BX.out.below b)
  clear b cgc0 cgc1 cgc2 cgb0 cgb1 cgb2
  go_wp2
  go_ret
  exact ⟨rfl, by first | exact E.out | exact E.out.drew | exact E.out.alloc E.out.size _⟩

set_option maxRecDepth 100000 in
set_option maxHeartbeats 4000000 in
theorem sol_3 (x1 x2 x3 y1 y2 y3 z1 z2 z3 r c d : Int) (h : r = 0) (h1 : c ≤ 0) (h2 : d ≤ 0)
    (HT : ∀ w, Calls Try.prog 37 #[vv x1 x2 x3, vv y1 y2 y3, vv z1 z2 z3] w (Ret (.int .i64 r) w))
    (HC : ∀ w, Calls Try.prog 59 #[vv x1 x2 x3, vv z1 z2 z3] w (Ret (.int .i64 c) w))
    (HD : ∀ w, Calls Try.prog 59 #[vv z1 z2 z3, vv y1 y2 y3] w (Ret (.int .i64 d) w)) (w : World) :
    Calls Try.prog 36 #[vv x1 x2 x3, vv y1 y2 y3, vv z1 z2 z3] w (Ret (.int .i64 0) w) := by
  have HT := Lib.hid HT
  have HC := Lib.hid HC
  have HD := Lib.hid HD
  have E := Lib.hid (Below.refl w.heap.size w)
  have BX := Lib.hid (Bxs.nil w)
  go_enter Try.func36, Try.ntmps36
  go_upto_region 1 with (fail)
  obtain ⟨u0, hu⟩ : ∃ u0 : World, u0 = w.alloc (.cells #[.int .i64 x1, .int .i64 x2, .int .i64 x3] 24) := ⟨_, rfl⟩
  have b : Below w.heap.size w u0 := by rw [hu]; exact below_one _ _
  have E := Lib.hid (chain E.out b)
  have BX := Lib.hid (BX.out.cons x1 x2 x3)
  rw [← hu] at BX
  have hs : w.heap.size + 1 = u0.heap.size := by rw [hu]; simp
  rw [← hu]
  rw [hs]
  obtain ⟨ga, hga⟩ : ∃ ga, ga = w.heap.size := ⟨_, rfl⟩
  rw [← hga] at BX ⊢
  clear hu b hga hs
  obtain ⟨u1, hu⟩ : ∃ u1 : World, u1 = u0.alloc (.cells #[.int .i64 y1, .int .i64 y2, .int .i64 y3] 24) := ⟨_, rfl⟩
  have b : Below u0.heap.size u0 u1 := by rw [hu]; exact below_one _ _
  have E := Lib.hid (chain E.out b)
  have BX := Lib.hid (BX.out.cons y1 y2 y3)
  rw [← hu] at BX
  have hs : u0.heap.size + 1 = u1.heap.size := by rw [hu]; simp
  rw [← hu]
  rw [hs]
  obtain ⟨gb, hgb⟩ : ∃ gb, gb = u0.heap.size := ⟨_, rfl⟩
  rw [← hgb] at BX ⊢
  clear hu b hgb hs
  obtain ⟨u2, hu⟩ : ∃ u2 : World, u2 = u1.alloc (.cells #[.int .i64 z1, .int .i64 z2, .int .i64 z3] 24) := ⟨_, rfl⟩
  have b : Below u1.heap.size u1 u2 := by rw [hu]; exact below_one _ _
  have E := Lib.hid (chain E.out b)
  have BX := Lib.hid (BX.out.cons z1 z2 z3)
  rw [← hu] at BX
  rw [← hu]
  obtain ⟨gc, hgc⟩ : ∃ gc, gc = u1.heap.size := ⟨_, rfl⟩
  rw [← hgc] at BX ⊢
  clear hu b hgc
  obtain ⟨cga0, cga1, cga2⟩ := BX.out (ga, (x1, x2, x3)) (by simp)
  obtain ⟨cgb0, cgb1, cgb2⟩ := BX.out (gb, (y1, y2, y3)) (by simp)
  obtain ⟨cgc0, cgc1, cgc2⟩ := BX.out (gc, (z1, z2, z3)) (by simp)
  go_wp2_with fail
  refine (HT.out _).mono ?_
  rintro e y ⟨rfl, b⟩
  have E := Lib.hid (chain E.out b)
  have BX := Lib.hid (BX.out.below b)
  clear b cga0 cga1 cga2 cgb0 cgb1 cgb2 cgc0 cgc1 cgc2
  obtain ⟨cga0, cga1, cga2⟩ := BX.out (ga, (x1, x2, x3)) (by simp)
  obtain ⟨cgc0, cgc1, cgc2⟩ := BX.out (gc, (z1, z2, z3)) (by simp)
  go_wp2_with fail
  refine (HC.out _).mono ?_
  rintro e y ⟨rfl, b⟩
  have E := Lib.hid (chain E.out b)
  have BX := Lib.hid (BX.out.below b)
  clear b cga0 cga1 cga2 cgc0 cgc1 cgc2
  obtain ⟨cgc0, cgc1, cgc2⟩ := BX.out (gc, (z1, z2, z3)) (by simp)
  obtain ⟨cgb0, cgb1, cgb2⟩ := BX.out (gb, (y1, y2, y3)) (by simp)
  go_wp2_with fail
  refine (HD.out _).mono ?_
  rintro e y ⟨rfl, b⟩
  have E := Lib.hid (chain E.out b)
  have BX := Lib.hid (BX.out.below b)
  clear b cgc0 cgc1 cgc2 cgb0 cgb1 cgb2
  go_wp2
  go_ret
  exact ⟨rfl, by first | exact E.out | exact E.out.drew | exact E.out.alloc E.out.size _⟩
end Go.Proofs.Ytpkfngfenkcjoaa

/- hull.after and hull.way over a list of vectors. -/
set_option linter.all false
namespace Go.Proofs.Ytpkfngfenkcjoaa
open Go.RowKit

/-- The cells of one vector of a list. -/
theorem Rv.at_ {w : World} {p : Option Addr} {n cap : Nat} {L : List T3} (h : Rv w (.slice p n cap) L) {k : Nat} (hk : k < L.length) {x y z : Int} (e : L[k] = (x, y, z)) :
    ∃ b off, p = some ⟨b, off, none⟩ ∧ w.cell? ⟨b, off + k * 3, none⟩ = some (.int .i64 x) ∧ w.cell? ⟨b, off + k * 3 + 1, none⟩ = some (.int .i64 y) ∧ w.cell? ⟨b, off + k * 3 + 2, none⟩ = some (.int .i64 z) := by
  obtain ⟨q, b, off, c, e1, h2, h3, h4, h5⟩ := h
  injection e1 with e1 e2 e3
  have := h5 k hk
  rw [e] at this
  exact ⟨b, off, by rw [e1]; exact h4 (by omega), this⟩
theorem Rv.len {w : World} {p : Option Addr} {n cap : Nat} {L : List T3} (h : Rv w (.slice p n cap) L) : n = L.length ∧ L.length ≤ cap ∧ cap ≤ maxLen := by
  obtain ⟨q, b, off, c, e1, h2, h3, h4, h5⟩ := h
  injection e1 with e1 e2 e3
  subst e3
  exact ⟨by omega, h2, h3⟩

set_option maxRecDepth 100000 in
set_option maxHeartbeats 4000000 in
theorem after_any (L : List T3) (v : Value) (i : Nat) (w : World) (h : Rv w v L) (hi : i ≤ L.length) (hp : 0 < L.length) (hmx : L.length ≤ 1000000) :
    Calls Try.prog 43 #[v, .int .i64 (i : Int)] w (Ret (vv (L[(i + 1) % L.length]'(Nat.mod_lt _ hp)).1 (L[(i + 1) % L.length]'(Nat.mod_lt _ hp)).2.1 (L[(i + 1) % L.length]'(Nat.mod_lt _ hp)).2.2) w) := by
  obtain ⟨p, b, off, cap, rfl, h2, h3, h4, h5⟩ := h
  have hj : (i + 1) % L.length < L.length := Nat.mod_lt _ hp
  obtain ⟨c0, c1, c2⟩ := h5 _ hj
  obtain ⟨x, y, z, hL⟩ : ∃ x y z, L[(i + 1) % L.length] = (x, y, z) := ⟨_, _, _, rfl⟩
  rw [hL] at c0 c1 c2 ⊢
  simp only [] at c0 c1 c2 ⊢
  obtain rfl := h4 hp
  clear h4 h5 hL
  have hrem : Int.tmod ((i : Int) + 1) (L.length : Int) = (((i + 1) % L.length : Nat) : Int) := by
    rw [Int.tmod_eq_emod_of_nonneg (by omega), Int.natCast_emod]; rfl
  clear h2 h3
  generalize (i + 1) % L.length = j at *
  generalize L.length = n at *
  have hw : IntKind.i64.wrap ((i : Int) + 1) = (i : Int) + 1 := wrap_in (by omega)
  have hw2 : IntKind.i64.wrap (j : Int) = (j : Int) := wrap_in (by omega)
  have hn0 : ¬ (n : Int) = 0 := by omega
  have hj0 : (0 : Int) ≤ (j : Int) := by omega
  have hjn : (j : Int) < (n : Int) := by omega
  go_enter Try.func43, Try.ntmps43
  go_upto_region 1 with (fail)
  obtain ⟨w0, hw0⟩ : ∃ w0 : World, w0 = w.alloc (.cells #[.int .i64 0, .int .i64 0, .int .i64 0] 24) := ⟨_, rfl⟩
  have hb0 : Hid (Below w.heap.size w w0) := by rw [hw0]; exact below_one _ _
  have k00 : w0.cell? ⟨w.heap.size, 0, none⟩ = some (.int .i64 0) := by rw [hw0]; simp [go_sem]
  have k01 : w0.cell? ⟨w.heap.size, 1, none⟩ = some (.int .i64 0) := by rw [hw0]; simp [go_sem]
  have k02 : w0.cell? ⟨w.heap.size, 2, none⟩ = some (.int .i64 0) := by rw [hw0]; simp [go_sem]
  have f00 : w0.frozen? ⟨w.heap.size, 0, none⟩ = false := by rw [hw0]; simp [go_sem]
  have f01 : w0.frozen? ⟨w.heap.size, 1, none⟩ = false := by rw [hw0]; simp [go_sem]
  have f02 : w0.frozen? ⟨w.heap.size, 2, none⟩ = false := by rw [hw0]; simp [go_sem]
  rw [← hw0]
  clear hw0
  have d0 := keep1 hb0.out c0
  have d1 := keep1 hb0.out c1
  have d2 := keep1 hb0.out c2
  have nb : ¬ (b = w.heap.size) := by have := World.block_lt_of_cell? w _ c0; simp at this; omega
  have nb2 : ¬ (w.heap.size = b) := by omega
  have HZ := Lib.hid (((hb0.out.setCell (p := ⟨w.heap.size, 0, none⟩) (by simp) (.int .i64 x)).setCell (p := ⟨w.heap.size, 1, none⟩) (by simp) (.int .i64 y)).setCell (p := ⟨w.heap.size, 2, none⟩) (by simp) (.int .i64 z))
  clear c0 c1 c2 hi hp hmx
  go_wp2
  exact bodyPost_ret (v := vv x y z) (by simp [results, Try.results43, go_sem, k00, k01, k02]) rfl ⟨rfl, HZ.out⟩

theorem other_block {w : World} {b o : Nat} {u : Value} (h : w.cell? ⟨b, o, none⟩ = some u) : ¬ b = w.heap.size := by
  have := World.block_lt_of_cell? w _ h
  simp at this; omega
theorem any_world {p : World → Prop} (W : World) (h : ∀ W', W' = W → p W') : p W := h W rfl
theorem vf_made (w : World) (x y z : Int) : VF (w.alloc (.cells #[.int .i64 x, .int .i64 y, .int .i64 z] 24)) w.heap.size (x, y, z) :=
  ⟨⟨by simp [go_sem], by simp [go_sem], by simp [go_sem]⟩, by simp [go_sem], by simp [go_sem], by simp [go_sem]⟩
/-- A new vector of zeros, behind what a call leaves. -/
theorem vf_new {w w' : World} (b : Below (w.alloc (.cells #[.int .i64 0, .int .i64 0, .int .i64 0] 24)).heap.size (w.alloc (.cells #[.int .i64 0, .int .i64 0, .int .i64 0] 24)) w') : VF w' w.heap.size (0, 0, 0) :=
  VF.below (w := w.alloc (.cells #[.int .i64 0, .int .i64 0, .int .i64 0] 24)) ⟨⟨by simp [go_sem], by simp [go_sem], by simp [go_sem]⟩, by simp [go_sem], by simp [go_sem], by simp [go_sem]⟩ b

set_option maxRecDepth 100000 in
set_option maxHeartbeats 4000000 in
theorem way_walk (b off n cap i : Nat) (x1 x2 x3 y1 y2 y3 r1 r2 r3 : Int) (w : World) (hi : i < n)
    (c0 : w.cell? ⟨b, off + i * 3, none⟩ = some (.int .i64 x1)) (c1 : w.cell? ⟨b, off + i * 3 + 1, none⟩ = some (.int .i64 x2)) (c2 : w.cell? ⟨b, off + i * 3 + 2, none⟩ = some (.int .i64 x3))
    (H1 : ∀ w', Below w.heap.size w w' → Calls Try.prog 43 #[.slice (some ⟨b, off, none⟩) n cap, .int .i64 (i : Int)] w' (Ret (vv y1 y2 y3) w'))
    (H2 : ∀ w', Calls Try.prog 67 #[vv y1 y2 y3, vv x1 x2 x3] w' (Ret (.tuple #[vv r1 r2 r3, .int .i64 0]) w')) :
    Calls Try.prog 46 #[.slice (some ⟨b, off, none⟩) n cap, .int .i64 (i : Int)] w (Ret (vv r1 r2 r3) w) := by
  have H1 := Lib.hid H1
  have H2 := Lib.hid H2
  have C0 := Lib.hid (And.intro c0 (And.intro c1 c2))
  clear c0 c1 c2
  have hi0 : (0 : Int) ≤ (i : Int) := by omega
  have hin : (i : Int) < (n : Int) := by omega
  go_enter Try.func46, Try.ntmps46
  go_upto_region 1 with (fail)
  obtain ⟨w0, hw0⟩ : ∃ w0 : World, w0 = w.alloc (.cells #[.int .i64 0, .int .i64 0, .int .i64 0] 24) := ⟨_, rfl⟩
  have E : Hid (Below w.heap.size w w0) := by rw [hw0]; exact below_one _ _
  have k00 : w0.cell? ⟨w.heap.size, 0, none⟩ = some (.int .i64 0) := by rw [hw0]; simp [go_sem]
  have k01 : w0.cell? ⟨w.heap.size, 1, none⟩ = some (.int .i64 0) := by rw [hw0]; simp [go_sem]
  have k02 : w0.cell? ⟨w.heap.size, 2, none⟩ = some (.int .i64 0) := by rw [hw0]; simp [go_sem]
  have f00 : w0.frozen? ⟨w.heap.size, 0, none⟩ = false := by rw [hw0]; simp [go_sem]
  have f01 : w0.frozen? ⟨w.heap.size, 1, none⟩ = false := by rw [hw0]; simp [go_sem]
  have f02 : w0.frozen? ⟨w.heap.size, 2, none⟩ = false := by rw [hw0]; simp [go_sem]
  have F : Hid (VF w0 w.heap.size (0, 0, 0)) := ⟨⟨k00, k01, k02⟩, f00, f01, f02⟩
  rw [← hw0]
  clear hw0 k00 k01 k02 f00 f01 f02
  have d0 := keep1 E.out C0.out.1
  have d1 := keep1 E.out C0.out.2.1
  have d2 := keep1 E.out C0.out.2.2
  have E2 := Lib.hid (Below.refl w0.heap.size w0)
  have nb := other_block d0
  have nb2 := Ne.symm nb
  have le := E.out.size
  have nw := other_block (F.out.below E2.out).1.1
  have nw2 := Ne.symm nw
  go_region_held3 (fun W' => W'.cell? ⟨b, off + i * 3, none⟩ = some (.int .i64 x1) ∧ W'.cell? ⟨b, off + i * 3 + 1, none⟩ = some (.int .i64 x2) ∧ W'.cell? ⟨b, off + i * 3 + 2, none⟩ = some (.int .i64 x3)) (go_keep)
    (first
      | (go_at_call 43; (with_reducible refine (H1.out _ (by first | exact E.out | exact E.out.drew | exact E.out.alloc E.out.size _ | exact E.out.drew.alloc E.out.size _ | exact (E.out.alloc E.out.size _).drew)).mono ?_); rintro e y ⟨rfl, b1⟩; (try (have b1 := undrew b1)); have E2 := Lib.hid (chain (by first | exact E2.out | exact E2.out.drew | exact E2.out.alloc E2.out.size _ | exact E2.out.drew.alloc E2.out.size _ | exact (E2.out.alloc E2.out.size _).drew) b1); have E := Lib.hid (chain (by first | exact E.out | exact E.out.drew | exact E.out.alloc E.out.size _ | exact E.out.drew.alloc E.out.size _ | exact (E.out.alloc E.out.size _).drew) b1); (try (have VN := vf_new b1)); (try (have VN := VN.below b1)); clear b1; have d0 := keep1 E.out C0.out.1; have d1 := keep1 E.out C0.out.2.1; have d2 := keep1 E.out C0.out.2.2; have nb := other_block d0; have nb2 := Ne.symm nb; have le := E.out.size; have nw := other_block (F.out.below E2.out).1.1; have nw2 := Ne.symm nw; (try (have n0 := VN.1.1)); (try (have n1 := VN.1.2.1)); (try (have n2 := VN.1.2.2)); (try (have m0 := VN.2.1)); (try (have m1 := VN.2.2.1)); (try (have m2 := VN.2.2.2)))
      | (go_at_call 67; (with_reducible refine (H2.out _).mono ?_); rintro e y ⟨rfl, b1⟩; (try (have b1 := undrew b1)); have E2 := Lib.hid (chain (by first | exact E2.out | exact E2.out.drew | exact E2.out.alloc E2.out.size _ | exact E2.out.drew.alloc E2.out.size _ | exact (E2.out.alloc E2.out.size _).drew) b1); have E := Lib.hid (chain (by first | exact E.out | exact E.out.drew | exact E.out.alloc E.out.size _ | exact E.out.drew.alloc E.out.size _ | exact (E.out.alloc E.out.size _).drew) b1); (try (have VN := vf_new b1)); (try (have VN := VN.below b1)); clear b1; have d0 := keep1 E.out C0.out.1; have d1 := keep1 E.out C0.out.2.1; have d2 := keep1 E.out C0.out.2.2; have nb := other_block d0; have nb2 := Ne.symm nb; have le := E.out.size; have nw := other_block (F.out.below E2.out).1.1; have nw2 := Ne.symm nw; (try (have n0 := VN.1.1)); (try (have n1 := VN.1.2.1)); (try (have n2 := VN.1.2.2)); (try (have m0 := VN.2.1)); (try (have m1 := VN.2.2.1)); (try (have m2 := VN.2.2.2)))
      | fail)
  all_goals
    refine any_world (p := fun W => Exit.then _ _ _ _ W) _ ?_
    intro W hW
    have VR := F.out.below E2.out
    first
      | (have V5 := VN.set r1 r2 r3; rw [← hW] at V5; have V6 : VF W w.heap.size (0, 0, 0) := (by rw [hW]; exact VR.other (by assumption) _ _ _); have EB : Below w.heap.size w W := (by rw [hW]; exact below_set3 E.out (by assumption) _ _ _))
      | (have V5 := vf_made y r1 r2 r3; rw [← hW] at V5; have V6 : VF W w.heap.size (0, 0, 0) := (by rw [hW]; exact VR.below (below_one _ _)); have EB : Below w.heap.size w W := (by rw [hW]; exact E.out.alloc E.out.size _))
    obtain ⟨⟨k0, k1, k2⟩, f0, f1, f2⟩ := V6
    obtain ⟨⟨a0, a1, a2⟩, -⟩ := V5
    have HZ := Lib.hid (below_set3 EB (Nat.le_refl _) (.int .i64 r1) (.int .i64 r2) (.int .i64 r3))
    clear E E2 VR F hW EB
    go_wp2
    exact bodyPost_ret (v := vv r1 r2 r3) (by simp [results, Try.results46, go_sem, k0, k1, k2]) rfl ⟨rfl, HZ.out⟩
end Go.Proofs.Ytpkfngfenkcjoaa

/- What the reference's On and in give for valid vectors. -/
set_option linter.all false
namespace Go.Proofs.Ytpkfngfenkcjoaa
open Go.RowKit

instance (a b p : Hl.P2) : Decidable (Hl.on a b p) := by unfold Hl.on; infer_instance
instance (a b c p : Hl.P2) : Decidable (Hl.inT a b c p) := by unfold Hl.inT; infer_instance
section
variable {x1 x2 x3 y1 y2 y3 z1 z2 z3 p1 p2 p3 : Int}
theorem On_any (hx : inV 16777216 x1 x2 x3 = true) (hy : inV 16777216 y1 y2 y3 = true) (hz : inV 16777216 z1 z2 z3 = true) (w : World) :
    Calls Try.prog 78 #[vv x1 x2 x3, vv y1 y2 y3, vv z1 z2 z3] w (Ret (.bool (decide (Hl.on (x1, x2) (y1, y2) (z1, z2)))) w) := by
  have H := fun w => rTurn_any hx hy hz w
  have ez : tz x1 x2 y1 y2 z1 z2 = Hl.tn (x1, x2) (y1, y2) (z1, z2) := rfl
  have i1 : (if y1 < x1 then y1 else x1) = min x1 y1 := by split <;> omega
  have i2 : (if x1 < y1 then y1 else x1) = max x1 y1 := by split <;> omega
  have i3 : (if y2 < x2 then y2 else x2) = min x2 y2 := by split <;> omega
  have i4 : (if x2 < y2 then y2 else x2) = max x2 y2 := by split <;> omega
  have sm : ∀ a b c d : Int, min a c ≤ d ↔ min a c ≤ d := fun _ _ _ _ => Iff.rfl
  by_cases h0 : cmpI (tz x1 x2 y1 y2 z1 z2) 0 = 0
  · have g0 := cmpI_zero.1 h0
    have b0 : (cmpI (tz x1 x2 y1 y2 z1 z2) 0 == 0) = true := by rw [h0]; rfl
    by_cases h1 : min x1 y1 ≤ z1
    · by_cases h2 : z1 ≤ max x1 y1
      · by_cases h3 : min x2 y2 ≤ z2
        · by_cases h4 : z2 ≤ max x2 y2
          · rw [decide_eq_true (show Hl.on (x1, x2) (y1, y2) (z1, z2) from ⟨by rw [← ez]; exact g0, h1, h2, h3, h4⟩)]
            exact On_5 _ _ _ _ _ _ _ _ _ _ _ _ _ _ i1 i2 i3 i4 b0 h0 h1 h2 h3 h4 H w
          · rw [decide_eq_false (show ¬ Hl.on (x1, x2) (y1, y2) (z1, z2) from fun h => h4 h.2.2.2.2)]
            exact On_4 _ _ _ _ _ _ _ _ _ _ _ _ _ _ i1 i2 i3 i4 b0 h0 h1 h2 h3 h4 H w
        · rw [decide_eq_false (show ¬ Hl.on (x1, x2) (y1, y2) (z1, z2) from fun h => h3 h.2.2.2.1)]
          exact On_3 _ _ _ _ _ _ _ _ _ _ _ _ _ _ i1 i2 i3 i4 b0 h0 h1 h2 h3 H w
      · rw [decide_eq_false (show ¬ Hl.on (x1, x2) (y1, y2) (z1, z2) from fun h => h2 h.2.2.1)]
        exact On_2 _ _ _ _ _ _ _ _ _ _ _ _ _ _ i1 i2 i3 i4 b0 h0 h1 h2 H w
    · rw [decide_eq_false (show ¬ Hl.on (x1, x2) (y1, y2) (z1, z2) from fun h => h1 h.2.1)]
      exact On_1 _ _ _ _ _ _ _ _ _ _ _ _ _ _ i1 i2 i3 i4 b0 h0 h1 H w
  · rw [decide_eq_false (show ¬ Hl.on (x1, x2) (y1, y2) (z1, z2) from fun h => h0 (cmpI_zero.2 (by rw [ez]; exact h.1)))]
    exact On_0 _ _ _ _ _ _ _ _ _ _ _ _ _ _ i1 i2 i3 i4 (by rw [beq_eq_false_iff_ne]; exact h0) h0 H w
theorem cmpI_three (a : Int) : (a < 0 ∧ cmpI a 0 = -1) ∨ (a = 0 ∧ cmpI a 0 = 0) ∨ (0 < a ∧ cmpI a 0 = 1) := by unfold cmpI; split <;> (try split) <;> omega
theorem in_any (hx : inV 16777216 x1 x2 x3 = true) (hy : inV 16777216 y1 y2 y3 = true) (hz : inV 16777216 z1 z2 z3 = true) (hp : inV 16777216 p1 p2 p3 = true) (w : World) :
    Calls Try.prog 70 #[vv x1 x2 x3, vv y1 y2 y3, vv z1 z2 z3, vv p1 p2 p3] w (Ret (.bool (decide (Hl.inT (x1, x2) (y1, y2) (z1, z2) (p1, p2)))) w) := by
  have T1 := fun w => rTurn_any hx hy hp w
  have T2 := fun w => rTurn_any hy hz hp w
  have T3 := fun w => rTurn_any hz hx hp w
  have O1 := fun w => On_any hx hy hp w
  have O2 := fun w => On_any hy hz hp w
  have O3 := fun w => On_any hz hx hp w
  by_cases c1 : Hl.on (x1, x2) (y1, y2) (p1, p2)
  · rw [decide_eq_true c1] at O1
    rw [decide_eq_true (show Hl.inT (x1, x2) (y1, y2) (z1, z2) (p1, p2) from .inl c1)]
    exact in_a _ _ _ _ _ _ _ _ _ _ _ _ _ _ _ T1 T2 T3 O1 w
  rw [decide_eq_false c1] at O1
  by_cases c2 : Hl.on (y1, y2) (z1, z2) (p1, p2)
  · rw [decide_eq_true c2] at O2
    rw [decide_eq_true (show Hl.inT (x1, x2) (y1, y2) (z1, z2) (p1, p2) from .inr (.inl c2))]
    exact in_b _ _ _ _ _ _ _ _ _ _ _ _ _ _ _ T1 T2 T3 O1 O2 w
  rw [decide_eq_false c2] at O2
  by_cases c3 : Hl.on (z1, z2) (x1, x2) (p1, p2)
  · rw [decide_eq_true c3] at O3
    rw [decide_eq_true (show Hl.inT (x1, x2) (y1, y2) (z1, z2) (p1, p2) from .inr (.inr (.inl c3)))]
    exact in_c _ _ _ _ _ _ _ _ _ _ _ _ _ _ _ T1 T2 T3 O1 O2 O3 w
  rw [decide_eq_false c3] at O3
  have e1 : Hl.tn (x1, x2) (y1, y2) (p1, p2) = tz x1 x2 y1 y2 p1 p2 := rfl
  have e2 : Hl.tn (y1, y2) (z1, z2) (p1, p2) = tz y1 y2 z1 z2 p1 p2 := rfl
  have e3 : Hl.tn (z1, z2) (x1, x2) (p1, p2) = tz z1 z2 x1 x2 p1 p2 := rfl
  have s1 := cmpI_three (tz x1 x2 y1 y2 p1 p2)
  have s2 := cmpI_three (tz y1 y2 z1 z2 p1 p2)
  have s3 := cmpI_three (tz z1 z2 x1 x2 p1 p2)
  have key : Hl.inT (x1, x2) (y1, y2) (z1, z2) (p1, p2) ↔ cmpI (tz x1 x2 y1 y2 p1 p2) 0 ≠ 0 ∧ cmpI (tz x1 x2 y1 y2 p1 p2) 0 = cmpI (tz y1 y2 z1 z2 p1 p2) 0 ∧ cmpI (tz y1 y2 z1 z2 p1 p2) 0 = cmpI (tz z1 z2 x1 x2 p1 p2) 0 := by
    constructor
    · rintro (h | h | h | h | h)
      · exact absurd h c1
      · exact absurd h c2
      · exact absurd h c3
      · rw [e1, e2, e3] at h; omega
      · rw [e1, e2, e3] at h; omega
    · intro h
      refine .inr (.inr (.inr ?_))
      rw [e1, e2, e3]
      omega
  generalize cmpI (tz x1 x2 y1 y2 p1 p2) 0 = r at *
  generalize cmpI (tz y1 y2 z1 z2 p1 p2) 0 = s at *
  generalize cmpI (tz z1 z2 x1 x2 p1 p2) 0 = t at *
  by_cases h0 : r = 0
  · rw [decide_eq_false (show ¬ Hl.inT (x1, x2) (y1, y2) (z1, z2) (p1, p2) from fun h => (key.1 h).1 h0)]
    exact in_z _ _ _ _ _ _ _ _ _ _ _ _ _ _ _ (by simp [h0]) T1 T2 T3 O1 O2 O3 w
  have g0 : (r != 0) = true := by simp [h0]
  by_cases h1 : r = s
  · have g1 : (r == s) = true := by simp [h1]
    by_cases h2 : s = t
    · rw [decide_eq_true (key.2 ⟨h0, h1, h2⟩)]
      exact in_s _ _ _ _ _ _ _ _ _ _ _ _ _ _ _ g0 g1 (by simp [h2]) T1 T2 T3 O1 O2 O3 w
    · rw [decide_eq_false (fun h => h2 (key.1 h).2.2)]
      exact in_m _ _ _ _ _ _ _ _ _ _ _ _ _ _ _ g0 g1 (by simp [h2]) T1 T2 T3 O1 O2 O3 w
  · rw [decide_eq_false (fun h => h1 (key.1 h).2.1)]
    exact in_n _ _ _ _ _ _ _ _ _ _ _ _ _ _ _ g0 (by simp [h1]) T1 T2 T3 O1 O2 O3 w
end
end Go.Proofs.Ytpkfngfenkcjoaa

/- The reference's covered. -/
set_option linter.all false
namespace Go.Proofs.Ytpkfngfenkcjoaa
open Go.RowKit

/-- One triple of the list shows that the point is covered. -/
def Hit (L : List T3) (p1 p2 p3 : Int) (i k m : Nat) : Prop :=
  ∃ (hi : i < L.length) (hk : k < L.length) (hm : m < L.length), vE L[i].1 L[i].2.1 L[i].2.2 p1 p2 p3 = false ∧ vE L[k].1 L[k].2.1 L[k].2.2 p1 p2 p3 = false ∧ vE L[m].1 L[m].2.1 L[m].2.2 p1 p2 p3 = false ∧ Hl.inT (L[i].1, L[i].2.1) (L[k].1, L[k].2.1) (L[m].1, L[m].2.1) (p1, p2)

set_option maxRecDepth 100000 in
set_option maxHeartbeats 4000000 in
theorem covered_walk (L : List T3) (v : Value) (p1 p2 p3 : Int) (w : World) (res : Bool) (hl : Rv w v L) (hv : ∀ a ∈ L, inV 16777216 a.1 a.2.1 a.2.2 = true) (hp : inV 16777216 p1 p2 p3 = true)
    (hT : ∀ i k m, i < L.length → k ≤ i → m ≤ k → Hit L p1 p2 p3 i k m → res = true) (hF : (∀ i k m, i < L.length → k ≤ i → m ≤ k → ¬ Hit L p1 p2 p3 i k m) → res = false) :
    Calls Try.prog 52 #[v, vv p1 p2 p3] w (Ret (.bool res) w) := by
  have HI0 := Lib.hid (fun (x1 x2 x3 y1 y2 y3 z1 z2 z3 : Int) hx hy hz w => in_any (x1 := x1) (x2 := x2) (x3 := x3) (y1 := y1) (y2 := y2) (y3 := y3) (z1 := z1) (z2 := z2) (z3 := z3) hx hy hz hp w)
  have HV := Lib.hid hv
  have HT := Lib.hid hT
  have HF := Lib.hid hF
  clear hT hF hv hp
  obtain ⟨pp, b, off, cap, rfl, h2', h3', h4, h5⟩ := hl
  have H4 := Lib.hid h4
  have H5 := Lib.hid h5
  have hmx : L.length ≤ 9223372036854775807 := by unfold maxLen at h3'; omega
  clear h2' h3' h4 h5
  obtain ⟨n, hn⟩ : ∃ n, n = L.length := ⟨_, rfl⟩
  have HN := Lib.hid hn
  rw [← hn] at hmx ⊢
  clear hn
  go_enter Try.func52, Try.ntmps52
  go_upto_region 1 with (fail)
  obtain ⟨w0, hw0⟩ : ∃ w0 : World, w0 = w.alloc (.cells #[.int .i64 p1, .int .i64 p2, .int .i64 p3] 24) := ⟨_, rfl⟩
  have E : Hid (Below w.heap.size w w0) := by rw [hw0]; exact below_one w _
  have BX : Hid (V3 w0 w.heap.size p1 p2 p3) := by rw [hw0]; exact ⟨by simp [go_sem], by simp [go_sem], by simp [go_sem]⟩
  rw [← hw0]
  clear hw0
  obtain ⟨gp, hgp⟩ : ∃ g, g = w.heap.size := ⟨_, rfl⟩
  rw [← hgp] at BX ⊢
  have hgp2 := Lib.hid hgp
  clear hgp
  go_wp2
  go_loopw [5, 6, 7] (fun iv _ _ wr => ∃ (wz : World) (i : Nat), wz = wr ∧ i ≤ n ∧ iv = .int .i64 (i : Int) ∧ Hid (∀ i' k' m', i' < i → k' ≤ i' → m' ≤ k' → ¬ Hit L p1 p2 p3 i' k' m') ∧ Hid (V3 wz gp p1 p2 p3) ∧ Hid (Below gp w wz))
    (fun iv _ _ _ => n - (intOf iv).toNat)
  case atStart => exact ⟨w0, 0, rfl, Nat.zero_le _, rfl, fun _ _ _ h => absurd h (Nat.not_lt_zero _), BX, by rw [hgp2.out]; exact E⟩
  case round =>
    clear BX E
    obtain ⟨wz, i, rfl, hi, rfl, NI, BX, E⟩ := hrel
    rw [hgp2.out] at E
    by_cases hlt : i < n
    · have hi0 : (0 : Int) ≤ (i : Int) := by omega
      have hi1 : (i : Int) < (n : Int) := by omega
      go_wp2
      go_loopw [6, 7] (fun kv _ wr => ∃ (wz : World) (k : Nat), wz = wr ∧ k ≤ i + 1 ∧ kv = .int .i64 (k : Int) ∧ Hid (∀ k' m', k' < k → m' ≤ k' → ¬ Hit L p1 p2 p3 i k' m') ∧ Hid (V3 wz gp p1 p2 p3) ∧ Hid (Below gp w wz))
        (fun kv _ _ => i + 1 - (intOf kv).toNat)
      case atStart => exact ⟨wz, 0, rfl, Nat.zero_le _, rfl, fun _ _ h => absurd h (Nat.not_lt_zero _), BX, by rw [hgp2.out]; exact E⟩
      case round =>
        clear BX E
        obtain ⟨wz, k, rfl, hk, rfl, NK, BX, E⟩ := hrel
        rw [hgp2.out] at E
        by_cases hlk : k ≤ i
        · have hk0 : (0 : Int) ≤ (k : Int) := by omega
          have hk1 : (k : Int) < (n : Int) := by omega
          have hk2 : (k : Int) ≤ (i : Int) := by omega
          go_wp2
          go_loopw [7] (fun mv wr => ∃ (wz : World) (m : Nat), wz = wr ∧ m ≤ k + 1 ∧ mv = .int .i64 (m : Int) ∧ Hid (∀ m', m' < m → ¬ Hit L p1 p2 p3 i k m') ∧ Hid (V3 wz gp p1 p2 p3) ∧ Hid (Below gp w wz))
            (fun mv _ => k + 1 - (intOf mv).toNat)
          case atStart => exact ⟨wz, 0, rfl, Nat.zero_le _, rfl, fun _ h => absurd h (Nat.not_lt_zero _), BX, by rw [hgp2.out]; exact E⟩
          case round =>
            clear BX E
            obtain ⟨wz, m, rfl, hm, rfl, NM, BX, E⟩ := hrel
            rw [hgp2.out] at E
            by_cases hlm : m ≤ k
            · have hm0 : (0 : Int) ≤ (m : Int) := by omega
              have hm1 : (m : Int) < (n : Int) := by omega
              have hm2 : (m : Int) ≤ (k : Int) := by omega
              have hli : i < L.length := by have h5 : n = L.length := HN.out; omega
              have hlk_ : k < L.length := by have h5 : n = L.length := HN.out; omega
              have hlm_ : m < L.length := by have h5 : n = L.length := HN.out; omega
              obtain ⟨x1, x2, x3, hLi⟩ : ∃ x y z, L[i] = (x, y, z) := ⟨_, _, _, rfl⟩
              obtain ⟨y1, y2, y3, hLk⟩ : ∃ x y z, L[k] = (x, y, z) := ⟨_, _, _, rfl⟩
              obtain ⟨z1, z2, z3, hLm⟩ : ∃ x y z, L[m] = (x, y, z) := ⟨_, _, _, rfl⟩
              obtain rfl := H4.out (by omega)
              have a0 : wz.cell? ⟨b, off + i * 3, none⟩ = some (.int .i64 x1) := by have := keep1 E.out (H5.out i hli).1; simpa [hLi] using this
              have a1 : wz.cell? ⟨b, off + i * 3 + 1, none⟩ = some (.int .i64 x2) := by have := keep1 E.out (H5.out i hli).2.1; simpa [hLi] using this
              have a2 : wz.cell? ⟨b, off + i * 3 + 2, none⟩ = some (.int .i64 x3) := by have := keep1 E.out (H5.out i hli).2.2; simpa [hLi] using this
              have c0 : wz.cell? ⟨b, off + k * 3, none⟩ = some (.int .i64 y1) := by have := keep1 E.out (H5.out k hlk_).1; simpa [hLk] using this
              have c1 : wz.cell? ⟨b, off + k * 3 + 1, none⟩ = some (.int .i64 y2) := by have := keep1 E.out (H5.out k hlk_).2.1; simpa [hLk] using this
              have c2 : wz.cell? ⟨b, off + k * 3 + 2, none⟩ = some (.int .i64 y3) := by have := keep1 E.out (H5.out k hlk_).2.2; simpa [hLk] using this
              have d0 : wz.cell? ⟨b, off + m * 3, none⟩ = some (.int .i64 z1) := by have := keep1 E.out (H5.out m hlm_).1; simpa [hLm] using this
              have d1 : wz.cell? ⟨b, off + m * 3 + 1, none⟩ = some (.int .i64 z2) := by have := keep1 E.out (H5.out m hlm_).2.1; simpa [hLm] using this
              have d2 : wz.cell? ⟨b, off + m * 3 + 2, none⟩ = some (.int .i64 z3) := by have := keep1 E.out (H5.out m hlm_).2.2; simpa [hLm] using this
              obtain ⟨q0, q1, q2⟩ := BX.out
              have HI := Lib.hid (HI0.out x1 x2 x3 y1 y2 y3 z1 z2 z3 (by have := HV.out _ (List.getElem_mem hli); rw [hLi] at this; exact this) (by have := HV.out _ (List.getElem_mem hlk_); rw [hLk] at this; exact this) (by have := HV.out _ (List.getElem_mem hlm_); rw [hLm] at this; exact this))
              have HH : Hid (Hit L p1 p2 p3 i k m ↔ vE x1 x2 x3 p1 p2 p3 = false ∧ vE y1 y2 y3 p1 p2 p3 = false ∧ vE z1 z2 z3 p1 p2 p3 = false ∧ Hl.inT (x1, x2) (y1, y2) (z1, z2) (p1, p2)) := by
                show _ ↔ _
                exact ⟨fun ⟨_, _, _, h⟩ => by rw [hLi, hLk, hLm] at h; exact h, fun h => ⟨hli, hlk_, hlm_, by rw [hLi, hLk, hLm]; exact h⟩⟩
              have NX0 : Hid (¬ Hit L p1 p2 p3 i k m → ∀ m', m' < m + 1 → ¬ Hit L p1 p2 p3 i k m') := fun hn m' h1 => by
                rcases Nat.lt_or_ge m' m with g | g
                · exact NM.out m' g
                · obtain rfl : m' = m := by omega
                  exact hn
              have HT1 := Lib.hid (HT.out i k m hli hlk hlm)
              clear hli hlk_ hlm_ hLi hLk hLm NM
              by_cases ex : vE x1 x2 x3 p1 p2 p3 = true
              · have NX := Lib.hid (NX0.out fun h => by rw [(HH.out.1 h).1] at ex; cases ex)
                have nx : ∀ w, (binOp .neq 24 (.agg #[.int .i64 x1, .int .i64 x2, .int .i64 x3]) (.agg #[.int .i64 p1, .int .i64 p2, .int .i64 p3])).run Try.prog w = .ok (.bool false) w := fun w => by have := neq_vec w x1 x2 x3 p1 p2 p3; rw [ex] at this; exact this
                clear HH NX0 HT1
                go_upto_region 10 with (fail)
                go_quiet (fail)
                go_wp2
                go_roundw
                case rel => exact ⟨_, m + 1, rfl, by omega, by go_num, NX.out, BX, by rw [hgp2.out]; first | exact E | exact Lib.hid E.out.drew | exact Lib.hid (below_drewN E.out _)⟩
                case measure => simp [intOf]; omega
              rw [Bool.not_eq_true] at ex
              by_cases ey : vE y1 y2 y3 p1 p2 p3 = true
              · have NX := Lib.hid (NX0.out fun h => by rw [(HH.out.1 h).2.1] at ey; cases ey)
                have nx : ∀ w, (binOp .neq 24 (.agg #[.int .i64 x1, .int .i64 x2, .int .i64 x3]) (.agg #[.int .i64 p1, .int .i64 p2, .int .i64 p3])).run Try.prog w = .ok (.bool true) w := fun w => by have := neq_vec w x1 x2 x3 p1 p2 p3; rw [ex] at this; exact this
                have ny : ∀ w, (binOp .neq 24 (.agg #[.int .i64 y1, .int .i64 y2, .int .i64 y3]) (.agg #[.int .i64 p1, .int .i64 p2, .int .i64 p3])).run Try.prog w = .ok (.bool false) w := fun w => by have := neq_vec w y1 y2 y3 p1 p2 p3; rw [ey] at this; exact this
                clear HH NX0 HT1
                go_upto_region 10 with (fail)
                go_quiet (fail)
                go_wp2
                go_roundw
                case rel => exact ⟨_, m + 1, rfl, by omega, by go_num, NX.out, BX, by rw [hgp2.out]; first | exact E | exact Lib.hid E.out.drew | exact Lib.hid (below_drewN E.out _)⟩
                case measure => simp [intOf]; omega
              rw [Bool.not_eq_true] at ey
              by_cases ez : vE z1 z2 z3 p1 p2 p3 = true
              · have NX := Lib.hid (NX0.out fun h => by rw [(HH.out.1 h).2.2.1] at ez; cases ez)
                have nx : ∀ w, (binOp .neq 24 (.agg #[.int .i64 x1, .int .i64 x2, .int .i64 x3]) (.agg #[.int .i64 p1, .int .i64 p2, .int .i64 p3])).run Try.prog w = .ok (.bool true) w := fun w => by have := neq_vec w x1 x2 x3 p1 p2 p3; rw [ex] at this; exact this
                have ny : ∀ w, (binOp .neq 24 (.agg #[.int .i64 y1, .int .i64 y2, .int .i64 y3]) (.agg #[.int .i64 p1, .int .i64 p2, .int .i64 p3])).run Try.prog w = .ok (.bool true) w := fun w => by have := neq_vec w y1 y2 y3 p1 p2 p3; rw [ey] at this; exact this
                have nz : ∀ w, (binOp .neq 24 (.agg #[.int .i64 z1, .int .i64 z2, .int .i64 z3]) (.agg #[.int .i64 p1, .int .i64 p2, .int .i64 p3])).run Try.prog w = .ok (.bool false) w := fun w => by have := neq_vec w z1 z2 z3 p1 p2 p3; rw [ez] at this; exact this
                clear HH NX0 HT1
                go_upto_region 10 with (fail)
                go_quiet (fail)
                go_wp2
                go_roundw
                case rel => exact ⟨_, m + 1, rfl, by omega, by go_num, NX.out, BX, by rw [hgp2.out]; first | exact E | exact Lib.hid E.out.drew | exact Lib.hid (below_drewN E.out _)⟩
                case measure => simp [intOf]; omega
              rw [Bool.not_eq_true] at ez
              by_cases et : Hl.inT (x1, x2) (y1, y2) (z1, z2) (p1, p2)
              · have HA := Lib.hid (HT1.out (HH.out.2 ⟨ex, ey, ez, et⟩))
                rw [decide_eq_true et] at HI
                have nx : ∀ w, (binOp .neq 24 (.agg #[.int .i64 x1, .int .i64 x2, .int .i64 x3]) (.agg #[.int .i64 p1, .int .i64 p2, .int .i64 p3])).run Try.prog w = .ok (.bool true) w := fun w => by have := neq_vec w x1 x2 x3 p1 p2 p3; rw [ex] at this; exact this
                have ny : ∀ w, (binOp .neq 24 (.agg #[.int .i64 y1, .int .i64 y2, .int .i64 y3]) (.agg #[.int .i64 p1, .int .i64 p2, .int .i64 p3])).run Try.prog w = .ok (.bool true) w := fun w => by have := neq_vec w y1 y2 y3 p1 p2 p3; rw [ey] at this; exact this
                have nz : ∀ w, (binOp .neq 24 (.agg #[.int .i64 z1, .int .i64 z2, .int .i64 z3]) (.agg #[.int .i64 p1, .int .i64 p2, .int .i64 p3])).run Try.prog w = .ok (.bool true) w := fun w => by have := neq_vec w z1 z2 z3 p1 p2 p3; rw [ez] at this; exact this
                clear HH NX0 HT1
                go_upto_region 10 with (fail)
                go_region_held3 (fun W' => W'.cell? ⟨b, off + i * 3, none⟩ = some (.int .i64 x1) ∧ W'.cell? ⟨b, off + i * 3 + 1, none⟩ = some (.int .i64 x2) ∧ W'.cell? ⟨b, off + i * 3 + 2, none⟩ = some (.int .i64 x3) ∧ W'.cell? ⟨b, off + k * 3, none⟩ = some (.int .i64 y1) ∧ W'.cell? ⟨b, off + k * 3 + 1, none⟩ = some (.int .i64 y2) ∧ W'.cell? ⟨b, off + k * 3 + 2, none⟩ = some (.int .i64 y3) ∧ W'.cell? ⟨b, off + m * 3, none⟩ = some (.int .i64 z1) ∧ W'.cell? ⟨b, off + m * 3 + 1, none⟩ = some (.int .i64 z2) ∧ W'.cell? ⟨b, off + m * 3 + 2, none⟩ = some (.int .i64 z3) ∧ W'.cell? ⟨gp, 0, none⟩ = some (.int .i64 p1) ∧ W'.cell? ⟨gp, 1, none⟩ = some (.int .i64 p2) ∧ W'.cell? ⟨gp, 2, none⟩ = some (.int .i64 p3)) (go_keep)
                  (first
                    | (go_at_call 70; (with_reducible refine (HI.out _).mono ?_); rintro e y9 ⟨rfl, b9⟩; (try (have b9 := undrew b9)); have a0 := keep1 b9 a0; have a1 := keep1 b9 a1; have a2 := keep1 b9 a2; have c0 := keep1 b9 c0; have c1 := keep1 b9 c1; have c2 := keep1 b9 c2; have d0 := keep1 b9 d0; have d1 := keep1 b9 d1; have d2 := keep1 b9 d2; have q0 := keep1 b9 q0; have q1 := keep1 b9 q1; have q2 := keep1 b9 q2; have BX := Lib.hid (BX.out.below b9); have E := Lib.hid (chain E.out b9))
                    | fail)
                go_wp2
                go_ret
                exact ⟨by rw [HA.out]; rfl, by first | exact E.out | exact E.out.drew⟩
              · have NX := Lib.hid (NX0.out fun h => et (HH.out.1 h).2.2.2)
                rw [decide_eq_false et] at HI
                have nx : ∀ w, (binOp .neq 24 (.agg #[.int .i64 x1, .int .i64 x2, .int .i64 x3]) (.agg #[.int .i64 p1, .int .i64 p2, .int .i64 p3])).run Try.prog w = .ok (.bool true) w := fun w => by have := neq_vec w x1 x2 x3 p1 p2 p3; rw [ex] at this; exact this
                have ny : ∀ w, (binOp .neq 24 (.agg #[.int .i64 y1, .int .i64 y2, .int .i64 y3]) (.agg #[.int .i64 p1, .int .i64 p2, .int .i64 p3])).run Try.prog w = .ok (.bool true) w := fun w => by have := neq_vec w y1 y2 y3 p1 p2 p3; rw [ey] at this; exact this
                have nz : ∀ w, (binOp .neq 24 (.agg #[.int .i64 z1, .int .i64 z2, .int .i64 z3]) (.agg #[.int .i64 p1, .int .i64 p2, .int .i64 p3])).run Try.prog w = .ok (.bool true) w := fun w => by have := neq_vec w z1 z2 z3 p1 p2 p3; rw [ez] at this; exact this
                clear HH NX0 HT1
                go_upto_region 10 with (fail)
                go_region_held3 (fun W' => W'.cell? ⟨b, off + i * 3, none⟩ = some (.int .i64 x1) ∧ W'.cell? ⟨b, off + i * 3 + 1, none⟩ = some (.int .i64 x2) ∧ W'.cell? ⟨b, off + i * 3 + 2, none⟩ = some (.int .i64 x3) ∧ W'.cell? ⟨b, off + k * 3, none⟩ = some (.int .i64 y1) ∧ W'.cell? ⟨b, off + k * 3 + 1, none⟩ = some (.int .i64 y2) ∧ W'.cell? ⟨b, off + k * 3 + 2, none⟩ = some (.int .i64 y3) ∧ W'.cell? ⟨b, off + m * 3, none⟩ = some (.int .i64 z1) ∧ W'.cell? ⟨b, off + m * 3 + 1, none⟩ = some (.int .i64 z2) ∧ W'.cell? ⟨b, off + m * 3 + 2, none⟩ = some (.int .i64 z3) ∧ W'.cell? ⟨gp, 0, none⟩ = some (.int .i64 p1) ∧ W'.cell? ⟨gp, 1, none⟩ = some (.int .i64 p2) ∧ W'.cell? ⟨gp, 2, none⟩ = some (.int .i64 p3)) (go_keep)
                  (first
                    | (go_at_call 70; (with_reducible refine (HI.out _).mono ?_); rintro e y9 ⟨rfl, b9⟩; (try (have b9 := undrew b9)); have a0 := keep1 b9 a0; have a1 := keep1 b9 a1; have a2 := keep1 b9 a2; have c0 := keep1 b9 c0; have c1 := keep1 b9 c1; have c2 := keep1 b9 c2; have d0 := keep1 b9 d0; have d1 := keep1 b9 d1; have d2 := keep1 b9 d2; have q0 := keep1 b9 q0; have q1 := keep1 b9 q1; have q2 := keep1 b9 q2; have BX := Lib.hid (BX.out.below b9); have E := Lib.hid (chain E.out b9))
                    | fail)
                go_wp2
                go_roundw
                case rel => exact ⟨_, m + 1, rfl, by omega, by go_num, NX.out, BX, by rw [hgp2.out]; first | exact E | exact Lib.hid E.out.drew | exact Lib.hid (below_drewN E.out _)⟩
                case measure => simp [intOf]; omega
            · have hm3 : ¬ (m : Int) ≤ (k : Int) := by omega
              obtain rfl : m = k + 1 := by omega
              have NK : Hid (∀ k' m', k' < k + 1 → m' ≤ k' → ¬ Hit L p1 p2 p3 i k' m') := fun k' m' h1 h2 => by
                rcases Nat.lt_or_ge k' k with g | g
                · exact NK.out k' m' g h2
                · obtain rfl : k' = k := by omega
                  exact NM.out m' (by omega)
              clear NM
              go_wp2
              go_roundw
              case rel => exact ⟨_, k + 1, rfl, by omega, by go_num, NK.out, BX, by rw [hgp2.out]; exact E⟩
              case measure => simp [intOf]; omega
        · have hk3 : ¬ (k : Int) ≤ (i : Int) := by omega
          obtain rfl : k = i + 1 := by omega
          have NI : Hid (∀ i' k' m', i' < i + 1 → k' ≤ i' → m' ≤ k' → ¬ Hit L p1 p2 p3 i' k' m') := fun i' k' m' h1 h2 h3 => by
            rcases Nat.lt_or_ge i' i with g | g
            · exact NI.out i' k' m' g h2 h3
            · obtain rfl : i' = i := by omega
              exact NK.out k' m' (by omega) h3
          clear NK
          go_wp2
          go_roundw
          case rel => exact ⟨_, i + 1, rfl, by omega, by go_num, NI.out, BX, by rw [hgp2.out]; exact E⟩
          case measure => simp [intOf]; omega
    · obtain rfl : i = n := by omega
      have HA : Hid (res = false) := HF.out fun i' k' m' h1 h2 h3 => NI.out i' k' m' (by have h5 : i = L.length := HN.out; omega) h2 h3
      clear NI
      go_wp2
      go_ret
      exact ⟨by rw [HA.out]; rfl, E.out⟩
end Go.Proofs.Ytpkfngfenkcjoaa

/- The reference's Points and Same; covered in terms of the plane. -/
set_option linter.all false
namespace Go.Proofs.Ytpkfngfenkcjoaa
open Go.RowKit

set_option maxRecDepth 100000 in
set_option maxHeartbeats 2000000 in
theorem Points_any (L : List T3) (v : Value) (w : World) (h : Rv w v L) :
    Calls Try.prog 26 #[v] w (Ret (.bool (inL 1048576 L)) w) := by
  obtain ⟨p, b, off, cap, rfl, h2, h3, h4, h5⟩ := h
  have HV := Lib.hid (fun x y z w => rPoint_any x y z w)
  have H4 := Lib.hid h4
  have H5 := Lib.hid h5
  have HF : Hid (∀ k (hk : k < L.length), inV 1048576 L[k].1 L[k].2.1 L[k].2.2 = false → inL 1048576 L = false) := fun k hk h => inL_false hk h
  have HT : Hid ((∀ k (hk : k < L.length), inV 1048576 L[k].1 L[k].2.1 L[k].2.2 = true) → inL 1048576 L = true) := fun h => inL_true h
  generalize inL 1048576 L = res at *
  clear h4 h5
  have hmx : L.length ≤ 9223372036854775807 := by unfold maxLen at h3; omega
  clear h2 h3
  obtain ⟨n, hn⟩ : ∃ n, n = L.length := ⟨_, rfl⟩
  rw [← hn] at hmx ⊢
  have HN := Lib.hid hn
  clear hn
  go_enter Try.func26, Try.ntmps26
  go_wp2
  go_loopw [3] (fun iv wr => ∃ (wz : World) (k : Nat), wz = wr ∧ k ≤ n ∧ iv = .int .i64 (k : Int) ∧ Hid (∀ j (hj : j < L.length), j < k → inV 1048576 L[j].1 L[j].2.1 L[j].2.2 = true) ∧ Hid (Below w.heap.size w wz))
    (fun iv _ => n - (intOf iv).toNat)
  case atStart => exact ⟨w, 0, rfl, Nat.zero_le _, rfl, fun j _ hj => absurd hj (Nat.not_lt_zero _), Below.refl _ _⟩
  case round =>
    obtain ⟨wz, k, rfl, hk, rfl, hall, hbl⟩ := hrel
    by_cases hlt : k < n
    · have hkl : k < L.length := by have h5 : n = L.length := HN.out; omega
      obtain ⟨x, y, z, hL⟩ : ∃ x y z, L[k] = (x, y, z) := ⟨_, _, _, rfl⟩
      obtain rfl := H4.out (by omega)
      have c0 : wz.cell? ⟨b, off + k * 3, none⟩ = some (.int .i64 x) := by
        have := keep1 hbl.out (H5.out k hkl).1
        simpa [hL] using this
      have c1 : wz.cell? ⟨b, off + k * 3 + 1, none⟩ = some (.int .i64 y) := by
        have := keep1 hbl.out (H5.out k hkl).2.1
        simpa [hL] using this
      have c2 : wz.cell? ⟨b, off + k * 3 + 2, none⟩ = some (.int .i64 z) := by
        have := keep1 hbl.out (H5.out k hkl).2.2
        simpa [hL] using this
      have HVk := Lib.hid (fun w => HV.out x y z w)
      have hR : Hid (inV 1048576 x y z = true → ∀ j (hj : j < L.length), j < k + 1 → inV 1048576 L[j].1 L[j].2.1 L[j].2.2 = true) := by
        intro hs j hj hjk
        rcases Nat.lt_or_ge j k with g | g
        · exact hall.out j hj g
        · obtain rfl : j = k := by omega
          rw [hL]; exact hs
      have hF : Hid (inV 1048576 x y z = false → res = false) := fun hs => HF.out k hkl (by rw [hL]; exact hs)
      clear hkl hL hall
      by_cases hsz : inV 1048576 x y z = true
      · have HR := Lib.hid (hR.out hsz)
        rw [hsz] at HVk
        clear hR hF hsz
        go_wp2_with fail
        refine (HVk.out _).mono ?_
        rintro e w5 ⟨rfl, b5⟩
        have HB2 := Lib.hid (chain hbl.out b5)
        clear b5
        go_wp2
        go_roundw
        case rel => exact ⟨_, k + 1, rfl, by omega, by go_num, HR.out, HB2⟩
        case measure => simp [intOf]; omega
      · rw [Bool.not_eq_true] at hsz
        have HF := Lib.hid (hF.out hsz)
        rw [hsz] at HVk
        clear hR hF hsz
        go_wp2_with fail
        refine (HVk.out _).mono ?_
        rintro e w5 ⟨rfl, b5⟩
        have HB2 := Lib.hid (chain hbl.out b5)
        clear b5
        go_wp2
        go_ret
        exact ⟨by rw [HF.out]; rfl, HB2.out⟩
    · have HA : Hid (res = true) := HT.out (fun j hj => hall.out j hj (by have h5 : n = L.length := HN.out; omega))
      clear hall
      go_wp2
      go_ret
      exact ⟨by rw [HA.out]; rfl, hbl.out⟩

set_option maxRecDepth 100000 in
set_option maxHeartbeats 2000000 in
theorem Same_any (L M : List T3) (v1 v2 : Value) (w : World) (g1 : Rv w v1 L) (g2 : Rv w v2 M) :
    Calls Try.prog 16 #[v1, v2] w (Ret (.bool (decide (L = M))) w) := by
  obtain ⟨p1, b1, o1, c1, rfl, x2, x3, x4, x5⟩ := g1
  obtain ⟨p2, b2, o2, c2, rfl, y2, y3, y4, y5⟩ := g2
  have hm1 : L.length ≤ 9223372036854775807 := by unfold maxLen at x3; omega
  have hm2 : M.length ≤ 9223372036854775807 := by unfold maxLen at y3; omega
  clear x2 x3 y2 y3
  by_cases hl : L.length = M.length
  · have X4 := Lib.hid x4
    have X5 := Lib.hid x5
    have Y4 := Lib.hid y4
    have Y5 := Lib.hid y5
    have HF : Hid (∀ k (h1 : k < L.length) (h2 : k < M.length), L[k] ≠ M[k] → decide (L = M) = false) := fun k h1 h2 hn => decide_eq_false fun e => hn (by subst e; rfl)
    have HT : Hid ((∀ k (h1 : k < L.length) (h2 : k < M.length), L[k] = M[k]) → decide (L = M) = true) := fun h => decide_eq_true (List.ext_getElem hl h)
    generalize decide (L = M) = res at *
    clear x4 x5 y4 y5
    obtain ⟨n, hn⟩ : ∃ n, n = L.length := ⟨_, rfl⟩
    have hn2 : n = M.length := hn.trans hl
    rw [← hn, ← hn2]
    rw [← hn] at hm1
    have HN := Lib.hid hn
    have HN2 := Lib.hid hn2
    clear hn hn2 hl hm2
    go_enter Try.func16, Try.ntmps16
    go_wp2
    go_loopw [5] (fun iv wr => ∃ (wz : World) (k : Nat), wz = wr ∧ k ≤ n ∧ iv = .int .i64 (k : Int) ∧ Hid (∀ j (h1 : j < L.length) (h2 : j < M.length), j < k → L[j] = M[j]) ∧ Hid (Below w.heap.size w wz))
      (fun iv _ => n - (intOf iv).toNat)
    case atStart => exact ⟨w, 0, rfl, Nat.zero_le _, rfl, fun j _ _ hj => absurd hj (Nat.not_lt_zero _), Below.refl _ _⟩
    case round =>
      obtain ⟨wz, k, rfl, hk, rfl, hall, hbl⟩ := hrel
      by_cases hlt : k < n
      · have hk1 : k < L.length := by have h5 : n = L.length := HN.out; omega
        have hk2 : k < M.length := by have h5 : n = M.length := HN2.out; omega
        obtain ⟨x, y, z, hL⟩ : ∃ x y z, L[k] = (x, y, z) := ⟨_, _, _, rfl⟩
        obtain ⟨u, s, t, hM⟩ : ∃ x y z, M[k] = (x, y, z) := ⟨_, _, _, rfl⟩
        obtain rfl := X4.out (by omega)
        obtain rfl := Y4.out (by omega)
        have a0 : wz.cell? ⟨b1, o1 + k * 3, none⟩ = some (.int .i64 x) := by have := keep1 hbl.out (X5.out k hk1).1; simpa [hL] using this
        have a1 : wz.cell? ⟨b1, o1 + k * 3 + 1, none⟩ = some (.int .i64 y) := by have := keep1 hbl.out (X5.out k hk1).2.1; simpa [hL] using this
        have a2 : wz.cell? ⟨b1, o1 + k * 3 + 2, none⟩ = some (.int .i64 z) := by have := keep1 hbl.out (X5.out k hk1).2.2; simpa [hL] using this
        have d0 : wz.cell? ⟨b2, o2 + k * 3, none⟩ = some (.int .i64 u) := by have := keep1 hbl.out (Y5.out k hk2).1; simpa [hM] using this
        have d1 : wz.cell? ⟨b2, o2 + k * 3 + 1, none⟩ = some (.int .i64 s) := by have := keep1 hbl.out (Y5.out k hk2).2.1; simpa [hM] using this
        have d2 : wz.cell? ⟨b2, o2 + k * 3 + 2, none⟩ = some (.int .i64 t) := by have := keep1 hbl.out (Y5.out k hk2).2.2; simpa [hM] using this
        have hk0 : (0 : Int) ≤ (k : Int) := by omega
        have hk3 : (k : Int) < (n : Int) := by omega
        by_cases hv : vE x y z u s t = true
        · have qN : ∀ w, (binOp .neq 24 (.agg #[.int .i64 x, .int .i64 y, .int .i64 z]) (.agg #[.int .i64 u, .int .i64 s, .int .i64 t])).run Try.prog w = .ok (.bool false) w := fun w => by have := neq_vec w x y z u s t; rw [hv] at this; exact this
          have HR : Hid (∀ j (h1 : j < L.length) (h2 : j < M.length), j < k + 1 → L[j] = M[j]) := by
            intro j j1 j2 hjk
            rcases Nat.lt_or_ge j k with g | g
            · exact hall.out j j1 j2 g
            · obtain rfl : j = k := by omega
              obtain ⟨rfl, rfl, rfl⟩ := vE_iff.1 hv
              rw [hL, hM]
          clear hk1 hk2 hL hM hall hv
          go_upto_region 6 with (fail)
          go_quiet (fail)
          go_wp2
          go_roundw
          case rel => exact ⟨_, k + 1, rfl, by omega, by go_num, HR.out, below_drewN hbl.out _⟩
          case measure => simp [intOf]; omega
        · have HA : Hid (res = false) := HF.out k hk1 hk2 (fun e => hv (by rw [hL, hM] at e; cases e; exact vE_refl _ _ _))
          rw [Bool.not_eq_true] at hv
          have qN : ∀ w, (binOp .neq 24 (.agg #[.int .i64 x, .int .i64 y, .int .i64 z]) (.agg #[.int .i64 u, .int .i64 s, .int .i64 t])).run Try.prog w = .ok (.bool true) w := fun w => by have := neq_vec w x y z u s t; rw [hv] at this; exact this
          clear hk1 hk2 hL hM hall hv
          go_upto_region 6 with (fail)
          go_quiet (fail)
          go_wp2
          go_ret
          exact ⟨by rw [HA.out]; rfl, below_drewN hbl.out _⟩
      · have HA : Hid (res = true) := HT.out (fun j j1 j2 => hall.out j j1 j2 (by have h5 : n = L.length := HN.out; omega))
        clear hall
        go_wp2
        go_ret
        exact ⟨by rw [HA.out]; rfl, hbl.out⟩
  · have e : decide (L = M) = false := decide_eq_false fun e => hl (by rw [e])
    rw [e]
    have hb : ((L.length : Int) != (M.length : Int)) = true := by simp; omega
    have hb2 : ¬ (L.length : Int) = (M.length : Int) := by omega
    clear x4 x5 y4 y5 e hl
    generalize L.length = n1 at *
    generalize M.length = n2 at *
    go_enter Try.func16, Try.ntmps16
    go_wp2
    go_ret
    exact ⟨rfl, Below.refl _ _⟩

/-! In the plane. -/
/-- Points of the plane as vectors. -/
def fl (F : List Hl.P2) : List T3 := F.map fun a => (a.1, a.2, 0)
theorem fl_length (F : List Hl.P2) : (fl F).length = F.length := by simp [fl]
theorem fl_get (F : List Hl.P2) (i : Nat) (h : i < F.length) (h2 : i < (fl F).length) : (fl F)[i] = (F[i].1, F[i].2, 0) := by simp [fl]
theorem inT_swap {a b c p : Hl.P2} (h : Hl.inT a b c p) : Hl.inT b a c p := by
  rcases h with h | h | h | ⟨h1, h2, h3⟩ | ⟨h1, h2, h3⟩
  · exact .inl (Hl.on_symm h)
  · exact .inr (.inr (.inl (Hl.on_symm h)))
  · exact .inr (.inl (Hl.on_symm h))
  · refine .inr (.inr (.inr (.inr ⟨?_, ?_, ?_⟩))) <;> rw [Hl.tn_swap] <;> omega
  · refine .inr (.inr (.inr (.inl ⟨?_, ?_, ?_⟩))) <;> rw [Hl.tn_swap] <;> omega
theorem inT_turn {a b c p : Hl.P2} (h : Hl.inT a b c p) : Hl.inT b c a p := by
  rcases h with h | h | h | ⟨h1, h2, h3⟩ | ⟨h1, h2, h3⟩
  · exact .inr (.inr (.inl h))
  · exact .inl h
  · exact .inr (.inl h)
  · exact .inr (.inr (.inr (.inl ⟨h2, h3, h1⟩)))
  · exact .inr (.inr (.inr (.inr ⟨h2, h3, h1⟩)))
theorem vE_plane {a p : Hl.P2} : vE a.1 a.2 0 p.1 p.2 0 = false ↔ a ≠ p := by
  constructor
  · intro h e; subst e; rw [vE_refl] at h; cases h
  · intro h
    rw [← Bool.not_eq_true]
    intro e
    obtain ⟨h1, h2, -⟩ := vE_iff.1 e
    exact h (Prod.ext h1 h2)
theorem cov_hit {F : List Hl.P2} {p : Hl.P2} : Hl.cov F p ↔ ∃ i k m, i < (fl F).length ∧ k ≤ i ∧ m ≤ k ∧ Hit (fl F) p.1 p.2 0 i k m := by
  constructor
  · rintro ⟨a, ha, b, hb, c, hc, na, nb, nc, h⟩
    obtain ⟨i, hi, rfl⟩ := List.mem_iff_getElem.1 ha
    obtain ⟨k, hk, rfl⟩ := List.mem_iff_getElem.1 hb
    obtain ⟨m, hm, rfl⟩ := List.mem_iff_getElem.1 hc
    have mk : ∀ i k m (hi : i < F.length) (hk : k < F.length) (hm : m < F.length), F[i] ≠ p → F[k] ≠ p → F[m] ≠ p → Hl.inT F[i] F[k] F[m] p → k ≤ i → m ≤ k → ∃ i k m, i < (fl F).length ∧ k ≤ i ∧ m ≤ k ∧ Hit (fl F) p.1 p.2 0 i k m := by
      intro i k m hi hk hm na nb nc h h1 h2
      refine ⟨i, k, m, by rw [fl_length]; exact hi, h1, h2, by rw [fl_length]; exact hi, by rw [fl_length]; exact hk, by rw [fl_length]; exact hm, ?_⟩
      rw [fl_get F i hi, fl_get F k hk, fl_get F m hm]
      exact ⟨vE_plane.2 na, vE_plane.2 nb, vE_plane.2 nc, h⟩
    rcases Nat.le_total k i with h1 | h1 <;> rcases Nat.le_total m k with h2 | h2 <;> rcases Nat.le_total m i with h3 | h3
    · exact mk i k m hi hk hm na nb nc h h1 h2
    · exact mk i k m hi hk hm na nb nc h h1 h2
    · exact mk i m k hi hm hk na nc nb (inT_turn (inT_turn (inT_swap (inT_turn h)))) h3 h2
    · exact mk m i k hm hi hk nc na nb (inT_turn (inT_turn h)) h3 h1
    · exact mk k i m hk hi hm nb na nc (inT_swap h) h1 h3
    · exact mk k m i hk hm hi nb nc na (inT_turn h) h2 h3
    · exact mk m k i hm hk hi nc nb na (inT_swap (inT_turn h)) h2 h1
    · exact mk m k i hm hk hi nc nb na (inT_swap (inT_turn h)) h2 h1
  · rintro ⟨i, k, m, h1, h2, h3, hi, hk, hm, h⟩
    rw [fl_length] at hi hk hm
    rw [fl_get F i hi, fl_get F k hk, fl_get F m hm] at h
    exact ⟨F[i], List.getElem_mem _, F[k], List.getElem_mem _, F[m], List.getElem_mem _, vE_plane.1 h.1, vE_plane.1 h.2.1, vE_plane.1 h.2.2.1, h.2.2.2⟩
theorem covered_yes (F : List Hl.P2) (v : Value) (p : Hl.P2) (w : World) (hl : Rv w v (fl F)) (hv : ∀ a ∈ F, inV 16777216 a.1 a.2 0 = true) (hp : inV 16777216 p.1 p.2 0 = true) (h : Hl.cov F p) :
    Calls Try.prog 52 #[v, vv p.1 p.2 0] w (Ret (.bool true) w) := by
  refine covered_walk (fl F) v p.1 p.2 0 w true hl ?_ hp (fun _ _ _ _ _ _ _ => rfl) fun hn => ?_
  · intro a ha
    obtain ⟨q, hq, rfl⟩ := List.mem_map.1 ha
    exact hv q hq
  · obtain ⟨i, k, m, h1, h2, h3, h4⟩ := cov_hit.1 h
    exact absurd h4 (hn i k m h1 h2 h3)
theorem covered_no (F : List Hl.P2) (v : Value) (p : Hl.P2) (w : World) (hl : Rv w v (fl F)) (hv : ∀ a ∈ F, inV 16777216 a.1 a.2 0 = true) (hp : inV 16777216 p.1 p.2 0 = true) (h : ¬ Hl.cov F p) :
    Calls Try.prog 52 #[v, vv p.1 p.2 0] w (Ret (.bool false) w) := by
  refine covered_walk (fl F) v p.1 p.2 0 w false hl ?_ hp (fun i k m h1 h2 h3 h4 => absurd (cov_hit.2 ⟨i, k, m, h1, h2, h3, h4⟩) h) (fun _ => rfl)
  intro a ha
  obtain ⟨q, hq, rfl⟩ := List.mem_map.1 ha
  exact hv q hq
end Go.Proofs.Ytpkfngfenkcjoaa

/- hull's loops over a list: allPoints, allFlat, firstIsLeast. -/
set_option linter.all false
namespace Go.Proofs.Ytpkfngfenkcjoaa
open Go.RowKit

set_option maxRecDepth 100000 in
set_option maxHeartbeats 4000000 in
theorem allPoints_len (L : List T3) (v : Value) (w : World) (h : Rv w v L) (hb : ¬ L.length ≤ 10000) :
    Calls Try.prog 32 #[v] w (Ret (.bool false) w) := by
  obtain ⟨p, b, off, cap, rfl, h2, h3, h4, h5⟩ := h
  clear h2 h3 h4 h5
  generalize L.length = n at *
  have h10 : (10000 : Int) < (n : Int) := by omega
  clear hb
  go_enter Try.func32, Try.ntmps32
  go_wp2
  go_ret
  exact ⟨rfl, Below.refl _ _⟩

set_option maxRecDepth 100000 in
set_option maxHeartbeats 4000000 in
theorem allPoints_walk (L : List T3) (v : Value) (w : World) (h : Rv w v L) (hmx : L.length ≤ 10000) (ok : ∀ j, j < L.length → Bool) (res : Bool) (hF : ∀ k (hk : k < L.length), ok k hk = false → res = false) (hT : (∀ k (hk : k < L.length), ok k hk = true) → res = true) (hok : ∀ k (hk : k < L.length) w, Calls Try.prog 34 #[vv L[k].1 L[k].2.1 L[k].2.2] w (Ret (.bool (ok k hk)) w)) :
    Calls Try.prog 32 #[v] w (Ret (.bool res) w) := by
  obtain ⟨p, b, off, cap, rfl, h2, h3, h4, h5⟩ := h
  have H4 := Lib.hid h4
  have H5 := Lib.hid h5
  have HF := Lib.hid hF
  have HT := Lib.hid hT
  clear h4 h5 h2 h3 hF hT
  obtain ⟨n, hn⟩ : ∃ n, n = L.length := ⟨_, rfl⟩
  rw [← hn] at hmx ⊢
  have HN := Lib.hid hn
  clear hn
  have hok := Lib.hid hok
  go_enter Try.func32, Try.ntmps32
  go_wp2
  go_loopw [4, 10] (fun _ iv wr => ∃ (wz : World) (k : Nat), wz = wr ∧ k ≤ n ∧ iv = .int .i64 (k : Int) ∧ Hid (∀ j (hj : j < L.length), j < k → ok j hj = true) ∧ Hid (Below w.heap.size w wz))
    (fun _ iv _ => n - (intOf iv).toNat)
  case atStart => exact ⟨w, 0, rfl, Nat.zero_le _, rfl, fun j _ hj => absurd hj (Nat.not_lt_zero _), Below.refl _ _⟩
  case round =>
    obtain ⟨wz, k, rfl, hk, rfl, hall, hbl⟩ := hrel
    by_cases hlt : k < n
    · have hkl : k < L.length := by have h5 : n = L.length := HN.out; omega
      obtain ⟨x, y, z, hL⟩ : ∃ x y z, L[k] = (x, y, z) := ⟨_, _, _, rfl⟩
      obtain rfl := H4.out (by omega)
      have c0 : wz.cell? ⟨b, off + k * 3, none⟩ = some (.int .i64 x) := by
        have := keep1 hbl.out (H5.out k hkl).1
        simpa [hL] using this
      have c1 : wz.cell? ⟨b, off + k * 3 + 1, none⟩ = some (.int .i64 y) := by
        have := keep1 hbl.out (H5.out k hkl).2.1
        simpa [hL] using this
      have c2 : wz.cell? ⟨b, off + k * 3 + 2, none⟩ = some (.int .i64 z) := by
        have := keep1 hbl.out (H5.out k hkl).2.2
        simpa [hL] using this
      have hR : Hid (ok k hkl = true → ∀ j (hj : j < L.length), j < k + 1 → ok j hj = true) := by
        intro hs j hj hjk
        rcases Nat.lt_or_ge j k with g | g
        · exact hall.out j hj g
        · obtain rfl : j = k := by omega
          exact hs
      have hF : Hid (ok k hkl = false → res = false) := fun hs => HF.out k hkl hs
      have HVk : Hid (∀ w, Calls Try.prog 34 #[vv x y z] w (Ret (.bool (ok k hkl)) w)) := by
        intro w
        have := hok.out k hkl w
        rwa [hL] at this
      have HB2 := Lib.hid (hbl.out.alloc hbl.out.size (.cells #[.int .i64 x, .int .i64 y, .int .i64 z] 24))
      clear hL hall
      by_cases hsz : ok k hkl = true
      · have HR := Lib.hid (hR.out hsz)
        rw [hsz] at HVk
        clear hR hF hsz hkl
        go_wp2_with fail
        refine (HVk.out _).mono ?_
        rintro e w5 ⟨rfl, b5⟩
        have HB2 := Lib.hid (chain HB2.out b5)
        clear b5
        go_wp2
        go_roundw
        case rel => exact ⟨_, k + 1, rfl, by omega, by go_num, HR.out, HB2⟩
        case measure => simp [intOf]; omega
      · rw [Bool.not_eq_true] at hsz
        have HF2 := Lib.hid (hF.out hsz)
        rw [hsz] at HVk
        clear hR hF hsz hkl
        go_wp2_with fail
        refine (HVk.out _).mono ?_
        rintro e w5 ⟨rfl, b5⟩
        have HB2 := Lib.hid (chain HB2.out b5)
        clear b5
        go_wp2
        go_ret
        exact ⟨by rw [HF2.out]; rfl, HB2.out⟩
    · have HA : Hid (res = true) := HT.out (fun j hj => hall.out j hj (by have h5 : n = L.length := HN.out; omega))
      clear hall
      go_wp2
      go_ret
      exact ⟨by rw [HA.out]; rfl, hbl.out⟩

set_option maxRecDepth 100000 in
set_option maxHeartbeats 4000000 in
theorem allFlat_walk (L : List T3) (v : Value) (w : World) (h : Rv w v L) (hmx : L.length ≤ 10000) (ok : ∀ j, j < L.length → Bool) (res : Bool) (hF : ∀ k (hk : k < L.length), ok k hk = false → res = false) (hT : (∀ k (hk : k < L.length), ok k hk = true) → res = true) (hok : ∀ k (hk : k < L.length), ok k hk = decide (L[k].2.2 = 0)) :
    Calls Try.prog 39 #[v] w (Ret (.bool res) w) := by
  obtain ⟨p, b, off, cap, rfl, h2, h3, h4, h5⟩ := h
  have H4 := Lib.hid h4
  have H5 := Lib.hid h5
  have HF := Lib.hid hF
  have HT := Lib.hid hT
  clear h4 h5 h2 h3 hF hT
  obtain ⟨n, hn⟩ : ∃ n, n = L.length := ⟨_, rfl⟩
  rw [← hn] at hmx ⊢
  have HN := Lib.hid hn
  clear hn
  have hok := Lib.hid hok
  go_enter Try.func39, Try.ntmps39
  go_wp2
  go_loopw [4, 7] (fun _ iv wr => ∃ (wz : World) (k : Nat), wz = wr ∧ k ≤ n ∧ iv = .int .i64 (k : Int) ∧ Hid (∀ j (hj : j < L.length), j < k → ok j hj = true) ∧ Hid (Below w.heap.size w wz))
    (fun _ iv _ => n - (intOf iv).toNat)
  case atStart => exact ⟨w, 0, rfl, Nat.zero_le _, rfl, fun j _ hj => absurd hj (Nat.not_lt_zero _), Below.refl _ _⟩
  case round =>
    obtain ⟨wz, k, rfl, hk, rfl, hall, hbl⟩ := hrel
    by_cases hlt : k < n
    · have hkl : k < L.length := by have h5 : n = L.length := HN.out; omega
      obtain ⟨x, y, z, hL⟩ : ∃ x y z, L[k] = (x, y, z) := ⟨_, _, _, rfl⟩
      obtain rfl := H4.out (by omega)
      have c0 : wz.cell? ⟨b, off + k * 3, none⟩ = some (.int .i64 x) := by
        have := keep1 hbl.out (H5.out k hkl).1
        simpa [hL] using this
      have c1 : wz.cell? ⟨b, off + k * 3 + 1, none⟩ = some (.int .i64 y) := by
        have := keep1 hbl.out (H5.out k hkl).2.1
        simpa [hL] using this
      have c2 : wz.cell? ⟨b, off + k * 3 + 2, none⟩ = some (.int .i64 z) := by
        have := keep1 hbl.out (H5.out k hkl).2.2
        simpa [hL] using this
      have hR : Hid (ok k hkl = true → ∀ j (hj : j < L.length), j < k + 1 → ok j hj = true) := by
        intro hs j hj hjk
        rcases Nat.lt_or_ge j k with g | g
        · exact hall.out j hj g
        · obtain rfl : j = k := by omega
          exact hs
      have hF : Hid (ok k hkl = false → res = false) := fun hs => HF.out k hkl hs
      have HB2 := Lib.hid (hbl.out.alloc hbl.out.size (.cells #[.int .i64 x, .int .i64 y, .int .i64 z] 24))
      have hz : ok k hkl = decide (z = 0) := by have := hok.out k hkl; rwa [hL] at this
      clear hL hall
      by_cases hsz : z = 0
      · have HR := Lib.hid (hR.out (by rw [hz]; simp [hsz]))
        clear hR hF hz hkl
        subst hsz
        go_wp2
        go_roundw
        case rel => exact ⟨_, k + 1, rfl, by omega, by go_num, HR.out, HB2⟩
        case measure => simp [intOf]; omega
      · have HF2 := Lib.hid (hF.out (by rw [hz]; simp [hsz]))
        clear hR hF hz hkl
        go_wp2
        go_ret
        exact ⟨by rw [HF2.out]; rfl, HB2.out⟩
    · have HA : Hid (res = true) := HT.out (fun j hj => hall.out j hj (by have h5 : n = L.length := HN.out; omega))
      clear hall
      go_wp2
      go_ret
      exact ⟨by rw [HA.out]; rfl, hbl.out⟩

theorem allPoints_any (L : List T3) (v : Value) (w : World) (h : Rv w v L) :
    Calls Try.prog 32 #[v] w (Ret (.bool (decide (L.length ≤ 10000) && inL 1048576 L)) w) := by
  by_cases hl : L.length ≤ 10000
  · rw [decide_eq_true hl, Bool.true_and]
    exact allPoints_walk L v w h hl (fun k hk => inV 1048576 L[k].1 L[k].2.1 L[k].2.2) _ (fun k hk h => inL_false hk h) (fun h => inL_true h) (fun k hk w => Point_any _ _ _ w)
  · rw [decide_eq_false hl, Bool.false_and]
    exact allPoints_len L v w h hl
theorem allFlat_any (L : List T3) (v : Value) (w : World) (h : Rv w v L) (hl : L.length ≤ 10000) :
    Calls Try.prog 39 #[v] w (Ret (.bool (L.all fun a => decide (a.2.2 = 0))) w) := by
  refine allFlat_walk L v w h hl (fun k hk => decide (L[k].2.2 = 0)) _ (fun k hk h => ?_) (fun h => ?_) (fun k hk => rfl)
  · rw [List.all_eq_false]; exact ⟨_, List.getElem_mem hk, by simpa using h⟩
  · rw [List.all_eq_true]
    intro a ha
    obtain ⟨k, hk, rfl⟩ := List.mem_iff_getElem.1 ha
    exact h k hk
end Go.Proofs.Ytpkfngfenkcjoaa

/- hull.firstIsLeast. -/
set_option linter.all false
namespace Go.Proofs.Ytpkfngfenkcjoaa
open Go.RowKit

set_option maxRecDepth 100000 in
set_option maxHeartbeats 4000000 in
theorem firstIsLeast_walk (L : List T3) (a0 a1 a2 : Int) (b off cap n : Nat) (w : World) (hn : n = L.length) (hcap : n < cap) (hcm : cap ≤ maxLen) (hmx : L.length ≤ 10000)
    (k0 : w.cell? ⟨b, off, none⟩ = some (.int .i64 a0)) (k1 : w.cell? ⟨b, off + 1, none⟩ = some (.int .i64 a1)) (k2 : w.cell? ⟨b, off + 2, none⟩ = some (.int .i64 a2))
    (h5 : ∀ k (h : k < L.length), w.cell? ⟨b, off + 3 + k * 3, none⟩ = some (.int .i64 L[k].1) ∧ w.cell? ⟨b, off + 3 + k * 3 + 1, none⟩ = some (.int .i64 L[k].2.1) ∧ w.cell? ⟨b, off + 3 + k * 3 + 2, none⟩ = some (.int .i64 L[k].2.2))
    (c : ∀ j, j < L.length → Int) (res : Bool) (hF : ∀ k (hk : k < L.length), 0 ≤ c k hk → res = false) (hT : (∀ k (hk : k < L.length), c k hk < 0) → res = true)
    (hok : ∀ k (hk : k < L.length) w, Calls Try.prog 59 #[vv a0 a1 a2, vv L[k].1 L[k].2.1 L[k].2.2] w (Ret (.int .i64 (c k hk)) w)) :
    Calls Try.prog 40 #[.slice (some ⟨b, off, none⟩) (n + 1) cap] w (Ret (.bool res) w) := by
  have H5 := Lib.hid h5
  have K := Lib.hid (And.intro k0 (And.intro k1 k2))
  have HF := Lib.hid hF
  have HT := Lib.hid hT
  have hok := Lib.hid hok
  clear h5 hF hT k0 k1 k2
  rw [← hn] at hmx
  have HN := Lib.hid hn
  clear hn
  have hc0 : (cap : Int) ≤ 9223372036854775807 := by unfold maxLen at hcm; omega
  clear hcm
  by_cases hc1 : cap = 1
  · subst hc1
    have hn0 : n = 0 := by omega
    go_enter Try.func40, Try.ntmps40
    go_wp2
    go_loopw [4, 8] (fun _ iv wr => ∃ (wz : World) (k : Nat), wz = wr ∧ k ≤ n ∧ iv = .int .i64 (k : Int) ∧ Hid (∀ j (hj : j < L.length), j < k → c j hj < 0) ∧ Hid (Below w.heap.size w wz))
      (fun _ iv _ => n - (intOf iv).toNat)
    case atStart => exact ⟨w, 0, rfl, Nat.zero_le _, rfl, fun j _ hj => absurd hj (Nat.not_lt_zero _), Below.refl _ _⟩
    case round =>
      obtain ⟨wz, k, rfl, hk, rfl, hall, hbl⟩ := hrel
      by_cases hlt : k < n
      · exact absurd hlt (by omega)
      · have HA : Hid (res = true) := HT.out (fun j hj => hall.out j hj (by have h5 : n = L.length := HN.out; omega))
        clear hall
        go_wp2
        go_ret
        exact ⟨by rw [HA.out]; rfl, hbl.out⟩
  · go_enter Try.func40, Try.ntmps40
    go_wp2
    go_loopw [4, 8] (fun _ iv wr => ∃ (wz : World) (k : Nat), wz = wr ∧ k ≤ n ∧ iv = .int .i64 (k : Int) ∧ Hid (∀ j (hj : j < L.length), j < k → c j hj < 0) ∧ Hid (Below w.heap.size w wz))
      (fun _ iv _ => n - (intOf iv).toNat)
    case atStart => exact ⟨w, 0, rfl, Nat.zero_le _, rfl, fun j _ hj => absurd hj (Nat.not_lt_zero _), Below.refl _ _⟩
    case round =>
      obtain ⟨wz, k, rfl, hk, rfl, hall, hbl⟩ := hrel
      by_cases hlt : k < n
      · have hkl : k < L.length := by have h5 : n = L.length := HN.out; omega
        obtain ⟨x, y, z, hL⟩ : ∃ x y z, L[k] = (x, y, z) := ⟨_, _, _, rfl⟩
        have c0 : wz.cell? ⟨b, off + 3 + k * 3, none⟩ = some (.int .i64 x) := by
          have := keep1 hbl.out (H5.out k hkl).1
          simpa [hL] using this
        have c1 : wz.cell? ⟨b, off + 3 + k * 3 + 1, none⟩ = some (.int .i64 y) := by
          have := keep1 hbl.out (H5.out k hkl).2.1
          simpa [hL] using this
        have c2 : wz.cell? ⟨b, off + 3 + k * 3 + 2, none⟩ = some (.int .i64 z) := by
          have := keep1 hbl.out (H5.out k hkl).2.2
          simpa [hL] using this
        have HVk : Hid (∀ w, Calls Try.prog 59 #[vv a0 a1 a2, vv x y z] w (Ret (.int .i64 (c k hkl)) w)) := by
          intro w
          have := hok.out k hkl w
          rwa [hL] at this
        have hR : Hid (c k hkl < 0 → ∀ j (hj : j < L.length), j < k + 1 → c j hj < 0) := by
          intro hs j hj hjk
          rcases Nat.lt_or_ge j k with g | g
          · exact hall.out j hj g
          · obtain rfl : j = k := by omega
            exact hs
        have hF : Hid (0 ≤ c k hkl → res = false) := fun hs => HF.out k hkl hs
        clear hL hall
        go_upto_region 4 with (fail)
        obtain ⟨u0, hu⟩ : ∃ u0 : World, u0 = wz.alloc (.cells #[.int .i64 x, .int .i64 y, .int .i64 z] 24) := ⟨_, rfl⟩
        have VB : Hid (V3 u0 wz.heap.size x y z) := by rw [hu]; exact (vf_made _ _ _ _).1
        have HB2 : Hid (Below w.heap.size w u0) := by rw [hu]; exact hbl.out.alloc hbl.out.size _
        obtain ⟨g, hg⟩ : ∃ g, g = wz.heap.size := ⟨_, rfl⟩
        rw [← hg] at VB
        rw [← hu, ← hg]
        clear hu hg c0 c1 c2
        have d0 := keep1 HB2.out K.out.1
        have d1 := keep1 HB2.out K.out.2.1
        have d2 := keep1 HB2.out K.out.2.2
        obtain ⟨e0, e1, e2⟩ := VB.out
        generalize c k hkl = r at *
        by_cases hsz : 0 ≤ r
        · have HF2 := Lib.hid (hF.out hsz)
          clear hR hF hkl
          go_region_held3 (fun W' => W'.cell? ⟨b, off, none⟩ = some (.int .i64 a0) ∧ W'.cell? ⟨b, off + 1, none⟩ = some (.int .i64 a1) ∧ W'.cell? ⟨b, off + 2, none⟩ = some (.int .i64 a2) ∧ W'.cell? ⟨g, 0, none⟩ = some (.int .i64 x) ∧ W'.cell? ⟨g, 1, none⟩ = some (.int .i64 y) ∧ W'.cell? ⟨g, 2, none⟩ = some (.int .i64 z)) (go_keep)
            (first
              | (go_at_call 59; (with_reducible refine (HVk.out _).mono ?_); rintro e y5 ⟨rfl, b5⟩; (try (have b5 := undrew b5)); have HB2 := Lib.hid (chain HB2.out b5); have VB := Lib.hid (VB.out.below b5); clear b5; have d0 := keep1 HB2.out K.out.1; have d1 := keep1 HB2.out K.out.2.1; have d2 := keep1 HB2.out K.out.2.2; obtain ⟨e0, e1, e2⟩ := VB.out)
              | fail)
          go_wp2
          go_ret
          exact ⟨by rw [HF2.out]; rfl, by first | exact HB2.out | exact HB2.out.drew⟩
        · have HR := Lib.hid (hR.out (by omega))
          clear hR hF hkl
          go_region_held3 (fun W' => W'.cell? ⟨b, off, none⟩ = some (.int .i64 a0) ∧ W'.cell? ⟨b, off + 1, none⟩ = some (.int .i64 a1) ∧ W'.cell? ⟨b, off + 2, none⟩ = some (.int .i64 a2) ∧ W'.cell? ⟨g, 0, none⟩ = some (.int .i64 x) ∧ W'.cell? ⟨g, 1, none⟩ = some (.int .i64 y) ∧ W'.cell? ⟨g, 2, none⟩ = some (.int .i64 z)) (go_keep)
            (first
              | (go_at_call 59; (with_reducible refine (HVk.out _).mono ?_); rintro e y5 ⟨rfl, b5⟩; (try (have b5 := undrew b5)); have HB2 := Lib.hid (chain HB2.out b5); have VB := Lib.hid (VB.out.below b5); clear b5; have d0 := keep1 HB2.out K.out.1; have d1 := keep1 HB2.out K.out.2.1; have d2 := keep1 HB2.out K.out.2.2; obtain ⟨e0, e1, e2⟩ := VB.out)
              | fail)
          go_wp2
          go_roundw
          case rel => exact ⟨_, k + 1, rfl, by omega, by go_num, HR.out, by first | exact HB2.out | exact HB2.out.drew⟩
          case measure => simp [intOf]; omega
      · have HA : Hid (res = true) := HT.out (fun j hj => hall.out j hj (by have h5 : n = L.length := HN.out; omega))
        clear hall
        go_wp2
        go_ret
        exact ⟨by rw [HA.out]; rfl, hbl.out⟩
end Go.Proofs.Ytpkfngfenkcjoaa
