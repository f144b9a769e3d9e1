/- VectorSums: the walk over what its calls give. -/
import Derived.Test.YtdicbeaocedkmaaVz
set_option linter.all false
namespace Go.Proofs.Ytdicbeaocedkmaa
open Go.RowKit

set_option maxRecDepth 100000 in
set_option maxHeartbeats 4000000 in
theorem out_ok (x y z : Int) (h : inV 16777216 x y z = true) (w : World) :
    Calls Try.prog 21 #[vv x y z] w (Ret (.tuple #[vv x y z, .int .i64 0]) w) := by
  have HV := Lib.hid (fun w => rValid_any x y z w)
  rw [h] at HV
  go_enter Try.func21, Try.ntmps21
  go_wp2_with fail
  obtain ⟨w0, hw0⟩ : ∃ w0 : World, w0 = (w.alloc (.cells #[.int .i64 x, .int .i64 y, .int .i64 z] 23)).alloc (.cells #[.int .i64 0, .int .i64 0, .int .i64 0] 23) := ⟨_, rfl⟩
  have hb0 : Hid (Below w.heap.size w w0) := by rw [hw0]; exact (below_one w _).alloc (by simp) _
  have hv0 : Hid (V3 w0 w.heap.size x y z) := by rw [hw0]; exact ⟨by simp [go_sem], by simp [go_sem], by simp [go_sem]⟩
  have hv1 : Hid (V3 w0 (w.heap.size + 1) 0 0 0) := by rw [hw0]; exact ⟨by simp [go_sem], by simp [go_sem], by simp [go_sem]⟩
  have f10 : w0.frozen? ⟨w.heap.size + 1, 0, none⟩ = false := by rw [hw0]; simp [go_sem]
  have f11 : w0.frozen? ⟨w.heap.size + 1, 1, none⟩ = false := by rw [hw0]; simp [go_sem]
  have f12 : w0.frozen? ⟨w.heap.size + 1, 2, none⟩ = false := by rw [hw0]; simp [go_sem]
  have F1 := Lib.hid (And.intro f10 (And.intro f11 f12))
  clear f10 f11 f12
  rw [← hw0]
  clear hw0
  refine (HV.out _).mono ?_
  rintro e wa ⟨rfl, ba⟩
  obtain ⟨k00, k01, k02⟩ := hv0.out.below ba
  obtain ⟨k10, k11, k12⟩ := hv1.out.below ba
  have g10 := keepf ba hv1.out.1 F1.out.1
  have g11 := keepf ba hv1.out.2.1 F1.out.2.1
  have g12 := keepf ba hv1.out.2.2 F1.out.2.2
  have HB := Lib.hid (chain hb0.out ba)
  clear ba
  have HZ := Lib.hid (((HB.out.setCell (p := ⟨w.heap.size + 1, 0, none⟩) (by simp) (.int .i64 x)).setCell (p := ⟨w.heap.size + 1, 1, none⟩) (by simp) (.int .i64 y)).setCell (p := ⟨w.heap.size + 1, 2, none⟩) (by simp) (.int .i64 z))
  go_wp2
  exact bodyPost_ret (v := .tuple #[vv x y z, .int .i64 0]) (by simp [results, Try.results21, go_sem, k10, k11, k12]) rfl ⟨rfl, HZ.out⟩

set_option maxRecDepth 100000 in
set_option maxHeartbeats 4000000 in
theorem out_bad (x y z : Int) (h : inV 16777216 x y z = false) (w : World) :
    Calls Try.prog 21 #[vv x y z] w (Ret (.tuple #[vv 0 0 0, .int .i64 3]) w) := by
  have HV := Lib.hid (fun w => rValid_any x y z w)
  rw [h] at HV
  go_enter Try.func21, Try.ntmps21
  go_wp2_with fail
  obtain ⟨w0, hw0⟩ : ∃ w0 : World, w0 = (w.alloc (.cells #[.int .i64 x, .int .i64 y, .int .i64 z] 23)).alloc (.cells #[.int .i64 0, .int .i64 0, .int .i64 0] 23) := ⟨_, rfl⟩
  have hb0 : Hid (Below w.heap.size w w0) := by rw [hw0]; exact (below_one w _).alloc (by simp) _
  have hv0 : Hid (V3 w0 w.heap.size x y z) := by rw [hw0]; exact ⟨by simp [go_sem], by simp [go_sem], by simp [go_sem]⟩
  have hv1 : Hid (V3 w0 (w.heap.size + 1) 0 0 0) := by rw [hw0]; exact ⟨by simp [go_sem], by simp [go_sem], by simp [go_sem]⟩
  have f10 : w0.frozen? ⟨w.heap.size + 1, 0, none⟩ = false := by rw [hw0]; simp [go_sem]
  have f11 : w0.frozen? ⟨w.heap.size + 1, 1, none⟩ = false := by rw [hw0]; simp [go_sem]
  have f12 : w0.frozen? ⟨w.heap.size + 1, 2, none⟩ = false := by rw [hw0]; simp [go_sem]
  have F1 := Lib.hid (And.intro f10 (And.intro f11 f12))
  clear f10 f11 f12
  rw [← hw0]
  clear hw0
  refine (HV.out _).mono ?_
  rintro e wa ⟨rfl, ba⟩
  obtain ⟨k00, k01, k02⟩ := hv0.out.below ba
  obtain ⟨k10, k11, k12⟩ := hv1.out.below ba
  have g10 := keepf ba hv1.out.1 F1.out.1
  have g11 := keepf ba hv1.out.2.1 F1.out.2.1
  have g12 := keepf ba hv1.out.2.2 F1.out.2.2
  have HB := Lib.hid (chain hb0.out ba)
  clear ba
  have HZ := Lib.hid (((HB.out.setCell (p := ⟨w.heap.size + 1, 0, none⟩) (by simp) (.int .i64 0)).setCell (p := ⟨w.heap.size + 1, 1, none⟩) (by simp) (.int .i64 0)).setCell (p := ⟨w.heap.size + 1, 2, none⟩) (by simp) (.int .i64 0))
  go_wp2
  exact bodyPost_ret (v := .tuple #[vv 0 0 0, .int .i64 3]) (by simp [results, Try.results21, go_sem, k10, k11, k12]) rfl ⟨rfl, HZ.out⟩
theorem out_any (x y z : Int) (w : World) : Calls Try.prog 21 #[vv x y z] w (Ret (.tuple #[vv (ckd x y z).1.1 (ckd x y z).1.2.1 (ckd x y z).1.2.2, .int .i64 (ckd x y z).2]) w) := by
  unfold ckd
  by_cases h : inV 16777216 x y z = true
  · rw [if_pos h]; exact out_ok x y z h w
  · rw [if_neg h]; exact out_bad x y z (by simpa using h) w

set_option maxRecDepth 100000 in
set_option maxHeartbeats 4000000 in
theorem sums_a (x1 x2 x3 y1 y2 y3 by_ : Int) 
    (H1 : ∀ w, Calls Try.prog 17 #[vv x1 x2 x3, vv y1 y2 y3] w (Ret (.tuple #[vv 0 0 0, .int .i64 2]) w))
    (H2 : ∀ w, Calls Try.prog 18 #[vv x1 x2 x3, vv y1 y2 y3] w (Ret (.tuple #[vv 0 0 0, .int .i64 2]) w))
    (H3 : ∀ w, Calls Try.prog 19 #[vv x1 x2 x3, .int .i64 by_] w (Ret (.tuple #[vv 0 0 0, .int .i64 2]) w))
    (V0 : ∀ w, Calls Try.prog 11 #[vv x1 x2 x3] w (Ret (.bool false) w)) (w : World) :
    Calls Try.prog 4 #[vv x1 x2 x3, vv y1 y2 y3, .int .i64 by_] w (Ret (.bool true) w) := by
  have H1 := Lib.hid H1
  have H2 := Lib.hid H2
  have H3 := Lib.hid H3
  have V0 := Lib.hid V0
  have HK := Lib.hid known_true
  have E := Lib.hid (Below.refl w.heap.size w)
  have BX := Lib.hid (Bxs.nil w)
  have p0 : ∀ w, (binOp .eql 23 (.agg #[.int .i64 0, .int .i64 0, .int .i64 0]) (.agg #[.int .i64 0, .int .i64 0, .int .i64 0])).run Try.prog w = .ok (.bool true) w := fun w => eq_vec w 0 0 0 0 0 0
  go_enter Try.func4, Try.ntmps4
  go_upto_region 1 with (fail)
  obtain ⟨u0, hu⟩ : ∃ u0 : World, u0 = w.alloc (.cells #[.int .i64 x1, .int .i64 x2, .int .i64 x3] 23) := ⟨_, rfl⟩
  have b : Below w.heap.size w u0 := by rw [hu]; exact below_one _ _
  have E := Lib.hid (chain E.out b)
  have BX := Lib.hid (BX.out.cons x1 x2 x3)
  rw [← hu] at BX
  have hs : w.heap.size + 1 = u0.heap.size := by rw [hu]; simp
  rw [← hu]
  rw [hs]
  obtain ⟨ga, hga⟩ : ∃ ga, ga = w.heap.size := ⟨_, rfl⟩
  rw [← hga] at BX ⊢
  clear hu b hga hs
  obtain ⟨u1, hu⟩ : ∃ u1 : World, u1 = u0.alloc (.cells #[.int .i64 y1, .int .i64 y2, .int .i64 y3] 23) := ⟨_, rfl⟩
  have b : Below u0.heap.size u0 u1 := by rw [hu]; exact below_one _ _
  have E := Lib.hid (chain E.out b)
  have BX := Lib.hid (BX.out.cons y1 y2 y3)
  rw [← hu] at BX
  rw [← hu]
  obtain ⟨gb, hgb⟩ : ∃ gb, gb = u0.heap.size := ⟨_, rfl⟩
  rw [← hgb] at BX ⊢
  clear hu b hgb
  obtain ⟨cga0, cga1, cga2⟩ := BX.out (ga, (x1, x2, x3)) (by simp)
  obtain ⟨cgb0, cgb1, cgb2⟩ := BX.out (gb, (y1, y2, y3)) (by simp)
  go_wp2_with fail
  refine (H1.out _).mono ?_
  rintro e y ⟨rfl, b⟩
  have E := Lib.hid (chain E.out b)
  have BX := Lib.hid (BX.out.below b)
  clear b cga0 cga1 cga2 cgb0 cgb1 cgb2
  go_upto_region 2 with (fail)
  obtain ⟨u, hu⟩ : ∃ u : World, u = y.alloc (.cells #[.int .i64 0, .int .i64 0, .int .i64 0] 23) := ⟨_, rfl⟩
  have b : Below y.heap.size y u := by rw [hu]; exact below_one _ _
  have E := Lib.hid (chain E.out b)
  have BX := Lib.hid (BX.out.cons 0 0 0)
  rw [← hu] at BX
  rw [← hu]
  obtain ⟨g0, hg0⟩ : ∃ g0, g0 = y.heap.size := ⟨_, rfl⟩
  rw [← hg0] at BX ⊢
  clear hu b hg0
  obtain ⟨cga0, cga1, cga2⟩ := BX.out (ga, (x1, x2, x3)) (by simp)
  obtain ⟨cgb0, cgb1, cgb2⟩ := BX.out (gb, (y1, y2, y3)) (by simp)
  go_wp2_with fail
  refine (H2.out _).mono ?_
  rintro e y ⟨rfl, b⟩
  have E := Lib.hid (chain E.out b)
  have BX := Lib.hid (BX.out.below b)
  clear b cga0 cga1 cga2 cgb0 cgb1 cgb2
  go_upto_region 3 with (fail)
  obtain ⟨u, hu⟩ : ∃ u : World, u = y.alloc (.cells #[.int .i64 0, .int .i64 0, .int .i64 0] 23) := ⟨_, rfl⟩
  have b : Below y.heap.size y u := by rw [hu]; exact below_one _ _
  have E := Lib.hid (chain E.out b)
  have BX := Lib.hid (BX.out.cons 0 0 0)
  rw [← hu] at BX
  rw [← hu]
  obtain ⟨g1, hg1⟩ : ∃ g1, g1 = y.heap.size := ⟨_, rfl⟩
  rw [← hg1] at BX ⊢
  clear hu b hg1
  obtain ⟨cga0, cga1, cga2⟩ := BX.out (ga, (x1, x2, x3)) (by simp)
  go_wp2_with fail
  refine (H3.out _).mono ?_
  rintro e y ⟨rfl, b⟩
  have E := Lib.hid (chain E.out b)
  have BX := Lib.hid (BX.out.below b)
  clear b cga0 cga1 cga2
  go_upto_region 4 with (fail)
  obtain ⟨u, hu⟩ : ∃ u : World, u = y.alloc (.cells #[.int .i64 0, .int .i64 0, .int .i64 0] 23) := ⟨_, rfl⟩
  have b : Below y.heap.size y u := by rw [hu]; exact below_one _ _
  have E := Lib.hid (chain E.out b)
  have BX := Lib.hid (BX.out.cons 0 0 0)
  rw [← hu] at BX
  rw [← hu]
  obtain ⟨g2, hg2⟩ : ∃ g2, g2 = y.heap.size := ⟨_, rfl⟩
  rw [← hg2] at BX ⊢
  clear hu b hg2
  go_upto_region 5 with (fail)
  obtain ⟨u9, hu⟩ : ∃ u9 : World, u9 = u.alloc (.cells #[.int .i64 0, .int .i64 0, .int .i64 0] 23) := ⟨_, rfl⟩
  have b : Below u.heap.size u u9 := by rw [hu]; exact below_one _ _
  have E := Lib.hid (chain E.out b)
  have BX := Lib.hid (BX.out.cons 0 0 0)
  rw [← hu] at BX
  rw [← hu]
  obtain ⟨g3, hg3⟩ : ∃ g3, g3 = u.heap.size := ⟨_, rfl⟩
  rw [← hg3] at BX ⊢
  clear hu b hg3
  obtain ⟨cga0, cga1, cga2⟩ := BX.out (ga, (x1, x2, x3)) (by simp)
  go_wp2_with fail
  refine (V0.out _).mono ?_
  rintro e y ⟨rfl, b⟩
  have E := Lib.hid (chain E.out b)
  have BX := Lib.hid (BX.out.below b)
  clear b cga0 cga1 cga2
  obtain ⟨cg00, cg01, cg02⟩ := BX.out (g0, (0, 0, 0)) (by simp)
  obtain ⟨cg10, cg11, cg12⟩ := BX.out (g1, (0, 0, 0)) (by simp)
  obtain ⟨cg20, cg21, cg22⟩ := BX.out (g2, (0, 0, 0)) (by simp)
  obtain ⟨cg30, cg31, cg32⟩ := BX.out (g3, (0, 0, 0)) (by simp)
  go_wp2_with fail
  refine (HK.out _).mono ?_
  rintro e y ⟨rfl, b⟩
  have E := Lib.hid (chain E.out b)
  have BX := Lib.hid (BX.out.below b)
  clear b cg00 cg01 cg02 cg10 cg11 cg12 cg20 cg21 cg22 cg30 cg31 cg32
  go_wp2
  go_ret
  exact ⟨rfl, by first | exact E.out | exact E.out.drew⟩

set_option maxRecDepth 100000 in
set_option maxHeartbeats 4000000 in
theorem sums_b (x1 x2 x3 y1 y2 y3 by_ o1 o2 o3 er : Int) 
    (H1 : ∀ w, Calls Try.prog 17 #[vv x1 x2 x3, vv y1 y2 y3] w (Ret (.tuple #[vv 0 0 0, .int .i64 2]) w))
    (H2 : ∀ w, Calls Try.prog 18 #[vv x1 x2 x3, vv y1 y2 y3] w (Ret (.tuple #[vv 0 0 0, .int .i64 2]) w))
    (H3 : ∀ w, Calls Try.prog 19 #[vv x1 x2 x3, .int .i64 by_] w (Ret (.tuple #[vv o1 o2 o3, .int .i64 er]) w))
    (V0 : ∀ w, Calls Try.prog 11 #[vv x1 x2 x3] w (Ret (.bool true) w))
    (H4 : ∀ w, Calls Try.prog 20 #[vv x1 x2 x3, .int .i64 by_] w (Ret (.tuple #[vv o1 o2 o3, .int .i64 er]) w))
    (V1 : ∀ w, Calls Try.prog 11 #[vv y1 y2 y3] w (Ret (.bool false) w)) (w : World) :
    Calls Try.prog 4 #[vv x1 x2 x3, vv y1 y2 y3, .int .i64 by_] w (Ret (.bool true) w) := by
  have H1 := Lib.hid H1
  have H2 := Lib.hid H2
  have H3 := Lib.hid H3
  have V0 := Lib.hid V0
  have H4 := Lib.hid H4
  have V1 := Lib.hid V1
  have HK := Lib.hid known_true
  have E := Lib.hid (Below.refl w.heap.size w)
  have BX := Lib.hid (Bxs.nil w)
  have p0 : ∀ w, (binOp .eql 23 (.agg #[.int .i64 0, .int .i64 0, .int .i64 0]) (.agg #[.int .i64 0, .int .i64 0, .int .i64 0])).run Try.prog w = .ok (.bool true) w := fun w => eq_vec w 0 0 0 0 0 0
  have q0 : ∀ w, (binOp .neq 23 (.agg #[.int .i64 o1, .int .i64 o2, .int .i64 o3]) (.agg #[.int .i64 o1, .int .i64 o2, .int .i64 o3])).run Try.prog w = .ok (.bool false) w := fun w => by have := neq_vec w o1 o2 o3 o1 o2 o3; rw [vE_refl] at this; exact this
  go_enter Try.func4, Try.ntmps4
  go_upto_region 1 with (fail)
  obtain ⟨u0, hu⟩ : ∃ u0 : World, u0 = w.alloc (.cells #[.int .i64 x1, .int .i64 x2, .int .i64 x3] 23) := ⟨_, rfl⟩
  have b : Below w.heap.size w u0 := by rw [hu]; exact below_one _ _
  have E := Lib.hid (chain E.out b)
  have BX := Lib.hid (BX.out.cons x1 x2 x3)
  rw [← hu] at BX
  have hs : w.heap.size + 1 = u0.heap.size := by rw [hu]; simp
  rw [← hu]
  rw [hs]
  obtain ⟨ga, hga⟩ : ∃ ga, ga = w.heap.size := ⟨_, rfl⟩
  rw [← hga] at BX ⊢
  clear hu b hga hs
  obtain ⟨u1, hu⟩ : ∃ u1 : World, u1 = u0.alloc (.cells #[.int .i64 y1, .int .i64 y2, .int .i64 y3] 23) := ⟨_, rfl⟩
  have b : Below u0.heap.size u0 u1 := by rw [hu]; exact below_one _ _
  have E := Lib.hid (chain E.out b)
  have BX := Lib.hid (BX.out.cons y1 y2 y3)
  rw [← hu] at BX
  rw [← hu]
  obtain ⟨gb, hgb⟩ : ∃ gb, gb = u0.heap.size := ⟨_, rfl⟩
  rw [← hgb] at BX ⊢
  clear hu b hgb
  obtain ⟨cga0, cga1, cga2⟩ := BX.out (ga, (x1, x2, x3)) (by simp)
  obtain ⟨cgb0, cgb1, cgb2⟩ := BX.out (gb, (y1, y2, y3)) (by simp)
  go_wp2_with fail
  refine (H1.out _).mono ?_
  rintro e y ⟨rfl, b⟩
  have E := Lib.hid (chain E.out b)
  have BX := Lib.hid (BX.out.below b)
  clear b cga0 cga1 cga2 cgb0 cgb1 cgb2
  go_upto_region 2 with (fail)
  obtain ⟨u, hu⟩ : ∃ u : World, u = y.alloc (.cells #[.int .i64 0, .int .i64 0, .int .i64 0] 23) := ⟨_, rfl⟩
  have b : Below y.heap.size y u := by rw [hu]; exact below_one _ _
  have E := Lib.hid (chain E.out b)
  have BX := Lib.hid (BX.out.cons 0 0 0)
  rw [← hu] at BX
  rw [← hu]
  obtain ⟨g0, hg0⟩ : ∃ g0, g0 = y.heap.size := ⟨_, rfl⟩
  rw [← hg0] at BX ⊢
  clear hu b hg0
  obtain ⟨cga0, cga1, cga2⟩ := BX.out (ga, (x1, x2, x3)) (by simp)
  obtain ⟨cgb0, cgb1, cgb2⟩ := BX.out (gb, (y1, y2, y3)) (by simp)
  go_wp2_with fail
  refine (H2.out _).mono ?_
  rintro e y ⟨rfl, b⟩
  have E := Lib.hid (chain E.out b)
  have BX := Lib.hid (BX.out.below b)
  clear b cga0 cga1 cga2 cgb0 cgb1 cgb2
  go_upto_region 3 with (fail)
  obtain ⟨u, hu⟩ : ∃ u : World, u = y.alloc (.cells #[.int .i64 0, .int .i64 0, .int .i64 0] 23) := ⟨_, rfl⟩
  have b : Below y.heap.size y u := by rw [hu]; exact below_one _ _
  have E := Lib.hid (chain E.out b)
  have BX := Lib.hid (BX.out.cons 0 0 0)
  rw [← hu] at BX
  rw [← hu]
  obtain ⟨g1, hg1⟩ : ∃ g1, g1 = y.heap.size := ⟨_, rfl⟩
  rw [← hg1] at BX ⊢
  clear hu b hg1
  obtain ⟨cga0, cga1, cga2⟩ := BX.out (ga, (x1, x2, x3)) (by simp)
  go_wp2_with fail
  refine (H3.out _).mono ?_
  rintro e y ⟨rfl, b⟩
  have E := Lib.hid (chain E.out b)
  have BX := Lib.hid (BX.out.below b)
  clear b cga0 cga1 cga2
  go_upto_region 4 with (fail)
  obtain ⟨u, hu⟩ : ∃ u : World, u = y.alloc (.cells #[.int .i64 o1, .int .i64 o2, .int .i64 o3] 23) := ⟨_, rfl⟩
  have b : Below y.heap.size y u := by rw [hu]; exact below_one _ _
  have E := Lib.hid (chain E.out b)
  have BX := Lib.hid (BX.out.cons o1 o2 o3)
  rw [← hu] at BX
  rw [← hu]
  obtain ⟨g2, hg2⟩ : ∃ g2, g2 = y.heap.size := ⟨_, rfl⟩
  rw [← hg2] at BX ⊢
  clear hu b hg2
  go_upto_region 5 with (fail)
  obtain ⟨u9, hu⟩ : ∃ u9 : World, u9 = u.alloc (.cells #[.int .i64 0, .int .i64 0, .int .i64 0] 23) := ⟨_, rfl⟩
  have b : Below u.heap.size u u9 := by rw [hu]; exact below_one _ _
  have E := Lib.hid (chain E.out b)
  have BX := Lib.hid (BX.out.cons 0 0 0)
  rw [← hu] at BX
  rw [← hu]
  obtain ⟨g3, hg3⟩ : ∃ g3, g3 = u.heap.size := ⟨_, rfl⟩
  rw [← hg3] at BX ⊢
  clear hu b hg3
  obtain ⟨cga0, cga1, cga2⟩ := BX.out (ga, (x1, x2, x3)) (by simp)
  go_wp2_with fail
  refine (V0.out _).mono ?_
  rintro e y ⟨rfl, b⟩
  have E := Lib.hid (chain E.out b)
  have BX := Lib.hid (BX.out.below b)
  clear b cga0 cga1 cga2
  obtain ⟨cga0, cga1, cga2⟩ := BX.out (ga, (x1, x2, x3)) (by simp)
  go_wp2_with fail
  refine (H4.out _).mono ?_
  rintro e y ⟨rfl, b⟩
  have E := Lib.hid (chain E.out b)
  have BX := Lib.hid (BX.out.below b)
  clear b cga0 cga1 cga2
  go_upto_region 8 with (fail)
  obtain ⟨u, hu⟩ : ∃ u : World, u = y.alloc (.cells #[.int .i64 o1, .int .i64 o2, .int .i64 o3] 23) := ⟨_, rfl⟩
  have b : Below y.heap.size y u := by rw [hu]; exact below_one _ _
  have E := Lib.hid (chain E.out b)
  have BX := Lib.hid (BX.out.cons o1 o2 o3)
  rw [← hu] at BX
  rw [← hu]
  obtain ⟨g4, hg4⟩ : ∃ g4, g4 = y.heap.size := ⟨_, rfl⟩
  rw [← hg4] at BX ⊢
  clear hu b hg4
  obtain ⟨cg20, cg21, cg22⟩ := BX.out (g2, (o1, o2, o3)) (by simp)
  obtain ⟨cg40, cg41, cg42⟩ := BX.out (g4, (o1, o2, o3)) (by simp)
  obtain ⟨cgb0, cgb1, cgb2⟩ := BX.out (gb, (y1, y2, y3)) (by simp)
  go_wp2_with fail
  refine (V1.out _).mono ?_
  rintro e y ⟨rfl, b⟩
  have E := Lib.hid (chain E.out b)
  have BX := Lib.hid (BX.out.below b)
  clear b cg20 cg21 cg22 cg40 cg41 cg42 cgb0 cgb1 cgb2
  obtain ⟨cg00, cg01, cg02⟩ := BX.out (g0, (0, 0, 0)) (by simp)
  obtain ⟨cg10, cg11, cg12⟩ := BX.out (g1, (0, 0, 0)) (by simp)
  obtain ⟨cg30, cg31, cg32⟩ := BX.out (g3, (0, 0, 0)) (by simp)
  go_wp2_with fail
  refine (HK.out _).mono ?_
  rintro e y ⟨rfl, b⟩
  have E := Lib.hid (chain E.out b)
  have BX := Lib.hid (BX.out.below b)
  clear b cg00 cg01 cg02 cg10 cg11 cg12 cg30 cg31 cg32
  go_wp2
  go_ret
  exact ⟨rfl, by first | exact E.out | exact E.out.drew⟩

set_option maxRecDepth 100000 in
set_option maxHeartbeats 4000000 in
theorem sums_ok (x1 x2 x3 y1 y2 y3 by_ o1 o2 o3 er p1 p2 p3 e1 q1 q2 q3 e2 s1 s2 s3 t1 t2 t3 : Int) 
    (H1 : ∀ w, Calls Try.prog 17 #[vv x1 x2 x3, vv y1 y2 y3] w (Ret (.tuple #[vv p1 p2 p3, .int .i64 e1]) w))
    (H2 : ∀ w, Calls Try.prog 18 #[vv x1 x2 x3, vv y1 y2 y3] w (Ret (.tuple #[vv q1 q2 q3, .int .i64 e2]) w))
    (H3 : ∀ w, Calls Try.prog 19 #[vv x1 x2 x3, .int .i64 by_] w (Ret (.tuple #[vv o1 o2 o3, .int .i64 er]) w))
    (V0 : ∀ w, Calls Try.prog 11 #[vv x1 x2 x3] w (Ret (.bool true) w))
    (H4 : ∀ w, Calls Try.prog 20 #[vv x1 x2 x3, .int .i64 by_] w (Ret (.tuple #[vv o1 o2 o3, .int .i64 er]) w))
    (V1 : ∀ w, Calls Try.prog 11 #[vv y1 y2 y3] w (Ret (.bool true) w))
    (H5 : ∀ w, Calls Try.prog 22 #[vv x1 x2 x3, vv y1 y2 y3] w (Ret (vv s1 s2 s3) w))
    (H6 : ∀ w, Calls Try.prog 21 #[vv s1 s2 s3] w (Ret (.tuple #[vv p1 p2 p3, .int .i64 e1]) w))
    (H7 : ∀ w, Calls Try.prog 23 #[vv x1 x2 x3, vv y1 y2 y3] w (Ret (vv t1 t2 t3) w))
    (H8 : ∀ w, Calls Try.prog 21 #[vv t1 t2 t3] w (Ret (.tuple #[vv q1 q2 q3, .int .i64 e2]) w)) (w : World) :
    Calls Try.prog 4 #[vv x1 x2 x3, vv y1 y2 y3, .int .i64 by_] w (Ret (.bool true) w) := by
  have H1 := Lib.hid H1
  have H2 := Lib.hid H2
  have H3 := Lib.hid H3
  have V0 := Lib.hid V0
  have H4 := Lib.hid H4
  have V1 := Lib.hid V1
  have H5 := Lib.hid H5
  have H6 := Lib.hid H6
  have H7 := Lib.hid H7
  have H8 := Lib.hid H8
  have HK := Lib.hid known_true
  have E := Lib.hid (Below.refl w.heap.size w)
  have BX := Lib.hid (Bxs.nil w)
  have a0 : ∀ w, (binOp .neq 23 (.agg #[.int .i64 o1, .int .i64 o2, .int .i64 o3]) (.agg #[.int .i64 o1, .int .i64 o2, .int .i64 o3])).run Try.prog w = .ok (.bool false) w := fun w => by have := neq_vec w o1 o2 o3 o1 o2 o3; rw [vE_refl] at this; exact this
  have a1 : ∀ w, (binOp .eql 23 (.agg #[.int .i64 p1, .int .i64 p2, .int .i64 p3]) (.agg #[.int .i64 p1, .int .i64 p2, .int .i64 p3])).run Try.prog w = .ok (.bool true) w := fun w => by have := eq_vec w p1 p2 p3 p1 p2 p3; rw [vE_refl] at this; exact this
  have a2 : ∀ w, (binOp .eql 23 (.agg #[.int .i64 q1, .int .i64 q2, .int .i64 q3]) (.agg #[.int .i64 q1, .int .i64 q2, .int .i64 q3])).run Try.prog w = .ok (.bool true) w := fun w => by have := eq_vec w q1 q2 q3 q1 q2 q3; rw [vE_refl] at this; exact this
  go_enter Try.func4, Try.ntmps4
  go_upto_region 1 with (fail)
  obtain ⟨u0, hu⟩ : ∃ u0 : World, u0 = w.alloc (.cells #[.int .i64 x1, .int .i64 x2, .int .i64 x3] 23) := ⟨_, rfl⟩
  have b : Below w.heap.size w u0 := by rw [hu]; exact below_one _ _
  have E := Lib.hid (chain E.out b)
  have BX := Lib.hid (BX.out.cons x1 x2 x3)
  rw [← hu] at BX
  have hs : w.heap.size + 1 = u0.heap.size := by rw [hu]; simp
  rw [← hu]
  rw [hs]
  obtain ⟨ga, hga⟩ : ∃ ga, ga = w.heap.size := ⟨_, rfl⟩
  rw [← hga] at BX ⊢
  clear hu b hga hs
  obtain ⟨u1, hu⟩ : ∃ u1 : World, u1 = u0.alloc (.cells #[.int .i64 y1, .int .i64 y2, .int .i64 y3] 23) := ⟨_, rfl⟩
  have b : Below u0.heap.size u0 u1 := by rw [hu]; exact below_one _ _
  have E := Lib.hid (chain E.out b)
  have BX := Lib.hid (BX.out.cons y1 y2 y3)
  rw [← hu] at BX
  rw [← hu]
  obtain ⟨gb, hgb⟩ : ∃ gb, gb = u0.heap.size := ⟨_, rfl⟩
  rw [← hgb] at BX ⊢
  clear hu b hgb
  obtain ⟨cga0, cga1, cga2⟩ := BX.out (ga, (x1, x2, x3)) (by simp)
  obtain ⟨cgb0, cgb1, cgb2⟩ := BX.out (gb, (y1, y2, y3)) (by simp)
  go_wp2_with fail
  refine (H1.out _).mono ?_
  rintro e y ⟨rfl, b⟩
  have E := Lib.hid (chain E.out b)
  have BX := Lib.hid (BX.out.below b)
  clear b cga0 cga1 cga2 cgb0 cgb1 cgb2
  go_upto_region 2 with (fail)
  obtain ⟨u, hu⟩ : ∃ u : World, u = y.alloc (.cells #[.int .i64 p1, .int .i64 p2, .int .i64 p3] 23) := ⟨_, rfl⟩
  have b : Below y.heap.size y u := by rw [hu]; exact below_one _ _
  have E := Lib.hid (chain E.out b)
  have BX := Lib.hid (BX.out.cons p1 p2 p3)
  rw [← hu] at BX
  rw [← hu]
  obtain ⟨g0, hg0⟩ : ∃ g0, g0 = y.heap.size := ⟨_, rfl⟩
  rw [← hg0] at BX ⊢
  clear hu b hg0
  obtain ⟨cga0, cga1, cga2⟩ := BX.out (ga, (x1, x2, x3)) (by simp)
  obtain ⟨cgb0, cgb1, cgb2⟩ := BX.out (gb, (y1, y2, y3)) (by simp)
  go_wp2_with fail
  refine (H2.out _).mono ?_
  rintro e y ⟨rfl, b⟩
  have E := Lib.hid (chain E.out b)
  have BX := Lib.hid (BX.out.below b)
  clear b cga0 cga1 cga2 cgb0 cgb1 cgb2
  go_upto_region 3 with (fail)
  obtain ⟨u, hu⟩ : ∃ u : World, u = y.alloc (.cells #[.int .i64 q1, .int .i64 q2, .int .i64 q3] 23) := ⟨_, rfl⟩
  have b : Below y.heap.size y u := by rw [hu]; exact below_one _ _
  have E := Lib.hid (chain E.out b)
  have BX := Lib.hid (BX.out.cons q1 q2 q3)
  rw [← hu] at BX
  rw [← hu]
  obtain ⟨g1, hg1⟩ : ∃ g1, g1 = y.heap.size := ⟨_, rfl⟩
  rw [← hg1] at BX ⊢
  clear hu b hg1
  obtain ⟨cga0, cga1, cga2⟩ := BX.out (ga, (x1, x2, x3)) (by simp)
  go_wp2_with fail
  refine (H3.out _).mono ?_
  rintro e y ⟨rfl, b⟩
  have E := Lib.hid (chain E.out b)
  have BX := Lib.hid (BX.out.below b)
  clear b cga0 cga1 cga2
  go_upto_region 4 with (fail)
  obtain ⟨u, hu⟩ : ∃ u : World, u = y.alloc (.cells #[.int .i64 o1, .int .i64 o2, .int .i64 o3] 23) := ⟨_, rfl⟩
  have b : Below y.heap.size y u := by rw [hu]; exact below_one _ _
  have E := Lib.hid (chain E.out b)
  have BX := Lib.hid (BX.out.cons o1 o2 o3)
  rw [← hu] at BX
  rw [← hu]
  obtain ⟨g2, hg2⟩ : ∃ g2, g2 = y.heap.size := ⟨_, rfl⟩
  rw [← hg2] at BX ⊢
  clear hu b hg2
  go_upto_region 5 with (fail)
  obtain ⟨u9, hu⟩ : ∃ u9 : World, u9 = u.alloc (.cells #[.int .i64 0, .int .i64 0, .int .i64 0] 23) := ⟨_, rfl⟩
  have b : Below u.heap.size u u9 := by rw [hu]; exact below_one _ _
  have E := Lib.hid (chain E.out b)
  have BX := Lib.hid (BX.out.cons 0 0 0)
  rw [← hu] at BX
  rw [← hu]
  obtain ⟨g3, hg3⟩ : ∃ g3, g3 = u.heap.size := ⟨_, rfl⟩
  rw [← hg3] at BX ⊢
  clear hu b hg3
  obtain ⟨cga0, cga1, cga2⟩ := BX.out (ga, (x1, x2, x3)) (by simp)
  go_wp2_with fail
  refine (V0.out _).mono ?_
  rintro e y ⟨rfl, b⟩
  have E := Lib.hid (chain E.out b)
  have BX := Lib.hid (BX.out.below b)
  clear b cga0 cga1 cga2
  obtain ⟨cga0, cga1, cga2⟩ := BX.out (ga, (x1, x2, x3)) (by simp)
  go_wp2_with fail
  refine (H4.out _).mono ?_
  rintro e y ⟨rfl, b⟩
  have E := Lib.hid (chain E.out b)
  have BX := Lib.hid (BX.out.below b)
  clear b cga0 cga1 cga2
  go_upto_region 8 with (fail)
  obtain ⟨u, hu⟩ : ∃ u : World, u = y.alloc (.cells #[.int .i64 o1, .int .i64 o2, .int .i64 o3] 23) := ⟨_, rfl⟩
  have b : Below y.heap.size y u := by rw [hu]; exact below_one _ _
  have E := Lib.hid (chain E.out b)
  have BX := Lib.hid (BX.out.cons o1 o2 o3)
  rw [← hu] at BX
  rw [← hu]
  obtain ⟨g4, hg4⟩ : ∃ g4, g4 = y.heap.size := ⟨_, rfl⟩
  rw [← hg4] at BX ⊢
  clear hu b hg4
  obtain ⟨cg20, cg21, cg22⟩ := BX.out (g2, (o1, o2, o3)) (by simp)
  obtain ⟨cg40, cg41, cg42⟩ := BX.out (g4, (o1, o2, o3)) (by simp)
  obtain ⟨cgb0, cgb1, cgb2⟩ := BX.out (gb, (y1, y2, y3)) (by simp)
  go_wp2_with fail
  refine (V1.out _).mono ?_
  rintro e y ⟨rfl, b⟩
  have E := Lib.hid (chain E.out b)
  have BX := Lib.hid (BX.out.below b)
  clear b cg20 cg21 cg22 cg40 cg41 cg42 cgb0 cgb1 cgb2
  obtain ⟨cga0, cga1, cga2⟩ := BX.out (ga, (x1, x2, x3)) (by simp)
  obtain ⟨cgb0, cgb1, cgb2⟩ := BX.out (gb, (y1, y2, y3)) (by simp)
  go_wp2_with fail
  refine (H5.out _).mono ?_
  rintro e y ⟨rfl, b⟩
  have E := Lib.hid (chain E.out b)
  have BX := Lib.hid (BX.out.below b)
  clear b cga0 cga1 cga2 cgb0 cgb1 cgb2
  go_wp2_with fail
  refine (H6.out _).mono ?_
  rintro e y ⟨rfl, b⟩
  have E := Lib.hid (chain E.out b)
  have BX := Lib.hid (BX.out.below b)
  clear b
  go_upto_region 13 with (fail)
  obtain ⟨u, hu⟩ : ∃ u : World, u = y.alloc (.cells #[.int .i64 p1, .int .i64 p2, .int .i64 p3] 23) := ⟨_, rfl⟩
  have b : Below y.heap.size y u := by rw [hu]; exact below_one _ _
  have E := Lib.hid (chain E.out b)
  have BX := Lib.hid (BX.out.cons p1 p2 p3)
  rw [← hu] at BX
  rw [← hu]
  obtain ⟨g5, hg5⟩ : ∃ g5, g5 = y.heap.size := ⟨_, rfl⟩
  rw [← hg5] at BX ⊢
  clear hu b hg5
  obtain ⟨cga0, cga1, cga2⟩ := BX.out (ga, (x1, x2, x3)) (by simp)
  obtain ⟨cgb0, cgb1, cgb2⟩ := BX.out (gb, (y1, y2, y3)) (by simp)
  go_wp2_with fail
  refine (H7.out _).mono ?_
  rintro e y ⟨rfl, b⟩
  have E := Lib.hid (chain E.out b)
  have BX := Lib.hid (BX.out.below b)
  clear b cga0 cga1 cga2 cgb0 cgb1 cgb2
  go_wp2_with fail
  refine (H8.out _).mono ?_
  rintro e y ⟨rfl, b⟩
  have E := Lib.hid (chain E.out b)
  have BX := Lib.hid (BX.out.below b)
  clear b
  go_upto_region 14 with (fail)
  obtain ⟨u, hu⟩ : ∃ u : World, u = y.alloc (.cells #[.int .i64 q1, .int .i64 q2, .int .i64 q3] 23) := ⟨_, rfl⟩
  have b : Below y.heap.size y u := by rw [hu]; exact below_one _ _
  have E := Lib.hid (chain E.out b)
  have BX := Lib.hid (BX.out.cons q1 q2 q3)
  rw [← hu] at BX
  rw [← hu]
  obtain ⟨g6, hg6⟩ : ∃ g6, g6 = y.heap.size := ⟨_, rfl⟩
  rw [← hg6] at BX ⊢
  clear hu b hg6
  obtain ⟨cg00, cg01, cg02⟩ := BX.out (g0, (p1, p2, p3)) (by simp)
  obtain ⟨cg50, cg51, cg52⟩ := BX.out (g5, (p1, p2, p3)) (by simp)
  obtain ⟨cg10, cg11, cg12⟩ := BX.out (g1, (q1, q2, q3)) (by simp)
  obtain ⟨cg60, cg61, cg62⟩ := BX.out (g6, (q1, q2, q3)) (by simp)
  go_wp2_with fail
  refine (HK.out _).mono ?_
  rintro e y ⟨rfl, b⟩
  have E := Lib.hid (chain E.out b)
  have BX := Lib.hid (BX.out.below b)
  clear b cg00 cg01 cg02 cg50 cg51 cg52 cg10 cg11 cg12 cg60 cg61 cg62
  go_wp2
  go_ret
  exact ⟨rfl, by first | exact E.out | exact E.out.drew⟩
end Go.Proofs.Ytdicbeaocedkmaa
