/- vector.checked, difference, products, dot, cross, nearest, and what Between does with each part. -/
import Derived.Test.YtdicbeaocedkmaaVd
set_option linter.all false
namespace Go.Proofs.Ytdicbeaocedkmaa
open Go.RowKit

set_option maxRecDepth 100000 in
set_option maxHeartbeats 4000000 in
theorem checked_ok (x y z : Int) (h : inV 16777216 x y z = true) (w : World) :
    Calls Try.prog 44 #[vv x y z] w (Ret (.tuple #[vv x y z, .int .i64 0]) w) := by
  have HV := Lib.hid (fun w => Valid_any x y z w)
  rw [h] at HV
  go_enter Try.func44, Try.ntmps44
  go_wp2_with fail
  obtain ⟨w0, hw0⟩ : ∃ w0 : World, w0 = (w.alloc (.cells #[.int .i64 x, .int .i64 y, .int .i64 z] 23)).alloc (.cells #[.int .i64 0, .int .i64 0, .int .i64 0] 23) := ⟨_, rfl⟩
  have hb0 : Hid (Below w.heap.size w w0) := by rw [hw0]; exact (below_one w _).alloc (by simp) _
  have hv0 : Hid (V3 w0 w.heap.size x y z) := by rw [hw0]; exact ⟨by simp [go_sem], by simp [go_sem], by simp [go_sem]⟩
  have hv1 : Hid (V3 w0 (w.heap.size + 1) 0 0 0) := by rw [hw0]; exact ⟨by simp [go_sem], by simp [go_sem], by simp [go_sem]⟩
  have f10 : w0.frozen? ⟨w.heap.size + 1, 0, none⟩ = false := by rw [hw0]; simp [go_sem]
  have f11 : w0.frozen? ⟨w.heap.size + 1, 1, none⟩ = false := by rw [hw0]; simp [go_sem]
  have f12 : w0.frozen? ⟨w.heap.size + 1, 2, none⟩ = false := by rw [hw0]; simp [go_sem]
  rw [← hw0]
  have hsz : w0.heap.size = w.heap.size + 2 := by rw [hw0]; simp
  have Hsz := Lib.hid hsz
  clear hw0 hsz
  refine (HV.out _).mono ?_
  rintro e wa ⟨rfl, ba⟩
  obtain ⟨c00, c01, c02⟩ := hv0.out.below ba
  obtain ⟨c10, c11, c12⟩ := hv1.out.below ba
  have g0 := keepf ba hv1.out.1 f10
  have g1 := keepf ba hv1.out.2.1 f11
  have g2 := keepf ba hv1.out.2.2 f12
  have HB := Lib.hid (chain hb0.out ba)
  clear ba f10 f11 f12
  have HZ := Lib.hid (((HB.out.setCell (p := ⟨w.heap.size + 1, 0, none⟩) (by simp) (.int .i64 x)).setCell (p := ⟨w.heap.size + 1, 1, none⟩) (by simp) (.int .i64 y)).setCell (p := ⟨w.heap.size + 1, 2, none⟩) (by simp) (.int .i64 z))
  go_wp2
  exact bodyPost_ret (v := .tuple #[vv x y z, .int .i64 0]) (by simp [results, Try.results44, go_sem, c10, c11, c12]) rfl ⟨rfl, HZ.out⟩

set_option maxRecDepth 100000 in
set_option maxHeartbeats 4000000 in
theorem checked_bad (x y z : Int) (h : inV 16777216 x y z = false) (w : World) :
    Calls Try.prog 44 #[vv x y z] w (Ret (.tuple #[vv 0 0 0, .int .i64 3]) w) := by
  have HV := Lib.hid (fun w => Valid_any x y z w)
  rw [h] at HV
  go_enter Try.func44, Try.ntmps44
  go_wp2_with fail
  obtain ⟨w0, hw0⟩ : ∃ w0 : World, w0 = (w.alloc (.cells #[.int .i64 x, .int .i64 y, .int .i64 z] 23)).alloc (.cells #[.int .i64 0, .int .i64 0, .int .i64 0] 23) := ⟨_, rfl⟩
  have hb0 : Hid (Below w.heap.size w w0) := by rw [hw0]; exact (below_one w _).alloc (by simp) _
  have hv0 : Hid (V3 w0 w.heap.size x y z) := by rw [hw0]; exact ⟨by simp [go_sem], by simp [go_sem], by simp [go_sem]⟩
  have hv1 : Hid (V3 w0 (w.heap.size + 1) 0 0 0) := by rw [hw0]; exact ⟨by simp [go_sem], by simp [go_sem], by simp [go_sem]⟩
  have f10 : w0.frozen? ⟨w.heap.size + 1, 0, none⟩ = false := by rw [hw0]; simp [go_sem]
  have f11 : w0.frozen? ⟨w.heap.size + 1, 1, none⟩ = false := by rw [hw0]; simp [go_sem]
  have f12 : w0.frozen? ⟨w.heap.size + 1, 2, none⟩ = false := by rw [hw0]; simp [go_sem]
  rw [← hw0]
  have hsz : w0.heap.size = w.heap.size + 2 := by rw [hw0]; simp
  have Hsz := Lib.hid hsz
  clear hw0 hsz
  refine (HV.out _).mono ?_
  rintro e wa ⟨rfl, ba⟩
  obtain ⟨c00, c01, c02⟩ := hv0.out.below ba
  obtain ⟨c10, c11, c12⟩ := hv1.out.below ba
  have g0 := keepf ba hv1.out.1 f10
  have g1 := keepf ba hv1.out.2.1 f11
  have g2 := keepf ba hv1.out.2.2 f12
  have HB := Lib.hid (chain hb0.out ba)
  clear ba f10 f11 f12
  have HZ := Lib.hid (((HB.out.setCell (p := ⟨w.heap.size + 1, 0, none⟩) (by simp) (.int .i64 0)).setCell (p := ⟨w.heap.size + 1, 1, none⟩) (by simp) (.int .i64 0)).setCell (p := ⟨w.heap.size + 1, 2, none⟩) (by simp) (.int .i64 0))
  go_wp2
  exact bodyPost_ret (v := .tuple #[vv 0 0 0, .int .i64 3]) (by simp [results, Try.results44, go_sem, c10, c11, c12]) rfl ⟨rfl, HZ.out⟩

set_option maxRecDepth 100000 in
set_option maxHeartbeats 4000000 in
theorem difference_any (x1 x2 x3 y1 y2 y3 r1 r2 r3 : Int) (h1 : IntKind.i64.wrap (x1 - y1) = r1) (h2 : IntKind.i64.wrap (x2 - y2) = r2) (h3 : IntKind.i64.wrap (x3 - y3) = r3) (w : World) :
    Calls Try.prog 47 #[vv x1 x2 x3, vv y1 y2 y3] w (Ret (vv r1 r2 r3) w) := by
  have HC := Lib.hid (fun w => combine_sub x1 x2 x3 y1 y2 y3 r1 r2 r3 w (sub1_any _ _ _ h1) (sub1_any _ _ _ h2) (sub1_any _ _ _ h3))
  clear h1 h2 h3
  go_enter Try.func47, Try.ntmps47
  go_wp2_with fail
  obtain ⟨w0, hw0⟩ : ∃ w0 : World, w0 = ((w.alloc (.cells #[.int .i64 x1, .int .i64 x2, .int .i64 x3] 23)).alloc (.cells #[.int .i64 y1, .int .i64 y2, .int .i64 y3] 23)).alloc (.cells #[.int .i64 0, .int .i64 0, .int .i64 0] 23) := ⟨_, rfl⟩
  have hb0 : Hid (Below w.heap.size w w0) := by rw [hw0]; exact ((below_one w _).alloc (by simp) _).alloc (by simp; omega) _
  have hv0 : Hid (V3 w0 w.heap.size x1 x2 x3) := by rw [hw0]; exact ⟨by simp [go_sem], by simp [go_sem], by simp [go_sem]⟩
  have hv1 : Hid (V3 w0 (w.heap.size + 1) y1 y2 y3) := by rw [hw0]; exact ⟨by simp [go_sem], by simp [go_sem], by simp [go_sem]⟩
  have hv2 : Hid (V3 w0 (w.heap.size + 1 + 1) 0 0 0) := by rw [hw0]; exact ⟨by simp [go_sem], by simp [go_sem], by simp [go_sem]⟩
  have f20 : w0.frozen? ⟨w.heap.size + 1 + 1, 0, none⟩ = false := by rw [hw0]; simp [go_sem]
  have f21 : w0.frozen? ⟨w.heap.size + 1 + 1, 1, none⟩ = false := by rw [hw0]; simp [go_sem]
  have f22 : w0.frozen? ⟨w.heap.size + 1 + 1, 2, none⟩ = false := by rw [hw0]; simp [go_sem]
  rw [← hw0]
  have hsz : w0.heap.size = w.heap.size + 3 := by rw [hw0]; simp
  have Hsz := Lib.hid hsz
  clear hw0 hsz
  refine (HC.out _).mono ?_
  rintro e wa ⟨rfl, ba⟩
  obtain ⟨c20, c21, c22⟩ := hv2.out.below ba
  have g0 := keepf ba hv2.out.1 f20
  have g1 := keepf ba hv2.out.2.1 f21
  have g2 := keepf ba hv2.out.2.2 f22
  have HB := Lib.hid (chain hb0.out ba)
  clear ba f20 f21 f22
  have HZ := Lib.hid (((HB.out.setCell (p := ⟨w.heap.size + 1 + 1, 0, none⟩) (by simp; omega) (.int .i64 r1)).setCell (p := ⟨w.heap.size + 1 + 1, 1, none⟩) (by simp; omega) (.int .i64 r2)).setCell (p := ⟨w.heap.size + 1 + 1, 2, none⟩) (by simp; omega) (.int .i64 r3))
  go_wp2
  exact bodyPost_ret (v := vv r1 r2 r3) (by simp [results, Try.results47, go_sem, c20, c21, c22]) rfl ⟨rfl, HZ.out⟩

set_option maxRecDepth 100000 in
set_option maxHeartbeats 4000000 in
theorem products_any (x1 x2 x3 y1 y2 y3 r1 r2 r3 : Int) (h1 : IntKind.i64.wrap (x1 * y1) = r1) (h2 : IntKind.i64.wrap (x2 * y2) = r2) (h3 : IntKind.i64.wrap (x3 * y3) = r3) (w : World) :
    Calls Try.prog 48 #[vv x1 x2 x3, vv y1 y2 y3] w (Ret (vv r1 r2 r3) w) := by
  have HC := Lib.hid (fun w => combine_mul x1 x2 x3 y1 y2 y3 r1 r2 r3 w (mul1_any _ _ _ h1) (mul1_any _ _ _ h2) (mul1_any _ _ _ h3))
  clear h1 h2 h3
  go_enter Try.func48, Try.ntmps48
  go_wp2_with fail
  obtain ⟨w0, hw0⟩ : ∃ w0 : World, w0 = ((w.alloc (.cells #[.int .i64 x1, .int .i64 x2, .int .i64 x3] 23)).alloc (.cells #[.int .i64 y1, .int .i64 y2, .int .i64 y3] 23)).alloc (.cells #[.int .i64 0, .int .i64 0, .int .i64 0] 23) := ⟨_, rfl⟩
  have hb0 : Hid (Below w.heap.size w w0) := by rw [hw0]; exact ((below_one w _).alloc (by simp) _).alloc (by simp; omega) _
  have hv0 : Hid (V3 w0 w.heap.size x1 x2 x3) := by rw [hw0]; exact ⟨by simp [go_sem], by simp [go_sem], by simp [go_sem]⟩
  have hv1 : Hid (V3 w0 (w.heap.size + 1) y1 y2 y3) := by rw [hw0]; exact ⟨by simp [go_sem], by simp [go_sem], by simp [go_sem]⟩
  have hv2 : Hid (V3 w0 (w.heap.size + 1 + 1) 0 0 0) := by rw [hw0]; exact ⟨by simp [go_sem], by simp [go_sem], by simp [go_sem]⟩
  have f20 : w0.frozen? ⟨w.heap.size + 1 + 1, 0, none⟩ = false := by rw [hw0]; simp [go_sem]
  have f21 : w0.frozen? ⟨w.heap.size + 1 + 1, 1, none⟩ = false := by rw [hw0]; simp [go_sem]
  have f22 : w0.frozen? ⟨w.heap.size + 1 + 1, 2, none⟩ = false := by rw [hw0]; simp [go_sem]
  rw [← hw0]
  have hsz : w0.heap.size = w.heap.size + 3 := by rw [hw0]; simp
  have Hsz := Lib.hid hsz
  clear hw0 hsz
  refine (HC.out _).mono ?_
  rintro e wa ⟨rfl, ba⟩
  obtain ⟨c20, c21, c22⟩ := hv2.out.below ba
  have g0 := keepf ba hv2.out.1 f20
  have g1 := keepf ba hv2.out.2.1 f21
  have g2 := keepf ba hv2.out.2.2 f22
  have HB := Lib.hid (chain hb0.out ba)
  clear ba f20 f21 f22
  have HZ := Lib.hid (((HB.out.setCell (p := ⟨w.heap.size + 1 + 1, 0, none⟩) (by simp; omega) (.int .i64 r1)).setCell (p := ⟨w.heap.size + 1 + 1, 1, none⟩) (by simp; omega) (.int .i64 r2)).setCell (p := ⟨w.heap.size + 1 + 1, 2, none⟩) (by simp; omega) (.int .i64 r3))
  go_wp2
  exact bodyPost_ret (v := vv r1 r2 r3) (by simp [results, Try.results48, go_sem, c20, c21, c22]) rfl ⟨rfl, HZ.out⟩

set_option maxRecDepth 100000 in
set_option maxHeartbeats 4000000 in
theorem dot_any (x1 x2 x3 y1 y2 y3 r1 r2 r3 s t : Int) (h1 : IntKind.i64.wrap (x1 * y1) = r1) (h2 : IntKind.i64.wrap (x2 * y2) = r2) (h3 : IntKind.i64.wrap (x3 * y3) = r3) (h4 : IntKind.i64.wrap (r1 + r2) = s) (h5 : IntKind.i64.wrap (s + r3) = t) (w : World) :
    Calls Try.prog 50 #[vv x1 x2 x3, vv y1 y2 y3] w (Ret (.int .i64 t) w) := by
  have HC := Lib.hid (fun w => products_any x1 x2 x3 y1 y2 y3 r1 r2 r3 h1 h2 h3 w)
  clear h1 h2 h3
  go_enter Try.func50, Try.ntmps50
  go_wp2_with fail
  obtain ⟨w0, hw0⟩ : ∃ w0 : World, w0 = (w.alloc (.cells #[.int .i64 x1, .int .i64 x2, .int .i64 x3] 23)).alloc (.cells #[.int .i64 y1, .int .i64 y2, .int .i64 y3] 23) := ⟨_, rfl⟩
  have hb0 : Hid (Below w.heap.size w w0) := by rw [hw0]; exact (below_one w _).alloc (by simp) _
  have hv0 : Hid (V3 w0 w.heap.size x1 x2 x3) := by rw [hw0]; exact ⟨by simp [go_sem], by simp [go_sem], by simp [go_sem]⟩
  have hv1 : Hid (V3 w0 (w.heap.size + 1) y1 y2 y3) := by rw [hw0]; exact ⟨by simp [go_sem], by simp [go_sem], by simp [go_sem]⟩
  rw [← hw0]
  have hsz : w0.heap.size = w.heap.size + 2 := by rw [hw0]; simp
  have Hsz := Lib.hid hsz
  clear hw0 hsz
  refine (HC.out _).mono ?_
  rintro e wa ⟨rfl, ba⟩
  have HB := Lib.hid (chain hb0.out ba)
  clear ba
  have HZ := Lib.hid (chain HB.out (below_one wa (.cells #[.int .i64 r1, .int .i64 r2, .int .i64 r3] 23)))
  go_wp2
  go_ret
  exact ⟨rfl, HZ.out⟩

set_option maxRecDepth 100000 in
set_option maxHeartbeats 4000000 in
theorem cross_any (x1 x2 x3 y1 y2 y3 a1 a2 b1 b2 c1 c2 r1 r2 r3 : Int) (h1 : IntKind.i64.wrap (x2 * y3) = a1) (h2 : IntKind.i64.wrap (x3 * y2) = a2) (h3 : IntKind.i64.wrap (x3 * y1) = b1) (h4 : IntKind.i64.wrap (x1 * y3) = b2) (h5 : IntKind.i64.wrap (x1 * y2) = c1) (h6 : IntKind.i64.wrap (x2 * y1) = c2)
    (h7 : IntKind.i64.wrap (a1 - a2) = r1) (h8 : IntKind.i64.wrap (b1 - b2) = r2) (h9 : IntKind.i64.wrap (c1 - c2) = r3) (w : World) :
    Calls Try.prog 51 #[vv x1 x2 x3, vv y1 y2 y3] w (Ret (vv r1 r2 r3) w) := by
  go_enter Try.func51, Try.ntmps51
  go_upto_region 1 with (fail)
  obtain ⟨w0, hw0⟩ : ∃ w0 : World, w0 = ((w.alloc (.cells #[.int .i64 x1, .int .i64 x2, .int .i64 x3] 23)).alloc (.cells #[.int .i64 y1, .int .i64 y2, .int .i64 y3] 23)).alloc (.cells #[.int .i64 0, .int .i64 0, .int .i64 0] 23) := ⟨_, rfl⟩
  have hb0 : Hid (Below w.heap.size w w0) := by rw [hw0]; exact ((below_one w _).alloc (by simp) _).alloc (by simp; omega) _
  have hv0 : Hid (V3 w0 w.heap.size x1 x2 x3) := by rw [hw0]; exact ⟨by simp [go_sem], by simp [go_sem], by simp [go_sem]⟩
  have hv1 : Hid (V3 w0 (w.heap.size + 1) y1 y2 y3) := by rw [hw0]; exact ⟨by simp [go_sem], by simp [go_sem], by simp [go_sem]⟩
  have hv2 : Hid (V3 w0 (w.heap.size + 1 + 1) 0 0 0) := by rw [hw0]; exact ⟨by simp [go_sem], by simp [go_sem], by simp [go_sem]⟩
  have f20 : w0.frozen? ⟨w.heap.size + 1 + 1, 0, none⟩ = false := by rw [hw0]; simp [go_sem]
  have f21 : w0.frozen? ⟨w.heap.size + 1 + 1, 1, none⟩ = false := by rw [hw0]; simp [go_sem]
  have f22 : w0.frozen? ⟨w.heap.size + 1 + 1, 2, none⟩ = false := by rw [hw0]; simp [go_sem]
  rw [← hw0]
  have hsz : w0.heap.size = w.heap.size + 3 := by rw [hw0]; simp
  have Hsz := Lib.hid hsz
  clear hw0 hsz
  obtain ⟨c00, c01, c02⟩ := hv0.out
  obtain ⟨c10, c11, c12⟩ := hv1.out
  obtain ⟨c20, c21, c22⟩ := hv2.out
  have n02 : ¬ (w.heap.size = w.heap.size + 1 + 1) := by omega
  have n20 : ¬ (w.heap.size + 1 + 1 = w.heap.size) := by omega
  have n12 : ¬ (w.heap.size + 1 = w.heap.size + 1 + 1) := by omega
  have n21 : ¬ (w.heap.size + 1 + 1 = w.heap.size + 1) := by omega
  have HZ := Lib.hid (((hb0.out.setCell (p := ⟨w.heap.size + 1 + 1, 0, none⟩) (by simp; omega) (.int .i64 r1)).setCell (p := ⟨w.heap.size + 1 + 1, 1, none⟩) (by simp; omega) (.int .i64 r2)).setCell (p := ⟨w.heap.size + 1 + 1, 2, none⟩) (by simp; omega) (.int .i64 r3))
  go_wp2
  exact bodyPost_ret (v := vv r1 r2 r3) (by simp [results, Try.results51, go_sem, c20, c21, c22]) rfl ⟨rfl, HZ.out⟩
end Go.Proofs.Ytdicbeaocedkmaa
