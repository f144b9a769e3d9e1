/- The reference's Scale. -/
import Derived.Test.YtdicbeaocedkmaaVn
import Derived.Test.YtdicbeaocedkmaaVs
set_option linter.all false
namespace Go.Proofs.Ytdicbeaocedkmaa
open Go.RowKit

set_option maxRecDepth 100000 in
set_option maxHeartbeats 4000000 in
theorem rScale_zero (x1 x2 x3 by_ r1 r2 r3 : Int) (hE : vE x1 x2 x3 0 0 0 = true) (w : World) :
    Calls Try.prog 20 #[vv x1 x2 x3, .int .i64 by_] w (Ret (.tuple #[vv x1 x2 x3, .int .i64 0]) w) := by
  have qE : ∀ w, (binOp .eql 23 (.agg #[.int .i64 x1, .int .i64 x2, .int .i64 x3]) (.agg #[.int .i64 0, .int .i64 0, .int .i64 0])).run Try.prog w = .ok (.bool true) w := fun w => by rw [← hE]; exact eq_vec w x1 x2 x3 0 0 0
  clear hE
  go_enter Try.func20, Try.ntmps20
  go_upto_region 1 with (fail)
  obtain ⟨w0, hw0⟩ : ∃ w0 : World, w0 = (w.alloc (.cells #[.int .i64 x1, .int .i64 x2, .int .i64 x3] 23)).alloc (.cells #[.int .i64 0, .int .i64 0, .int .i64 0] 23) := ⟨_, rfl⟩
  have hb0 : Hid (Below w.heap.size w w0) := by rw [hw0]; exact (below_one w _).alloc (by simp) _
  have hv0 : Hid (V3 w0 w.heap.size x1 x2 x3) := by rw [hw0]; exact ⟨by simp [go_sem], by simp [go_sem], by simp [go_sem]⟩
  have hv1 : Hid (V3 w0 (w.heap.size + 1) 0 0 0) := by rw [hw0]; exact ⟨by simp [go_sem], by simp [go_sem], by simp [go_sem]⟩
  have f10 : w0.frozen? ⟨w.heap.size + 1, 0, none⟩ = false := by rw [hw0]; simp [go_sem]
  have f11 : w0.frozen? ⟨w.heap.size + 1, 1, none⟩ = false := by rw [hw0]; simp [go_sem]
  have f12 : w0.frozen? ⟨w.heap.size + 1, 2, none⟩ = false := by rw [hw0]; simp [go_sem]
  have F1 := Lib.hid (And.intro f10 (And.intro f11 f12))
  clear f10 f11 f12
  rw [← hw0]
  clear hw0
  obtain ⟨k00, k01, k02⟩ := hv0.out.below (Below.refl _ _)
  obtain ⟨k10, k11, k12⟩ := hv1.out.below (Below.refl _ _)
  have g10 := keepf (Below.refl _ _) hv1.out.1 F1.out.1
  have g11 := keepf (Below.refl _ _) hv1.out.2.1 F1.out.2.1
  have g12 := keepf (Below.refl _ _) hv1.out.2.2 F1.out.2.2
  have n01 : ¬ (w.heap.size = w.heap.size + 1) := by omega
  have n10 : ¬ (w.heap.size + 1 = w.heap.size) := by omega
  have HZ := Lib.hid (((hb0.out.setCell (p := ⟨w.heap.size + 1, 0, none⟩) (by simp) (.int .i64 x1)).setCell (p := ⟨w.heap.size + 1, 1, none⟩) (by simp) (.int .i64 x2)).setCell (p := ⟨w.heap.size + 1, 2, none⟩) (by simp) (.int .i64 x3))
  go_wp2
  exact bodyPost_ret (v := .tuple #[vv x1 x2 x3, .int .i64 0]) (by simp [results, Try.results20, go_sem, k10, k11, k12]) rfl ⟨rfl, HZ.out⟩

set_option maxRecDepth 100000 in
set_option maxHeartbeats 4000000 in
theorem rScale_hi (x1 x2 x3 by_ r1 r2 r3 : Int) (hE : vE x1 x2 x3 0 0 0 = false) (h : 16777216 < by_) (w : World) :
    Calls Try.prog 20 #[vv x1 x2 x3, .int .i64 by_] w (Ret (.tuple #[vv 0 0 0, .int .i64 3]) w) := by
  have qE : ∀ w, (binOp .eql 23 (.agg #[.int .i64 x1, .int .i64 x2, .int .i64 x3]) (.agg #[.int .i64 0, .int .i64 0, .int .i64 0])).run Try.prog w = .ok (.bool false) w := fun w => by rw [← hE]; exact eq_vec w x1 x2 x3 0 0 0
  clear hE
  go_enter Try.func20, Try.ntmps20
  go_upto_region 1 with (fail)
  obtain ⟨w0, hw0⟩ : ∃ w0 : World, w0 = (w.alloc (.cells #[.int .i64 x1, .int .i64 x2, .int .i64 x3] 23)).alloc (.cells #[.int .i64 0, .int .i64 0, .int .i64 0] 23) := ⟨_, rfl⟩
  have hb0 : Hid (Below w.heap.size w w0) := by rw [hw0]; exact (below_one w _).alloc (by simp) _
  have hv0 : Hid (V3 w0 w.heap.size x1 x2 x3) := by rw [hw0]; exact ⟨by simp [go_sem], by simp [go_sem], by simp [go_sem]⟩
  have hv1 : Hid (V3 w0 (w.heap.size + 1) 0 0 0) := by rw [hw0]; exact ⟨by simp [go_sem], by simp [go_sem], by simp [go_sem]⟩
  have f10 : w0.frozen? ⟨w.heap.size + 1, 0, none⟩ = false := by rw [hw0]; simp [go_sem]
  have f11 : w0.frozen? ⟨w.heap.size + 1, 1, none⟩ = false := by rw [hw0]; simp [go_sem]
  have f12 : w0.frozen? ⟨w.heap.size + 1, 2, none⟩ = false := by rw [hw0]; simp [go_sem]
  have F1 := Lib.hid (And.intro f10 (And.intro f11 f12))
  clear f10 f11 f12
  rw [← hw0]
  clear hw0
  obtain ⟨k00, k01, k02⟩ := hv0.out.below (Below.refl _ _)
  obtain ⟨k10, k11, k12⟩ := hv1.out.below (Below.refl _ _)
  have g10 := keepf (Below.refl _ _) hv1.out.1 F1.out.1
  have g11 := keepf (Below.refl _ _) hv1.out.2.1 F1.out.2.1
  have g12 := keepf (Below.refl _ _) hv1.out.2.2 F1.out.2.2
  have n01 : ¬ (w.heap.size = w.heap.size + 1) := by omega
  have n10 : ¬ (w.heap.size + 1 = w.heap.size) := by omega
  have HZ := Lib.hid (((hb0.out.setCell (p := ⟨w.heap.size + 1, 0, none⟩) (by simp) (.int .i64 0)).setCell (p := ⟨w.heap.size + 1, 1, none⟩) (by simp) (.int .i64 0)).setCell (p := ⟨w.heap.size + 1, 2, none⟩) (by simp) (.int .i64 0))
  go_wp2
  exact bodyPost_ret (v := .tuple #[vv 0 0 0, .int .i64 3]) (by simp [results, Try.results20, go_sem, k10, k11, k12]) rfl ⟨rfl, HZ.out⟩

set_option maxRecDepth 100000 in
set_option maxHeartbeats 4000000 in
theorem rScale_lo (x1 x2 x3 by_ r1 r2 r3 : Int) (hE : vE x1 x2 x3 0 0 0 = false) (h : ¬ 16777216 < by_) (h2 : by_ < -16777216) (w : World) :
    Calls Try.prog 20 #[vv x1 x2 x3, .int .i64 by_] w (Ret (.tuple #[vv 0 0 0, .int .i64 3]) w) := by
  have qE : ∀ w, (binOp .eql 23 (.agg #[.int .i64 x1, .int .i64 x2, .int .i64 x3]) (.agg #[.int .i64 0, .int .i64 0, .int .i64 0])).run Try.prog w = .ok (.bool false) w := fun w => by rw [← hE]; exact eq_vec w x1 x2 x3 0 0 0
  clear hE
  go_enter Try.func20, Try.ntmps20
  go_upto_region 1 with (fail)
  obtain ⟨w0, hw0⟩ : ∃ w0 : World, w0 = (w.alloc (.cells #[.int .i64 x1, .int .i64 x2, .int .i64 x3] 23)).alloc (.cells #[.int .i64 0, .int .i64 0, .int .i64 0] 23) := ⟨_, rfl⟩
  have hb0 : Hid (Below w.heap.size w w0) := by rw [hw0]; exact (below_one w _).alloc (by simp) _
  have hv0 : Hid (V3 w0 w.heap.size x1 x2 x3) := by rw [hw0]; exact ⟨by simp [go_sem], by simp [go_sem], by simp [go_sem]⟩
  have hv1 : Hid (V3 w0 (w.heap.size + 1) 0 0 0) := by rw [hw0]; exact ⟨by simp [go_sem], by simp [go_sem], by simp [go_sem]⟩
  have f10 : w0.frozen? ⟨w.heap.size + 1, 0, none⟩ = false := by rw [hw0]; simp [go_sem]
  have f11 : w0.frozen? ⟨w.heap.size + 1, 1, none⟩ = false := by rw [hw0]; simp [go_sem]
  have f12 : w0.frozen? ⟨w.heap.size + 1, 2, none⟩ = false := by rw [hw0]; simp [go_sem]
  have F1 := Lib.hid (And.intro f10 (And.intro f11 f12))
  clear f10 f11 f12
  rw [← hw0]
  clear hw0
  obtain ⟨k00, k01, k02⟩ := hv0.out.below (Below.refl _ _)
  obtain ⟨k10, k11, k12⟩ := hv1.out.below (Below.refl _ _)
  have g10 := keepf (Below.refl _ _) hv1.out.1 F1.out.1
  have g11 := keepf (Below.refl _ _) hv1.out.2.1 F1.out.2.1
  have g12 := keepf (Below.refl _ _) hv1.out.2.2 F1.out.2.2
  have n01 : ¬ (w.heap.size = w.heap.size + 1) := by omega
  have n10 : ¬ (w.heap.size + 1 = w.heap.size) := by omega
  have HZ := Lib.hid (((hb0.out.setCell (p := ⟨w.heap.size + 1, 0, none⟩) (by simp) (.int .i64 0)).setCell (p := ⟨w.heap.size + 1, 1, none⟩) (by simp) (.int .i64 0)).setCell (p := ⟨w.heap.size + 1, 2, none⟩) (by simp) (.int .i64 0))
  go_wp2
  exact bodyPost_ret (v := .tuple #[vv 0 0 0, .int .i64 3]) (by simp [results, Try.results20, go_sem, k10, k11, k12]) rfl ⟨rfl, HZ.out⟩

set_option maxRecDepth 100000 in
set_option maxHeartbeats 4000000 in
theorem rScale_bad (x1 x2 x3 by_ r1 r2 r3 : Int) (hE : vE x1 x2 x3 0 0 0 = false) (h : ¬ 16777216 < by_) (h2 : ¬ by_ < -16777216) (h1 : IntKind.i64.wrap (x1 * by_) = r1) (h3 : IntKind.i64.wrap (x2 * by_) = r2) (h4 : IntKind.i64.wrap (x3 * by_) = r3) (hV : inV 16777216 r1 r2 r3 = false) (w : World) :
    Calls Try.prog 20 #[vv x1 x2 x3, .int .i64 by_] w (Ret (.tuple #[vv 0 0 0, .int .i64 3]) w) := by
  have qE : ∀ w, (binOp .eql 23 (.agg #[.int .i64 x1, .int .i64 x2, .int .i64 x3]) (.agg #[.int .i64 0, .int .i64 0, .int .i64 0])).run Try.prog w = .ok (.bool false) w := fun w => by rw [← hE]; exact eq_vec w x1 x2 x3 0 0 0
  clear hE
  have HV := Lib.hid (fun w => rValid_any r1 r2 r3 w)
  rw [hV] at HV
  go_enter Try.func20, Try.ntmps20
  go_upto_region 1 with (fail)
  obtain ⟨w0, hw0⟩ : ∃ w0 : World, w0 = (w.alloc (.cells #[.int .i64 x1, .int .i64 x2, .int .i64 x3] 23)).alloc (.cells #[.int .i64 0, .int .i64 0, .int .i64 0] 23) := ⟨_, rfl⟩
  have hb0 : Hid (Below w.heap.size w w0) := by rw [hw0]; exact (below_one w _).alloc (by simp) _
  have hv0 : Hid (V3 w0 w.heap.size x1 x2 x3) := by rw [hw0]; exact ⟨by simp [go_sem], by simp [go_sem], by simp [go_sem]⟩
  have hv1 : Hid (V3 w0 (w.heap.size + 1) 0 0 0) := by rw [hw0]; exact ⟨by simp [go_sem], by simp [go_sem], by simp [go_sem]⟩
  have f10 : w0.frozen? ⟨w.heap.size + 1, 0, none⟩ = false := by rw [hw0]; simp [go_sem]
  have f11 : w0.frozen? ⟨w.heap.size + 1, 1, none⟩ = false := by rw [hw0]; simp [go_sem]
  have f12 : w0.frozen? ⟨w.heap.size + 1, 2, none⟩ = false := by rw [hw0]; simp [go_sem]
  have F1 := Lib.hid (And.intro f10 (And.intro f11 f12))
  clear f10 f11 f12
  rw [← hw0]
  clear hw0
  obtain ⟨k00, k01, k02⟩ := hv0.out.below (Below.refl _ _)
  obtain ⟨k10, k11, k12⟩ := hv1.out.below (Below.refl _ _)
  have g10 := keepf (Below.refl _ _) hv1.out.1 F1.out.1
  have g11 := keepf (Below.refl _ _) hv1.out.2.1 F1.out.2.1
  have g12 := keepf (Below.refl _ _) hv1.out.2.2 F1.out.2.2
  have n01 : ¬ (w.heap.size = w.heap.size + 1) := by omega
  have n10 : ¬ (w.heap.size + 1 = w.heap.size) := by omega
  go_upto_region 6 with (fail)
  obtain ⟨w1, hw1⟩ : ∃ w1 : World, w1 = w0.alloc (.cells #[.int .i64 r1, .int .i64 r2, .int .i64 r3] 23) := ⟨_, rfl⟩
  have b1 : Below w0.heap.size w0 w1 := by rw [hw1]; exact below_one _ _
  have hv2 : Hid (V3 w1 w0.heap.size r1 r2 r3) := by rw [hw1]; exact ⟨by simp [go_sem], by simp [go_sem], by simp [go_sem]⟩
  rw [← hw1]
  clear hw1 k00 k01 k02 k10 k11 k12 g10 g11 g12
  have C1 := Lib.hid b1
  obtain ⟨k20, k21, k22⟩ := hv2.out
  clear b1
  go_wp2_with fail
  refine (HV.out _).mono ?_
  rintro e w2 ⟨rfl, b2⟩
  clear k20 k21 k22
  obtain ⟨k20, k21, k22⟩ := hv2.out.below b2
  have C2 := Lib.hid (chain C1.out b2)
  clear b2
  obtain ⟨k10, k11, k12⟩ := hv1.out.below C2.out
  have g10 := keepf C2.out hv1.out.1 F1.out.1
  have g11 := keepf C2.out hv1.out.2.1 F1.out.2.1
  have g12 := keepf C2.out hv1.out.2.2 F1.out.2.2
  have HB := Lib.hid (chain hb0.out C2.out)
  have HZ := Lib.hid (((HB.out.setCell (p := ⟨w.heap.size + 1, 0, none⟩) (by simp) (.int .i64 0)).setCell (p := ⟨w.heap.size + 1, 1, none⟩) (by simp) (.int .i64 0)).setCell (p := ⟨w.heap.size + 1, 2, none⟩) (by simp) (.int .i64 0))
  go_wp2
  exact bodyPost_ret (v := .tuple #[vv 0 0 0, .int .i64 3]) (by simp [results, Try.results20, go_sem, k10, k11, k12]) rfl ⟨rfl, HZ.out⟩

set_option maxRecDepth 100000 in
set_option maxHeartbeats 4000000 in
theorem rScale_ok (x1 x2 x3 by_ r1 r2 r3 : Int) (hE : vE x1 x2 x3 0 0 0 = false) (h : ¬ 16777216 < by_) (h2 : ¬ by_ < -16777216) (h1 : IntKind.i64.wrap (x1 * by_) = r1) (h3 : IntKind.i64.wrap (x2 * by_) = r2) (h4 : IntKind.i64.wrap (x3 * by_) = r3) (hV : inV 16777216 r1 r2 r3 = true) (w : World) :
    Calls Try.prog 20 #[vv x1 x2 x3, .int .i64 by_] w (Ret (.tuple #[vv r1 r2 r3, .int .i64 0]) w) := by
  have qE : ∀ w, (binOp .eql 23 (.agg #[.int .i64 x1, .int .i64 x2, .int .i64 x3]) (.agg #[.int .i64 0, .int .i64 0, .int .i64 0])).run Try.prog w = .ok (.bool false) w := fun w => by rw [← hE]; exact eq_vec w x1 x2 x3 0 0 0
  clear hE
  have HV := Lib.hid (fun w => rValid_any r1 r2 r3 w)
  rw [hV] at HV
  go_enter Try.func20, Try.ntmps20
  go_upto_region 1 with (fail)
  obtain ⟨w0, hw0⟩ : ∃ w0 : World, w0 = (w.alloc (.cells #[.int .i64 x1, .int .i64 x2, .int .i64 x3] 23)).alloc (.cells #[.int .i64 0, .int .i64 0, .int .i64 0] 23) := ⟨_, rfl⟩
  have hb0 : Hid (Below w.heap.size w w0) := by rw [hw0]; exact (below_one w _).alloc (by simp) _
  have hv0 : Hid (V3 w0 w.heap.size x1 x2 x3) := by rw [hw0]; exact ⟨by simp [go_sem], by simp [go_sem], by simp [go_sem]⟩
  have hv1 : Hid (V3 w0 (w.heap.size + 1) 0 0 0) := by rw [hw0]; exact ⟨by simp [go_sem], by simp [go_sem], by simp [go_sem]⟩
  have f10 : w0.frozen? ⟨w.heap.size + 1, 0, none⟩ = false := by rw [hw0]; simp [go_sem]
  have f11 : w0.frozen? ⟨w.heap.size + 1, 1, none⟩ = false := by rw [hw0]; simp [go_sem]
  have f12 : w0.frozen? ⟨w.heap.size + 1, 2, none⟩ = false := by rw [hw0]; simp [go_sem]
  have F1 := Lib.hid (And.intro f10 (And.intro f11 f12))
  clear f10 f11 f12
  rw [← hw0]
  clear hw0
  obtain ⟨k00, k01, k02⟩ := hv0.out.below (Below.refl _ _)
  obtain ⟨k10, k11, k12⟩ := hv1.out.below (Below.refl _ _)
  have g10 := keepf (Below.refl _ _) hv1.out.1 F1.out.1
  have g11 := keepf (Below.refl _ _) hv1.out.2.1 F1.out.2.1
  have g12 := keepf (Below.refl _ _) hv1.out.2.2 F1.out.2.2
  have n01 : ¬ (w.heap.size = w.heap.size + 1) := by omega
  have n10 : ¬ (w.heap.size + 1 = w.heap.size) := by omega
  go_upto_region 6 with (fail)
  obtain ⟨w1, hw1⟩ : ∃ w1 : World, w1 = w0.alloc (.cells #[.int .i64 r1, .int .i64 r2, .int .i64 r3] 23) := ⟨_, rfl⟩
  have b1 : Below w0.heap.size w0 w1 := by rw [hw1]; exact below_one _ _
  have hv2 : Hid (V3 w1 w0.heap.size r1 r2 r3) := by rw [hw1]; exact ⟨by simp [go_sem], by simp [go_sem], by simp [go_sem]⟩
  rw [← hw1]
  clear hw1 k00 k01 k02 k10 k11 k12 g10 g11 g12
  have C1 := Lib.hid b1
  obtain ⟨k20, k21, k22⟩ := hv2.out
  clear b1
  go_wp2_with fail
  refine (HV.out _).mono ?_
  rintro e w2 ⟨rfl, b2⟩
  clear k20 k21 k22
  obtain ⟨k20, k21, k22⟩ := hv2.out.below b2
  have C2 := Lib.hid (chain C1.out b2)
  clear b2
  obtain ⟨k10, k11, k12⟩ := hv1.out.below C2.out
  have g10 := keepf C2.out hv1.out.1 F1.out.1
  have g11 := keepf C2.out hv1.out.2.1 F1.out.2.1
  have g12 := keepf C2.out hv1.out.2.2 F1.out.2.2
  have HB := Lib.hid (chain hb0.out C2.out)
  have HZ := Lib.hid (((HB.out.setCell (p := ⟨w.heap.size + 1, 0, none⟩) (by simp) (.int .i64 r1)).setCell (p := ⟨w.heap.size + 1, 1, none⟩) (by simp) (.int .i64 r2)).setCell (p := ⟨w.heap.size + 1, 2, none⟩) (by simp) (.int .i64 r3))
  go_wp2
  exact bodyPost_ret (v := .tuple #[vv r1 r2 r3, .int .i64 0]) (by simp [results, Try.results20, go_sem, k10, k11, k12]) rfl ⟨rfl, HZ.out⟩
end Go.Proofs.Ytdicbeaocedkmaa
