/- The reference's Compare. -/
import Derived.Test.YtdicbeaocedkmaaVn
set_option linter.all false
namespace Go.Proofs.Ytdicbeaocedkmaa
open Go.RowKit

set_option maxRecDepth 100000 in
set_option maxHeartbeats 4000000 in
theorem rCompare_0lt (x1 x2 x3 y1 y2 y3 : Int) (h : x1 < y1) (w : World) :
    Calls Try.prog 15 #[vv x1 x2 x3, vv y1 y2 y3] w (Ret (.int .i64 (-1)) w) := by
  have X0 := Lib.hid (fun w => rpart0 x1 x2 x3 w)
  have Y0 := Lib.hid (fun w => rpart0 y1 y2 y3 w)
  have X1 := Lib.hid (fun w => rpart1 x1 x2 x3 w)
  have Y1 := Lib.hid (fun w => rpart1 y1 y2 y3 w)
  have X2 := Lib.hid (fun w => rpart2 x1 x2 x3 w)
  have Y2 := Lib.hid (fun w => rpart2 y1 y2 y3 w)
  go_enter Try.func15, Try.ntmps15
  go_upto_region 1 with (fail)
  obtain ⟨w0, hw0⟩ : ∃ w0 : World, w0 = (w.alloc (.cells #[.int .i64 x1, .int .i64 x2, .int .i64 x3] 23)).alloc (.cells #[.int .i64 y1, .int .i64 y2, .int .i64 y3] 23) := ⟨_, rfl⟩
  have hb0 : Hid (Below w.heap.size w w0) := by rw [hw0]; exact (below_one w _).alloc (by simp) _
  have hv0 : Hid (V3 w0 w.heap.size x1 x2 x3) := by rw [hw0]; exact ⟨by simp [go_sem], by simp [go_sem], by simp [go_sem]⟩
  have hv1 : Hid (V3 w0 (w.heap.size + 1) y1 y2 y3) := by rw [hw0]; exact ⟨by simp [go_sem], by simp [go_sem], by simp [go_sem]⟩
  rw [← hw0]
  clear hw0
  obtain ⟨k00, k01, k02⟩ := hv0.out.below (Below.refl _ _)
  obtain ⟨k10, k11, k12⟩ := hv1.out.below (Below.refl _ _)
  have C0 := Lib.hid (Below.refl w0.heap.size w0)
  go_wp2
  refine wp_loop_rounds 4 ?_
  rw [rounds_succ]
  go_wp2
  go_region_held3 (fun W' => W'.cell? ⟨w.heap.size, 0, none⟩ = some (.int .i64 x1) ∧ W'.cell? ⟨w.heap.size, 1, none⟩ = some (.int .i64 x2) ∧ W'.cell? ⟨w.heap.size, 2, none⟩ = some (.int .i64 x3) ∧ W'.cell? ⟨w.heap.size + 1, 0, none⟩ = some (.int .i64 y1) ∧ W'.cell? ⟨w.heap.size + 1, 1, none⟩ = some (.int .i64 y2) ∧ W'.cell? ⟨w.heap.size + 1, 2, none⟩ = some (.int .i64 y3)) (go_keep)
    (first
      | (go_at_call 41; (with_reducible refine (X0.out _).mono ?_); rintro e w1 ⟨rfl, b1⟩; (try (have b1 := undrew b1)); have C1 := Lib.hid (chain C0.out b1); clear b1; obtain ⟨p00, p01, p02⟩ := hv0.out.below C1.out; obtain ⟨p10, p11, p12⟩ := hv1.out.below C1.out)
      | (go_at_call 41; (with_reducible refine (Y0.out _).mono ?_); rintro e w2 ⟨rfl, b2⟩; (try (have b2 := undrew b2)); have C2 := Lib.hid (chain C1.out b2); clear b2; obtain ⟨p00, p01, p02⟩ := hv0.out.below C2.out; obtain ⟨p10, p11, p12⟩ := hv1.out.below C2.out)
      | fail)
  clear k00 k01 k02 k10 k11 k12
  obtain ⟨k00, k01, k02⟩ := hv0.out.below C2.out
  obtain ⟨k10, k11, k12⟩ := hv1.out.below C2.out
  go_wp2
  go_ret
  have HB := Lib.hid (chain hb0.out C2.out)
  exact ⟨rfl, by first | exact HB.out | exact HB.out.drew⟩

set_option maxRecDepth 100000 in
set_option maxHeartbeats 4000000 in
theorem rCompare_0gt (x1 x2 x3 y1 y2 y3 : Int) (h0 : ¬ x1 < y1) (h : y1 < x1) (w : World) :
    Calls Try.prog 15 #[vv x1 x2 x3, vv y1 y2 y3] w (Ret (.int .i64 1) w) := by
  have X0 := Lib.hid (fun w => rpart0 x1 x2 x3 w)
  have Y0 := Lib.hid (fun w => rpart0 y1 y2 y3 w)
  have X1 := Lib.hid (fun w => rpart1 x1 x2 x3 w)
  have Y1 := Lib.hid (fun w => rpart1 y1 y2 y3 w)
  have X2 := Lib.hid (fun w => rpart2 x1 x2 x3 w)
  have Y2 := Lib.hid (fun w => rpart2 y1 y2 y3 w)
  go_enter Try.func15, Try.ntmps15
  go_upto_region 1 with (fail)
  obtain ⟨w0, hw0⟩ : ∃ w0 : World, w0 = (w.alloc (.cells #[.int .i64 x1, .int .i64 x2, .int .i64 x3] 23)).alloc (.cells #[.int .i64 y1, .int .i64 y2, .int .i64 y3] 23) := ⟨_, rfl⟩
  have hb0 : Hid (Below w.heap.size w w0) := by rw [hw0]; exact (below_one w _).alloc (by simp) _
  have hv0 : Hid (V3 w0 w.heap.size x1 x2 x3) := by rw [hw0]; exact ⟨by simp [go_sem], by simp [go_sem], by simp [go_sem]⟩
  have hv1 : Hid (V3 w0 (w.heap.size + 1) y1 y2 y3) := by rw [hw0]; exact ⟨by simp [go_sem], by simp [go_sem], by simp [go_sem]⟩
  rw [← hw0]
  clear hw0
  obtain ⟨k00, k01, k02⟩ := hv0.out.below (Below.refl _ _)
  obtain ⟨k10, k11, k12⟩ := hv1.out.below (Below.refl _ _)
  have C0 := Lib.hid (Below.refl w0.heap.size w0)
  go_wp2
  refine wp_loop_rounds 4 ?_
  rw [rounds_succ]
  go_wp2
  go_region_held3 (fun W' => W'.cell? ⟨w.heap.size, 0, none⟩ = some (.int .i64 x1) ∧ W'.cell? ⟨w.heap.size, 1, none⟩ = some (.int .i64 x2) ∧ W'.cell? ⟨w.heap.size, 2, none⟩ = some (.int .i64 x3) ∧ W'.cell? ⟨w.heap.size + 1, 0, none⟩ = some (.int .i64 y1) ∧ W'.cell? ⟨w.heap.size + 1, 1, none⟩ = some (.int .i64 y2) ∧ W'.cell? ⟨w.heap.size + 1, 2, none⟩ = some (.int .i64 y3)) (go_keep)
    (first
      | (go_at_call 41; (with_reducible refine (X0.out _).mono ?_); rintro e w1 ⟨rfl, b1⟩; (try (have b1 := undrew b1)); have C1 := Lib.hid (chain C0.out b1); clear b1; obtain ⟨p00, p01, p02⟩ := hv0.out.below C1.out; obtain ⟨p10, p11, p12⟩ := hv1.out.below C1.out)
      | (go_at_call 41; (with_reducible refine (Y0.out _).mono ?_); rintro e w2 ⟨rfl, b2⟩; (try (have b2 := undrew b2)); have C2 := Lib.hid (chain C1.out b2); clear b2; obtain ⟨p00, p01, p02⟩ := hv0.out.below C2.out; obtain ⟨p10, p11, p12⟩ := hv1.out.below C2.out)
      | fail)
  clear k00 k01 k02 k10 k11 k12
  obtain ⟨k00, k01, k02⟩ := hv0.out.below C2.out
  obtain ⟨k10, k11, k12⟩ := hv1.out.below C2.out
  go_wp2
  go_region_held3 (fun W' => W'.cell? ⟨w.heap.size, 0, none⟩ = some (.int .i64 x1) ∧ W'.cell? ⟨w.heap.size, 1, none⟩ = some (.int .i64 x2) ∧ W'.cell? ⟨w.heap.size, 2, none⟩ = some (.int .i64 x3) ∧ W'.cell? ⟨w.heap.size + 1, 0, none⟩ = some (.int .i64 y1) ∧ W'.cell? ⟨w.heap.size + 1, 1, none⟩ = some (.int .i64 y2) ∧ W'.cell? ⟨w.heap.size + 1, 2, none⟩ = some (.int .i64 y3)) (go_keep)
    (first
      | (go_at_call 41; (with_reducible refine (X0.out _).mono ?_); rintro e w3 ⟨rfl, b3⟩; (try (have b3 := undrew b3)); have C3 := Lib.hid (chain C2.out b3); clear b3; obtain ⟨p00, p01, p02⟩ := hv0.out.below C3.out; obtain ⟨p10, p11, p12⟩ := hv1.out.below C3.out)
      | (go_at_call 41; (with_reducible refine (Y0.out _).mono ?_); rintro e w4 ⟨rfl, b4⟩; (try (have b4 := undrew b4)); have C4 := Lib.hid (chain C3.out b4); clear b4; obtain ⟨p00, p01, p02⟩ := hv0.out.below C4.out; obtain ⟨p10, p11, p12⟩ := hv1.out.below C4.out)
      | fail)
  clear k00 k01 k02 k10 k11 k12
  obtain ⟨k00, k01, k02⟩ := hv0.out.below C4.out
  obtain ⟨k10, k11, k12⟩ := hv1.out.below C4.out
  go_wp2
  go_ret
  have HB := Lib.hid (chain hb0.out C4.out)
  exact ⟨rfl, by first | exact HB.out | exact HB.out.drew⟩

set_option maxRecDepth 100000 in
set_option maxHeartbeats 4000000 in
theorem rCompare_1lt (x1 x2 x3 y1 y2 y3 : Int) (e0 : x1 = y1) (h : x2 < y2) (w : World) :
    Calls Try.prog 15 #[vv x1 x2 x3, vv y1 y2 y3] w (Ret (.int .i64 (-1)) w) := by
  subst e0
  have l0 : ¬ x1 < x1 := Int.lt_irrefl _
  have X0 := Lib.hid (fun w => rpart0 x1 x2 x3 w)
  have Y0 := Lib.hid (fun w => rpart0 x1 y2 y3 w)
  have X1 := Lib.hid (fun w => rpart1 x1 x2 x3 w)
  have Y1 := Lib.hid (fun w => rpart1 x1 y2 y3 w)
  have X2 := Lib.hid (fun w => rpart2 x1 x2 x3 w)
  have Y2 := Lib.hid (fun w => rpart2 x1 y2 y3 w)
  go_enter Try.func15, Try.ntmps15
  go_upto_region 1 with (fail)
  obtain ⟨w0, hw0⟩ : ∃ w0 : World, w0 = (w.alloc (.cells #[.int .i64 x1, .int .i64 x2, .int .i64 x3] 23)).alloc (.cells #[.int .i64 x1, .int .i64 y2, .int .i64 y3] 23) := ⟨_, rfl⟩
  have hb0 : Hid (Below w.heap.size w w0) := by rw [hw0]; exact (below_one w _).alloc (by simp) _
  have hv0 : Hid (V3 w0 w.heap.size x1 x2 x3) := by rw [hw0]; exact ⟨by simp [go_sem], by simp [go_sem], by simp [go_sem]⟩
  have hv1 : Hid (V3 w0 (w.heap.size + 1) x1 y2 y3) := by rw [hw0]; exact ⟨by simp [go_sem], by simp [go_sem], by simp [go_sem]⟩
  rw [← hw0]
  clear hw0
  obtain ⟨k00, k01, k02⟩ := hv0.out.below (Below.refl _ _)
  obtain ⟨k10, k11, k12⟩ := hv1.out.below (Below.refl _ _)
  have C0 := Lib.hid (Below.refl w0.heap.size w0)
  go_wp2
  refine wp_loop_rounds 4 ?_
  rw [rounds_succ]
  go_wp2
  go_region_held3 (fun W' => W'.cell? ⟨w.heap.size, 0, none⟩ = some (.int .i64 x1) ∧ W'.cell? ⟨w.heap.size, 1, none⟩ = some (.int .i64 x2) ∧ W'.cell? ⟨w.heap.size, 2, none⟩ = some (.int .i64 x3) ∧ W'.cell? ⟨w.heap.size + 1, 0, none⟩ = some (.int .i64 x1) ∧ W'.cell? ⟨w.heap.size + 1, 1, none⟩ = some (.int .i64 y2) ∧ W'.cell? ⟨w.heap.size + 1, 2, none⟩ = some (.int .i64 y3)) (go_keep)
    (first
      | (go_at_call 41; (with_reducible refine (X0.out _).mono ?_); rintro e w1 ⟨rfl, b1⟩; (try (have b1 := undrew b1)); have C1 := Lib.hid (chain C0.out b1); clear b1; obtain ⟨p00, p01, p02⟩ := hv0.out.below C1.out; obtain ⟨p10, p11, p12⟩ := hv1.out.below C1.out)
      | (go_at_call 41; (with_reducible refine (Y0.out _).mono ?_); rintro e w2 ⟨rfl, b2⟩; (try (have b2 := undrew b2)); have C2 := Lib.hid (chain C1.out b2); clear b2; obtain ⟨p00, p01, p02⟩ := hv0.out.below C2.out; obtain ⟨p10, p11, p12⟩ := hv1.out.below C2.out)
      | fail)
  clear k00 k01 k02 k10 k11 k12
  obtain ⟨k00, k01, k02⟩ := hv0.out.below C2.out
  obtain ⟨k10, k11, k12⟩ := hv1.out.below C2.out
  go_wp2
  go_region_held3 (fun W' => W'.cell? ⟨w.heap.size, 0, none⟩ = some (.int .i64 x1) ∧ W'.cell? ⟨w.heap.size, 1, none⟩ = some (.int .i64 x2) ∧ W'.cell? ⟨w.heap.size, 2, none⟩ = some (.int .i64 x3) ∧ W'.cell? ⟨w.heap.size + 1, 0, none⟩ = some (.int .i64 x1) ∧ W'.cell? ⟨w.heap.size + 1, 1, none⟩ = some (.int .i64 y2) ∧ W'.cell? ⟨w.heap.size + 1, 2, none⟩ = some (.int .i64 y3)) (go_keep)
    (first
      | (go_at_call 41; (with_reducible refine (X0.out _).mono ?_); rintro e w3 ⟨rfl, b3⟩; (try (have b3 := undrew b3)); have C3 := Lib.hid (chain C2.out b3); clear b3; obtain ⟨p00, p01, p02⟩ := hv0.out.below C3.out; obtain ⟨p10, p11, p12⟩ := hv1.out.below C3.out)
      | (go_at_call 41; (with_reducible refine (Y0.out _).mono ?_); rintro e w4 ⟨rfl, b4⟩; (try (have b4 := undrew b4)); have C4 := Lib.hid (chain C3.out b4); clear b4; obtain ⟨p00, p01, p02⟩ := hv0.out.below C4.out; obtain ⟨p10, p11, p12⟩ := hv1.out.below C4.out)
      | fail)
  clear k00 k01 k02 k10 k11 k12
  obtain ⟨k00, k01, k02⟩ := hv0.out.below C4.out
  obtain ⟨k10, k11, k12⟩ := hv1.out.below C4.out
  go_wp2
  rw [rounds_succ]
  go_wp2
  go_region_held3 (fun W' => W'.cell? ⟨w.heap.size, 0, none⟩ = some (.int .i64 x1) ∧ W'.cell? ⟨w.heap.size, 1, none⟩ = some (.int .i64 x2) ∧ W'.cell? ⟨w.heap.size, 2, none⟩ = some (.int .i64 x3) ∧ W'.cell? ⟨w.heap.size + 1, 0, none⟩ = some (.int .i64 x1) ∧ W'.cell? ⟨w.heap.size + 1, 1, none⟩ = some (.int .i64 y2) ∧ W'.cell? ⟨w.heap.size + 1, 2, none⟩ = some (.int .i64 y3)) (go_keep)
    (first
      | (go_at_call 41; (with_reducible refine (X1.out _).mono ?_); rintro e w5 ⟨rfl, b5⟩; (try (have b5 := undrew b5)); have C5 := Lib.hid (chain C4.out b5); clear b5; obtain ⟨p00, p01, p02⟩ := hv0.out.below C5.out; obtain ⟨p10, p11, p12⟩ := hv1.out.below C5.out)
      | (go_at_call 41; (with_reducible refine (Y1.out _).mono ?_); rintro e w6 ⟨rfl, b6⟩; (try (have b6 := undrew b6)); have C6 := Lib.hid (chain C5.out b6); clear b6; obtain ⟨p00, p01, p02⟩ := hv0.out.below C6.out; obtain ⟨p10, p11, p12⟩ := hv1.out.below C6.out)
      | fail)
  clear k00 k01 k02 k10 k11 k12
  obtain ⟨k00, k01, k02⟩ := hv0.out.below C6.out
  obtain ⟨k10, k11, k12⟩ := hv1.out.below C6.out
  go_wp2
  go_ret
  have HB := Lib.hid (chain hb0.out C6.out)
  exact ⟨rfl, by first | exact HB.out | exact HB.out.drew⟩

set_option maxRecDepth 100000 in
set_option maxHeartbeats 4000000 in
theorem rCompare_1gt (x1 x2 x3 y1 y2 y3 : Int) (e0 : x1 = y1) (h0 : ¬ x2 < y2) (h : y2 < x2) (w : World) :
    Calls Try.prog 15 #[vv x1 x2 x3, vv y1 y2 y3] w (Ret (.int .i64 1) w) := by
  subst e0
  have l0 : ¬ x1 < x1 := Int.lt_irrefl _
  have X0 := Lib.hid (fun w => rpart0 x1 x2 x3 w)
  have Y0 := Lib.hid (fun w => rpart0 x1 y2 y3 w)
  have X1 := Lib.hid (fun w => rpart1 x1 x2 x3 w)
  have Y1 := Lib.hid (fun w => rpart1 x1 y2 y3 w)
  have X2 := Lib.hid (fun w => rpart2 x1 x2 x3 w)
  have Y2 := Lib.hid (fun w => rpart2 x1 y2 y3 w)
  go_enter Try.func15, Try.ntmps15
  go_upto_region 1 with (fail)
  obtain ⟨w0, hw0⟩ : ∃ w0 : World, w0 = (w.alloc (.cells #[.int .i64 x1, .int .i64 x2, .int .i64 x3] 23)).alloc (.cells #[.int .i64 x1, .int .i64 y2, .int .i64 y3] 23) := ⟨_, rfl⟩
  have hb0 : Hid (Below w.heap.size w w0) := by rw [hw0]; exact (below_one w _).alloc (by simp) _
  have hv0 : Hid (V3 w0 w.heap.size x1 x2 x3) := by rw [hw0]; exact ⟨by simp [go_sem], by simp [go_sem], by simp [go_sem]⟩
  have hv1 : Hid (V3 w0 (w.heap.size + 1) x1 y2 y3) := by rw [hw0]; exact ⟨by simp [go_sem], by simp [go_sem], by simp [go_sem]⟩
  rw [← hw0]
  clear hw0
  obtain ⟨k00, k01, k02⟩ := hv0.out.below (Below.refl _ _)
  obtain ⟨k10, k11, k12⟩ := hv1.out.below (Below.refl _ _)
  have C0 := Lib.hid (Below.refl w0.heap.size w0)
  go_wp2
  refine wp_loop_rounds 4 ?_
  rw [rounds_succ]
  go_wp2
  go_region_held3 (fun W' => W'.cell? ⟨w.heap.size, 0, none⟩ = some (.int .i64 x1) ∧ W'.cell? ⟨w.heap.size, 1, none⟩ = some (.int .i64 x2) ∧ W'.cell? ⟨w.heap.size, 2, none⟩ = some (.int .i64 x3) ∧ W'.cell? ⟨w.heap.size + 1, 0, none⟩ = some (.int .i64 x1) ∧ W'.cell? ⟨w.heap.size + 1, 1, none⟩ = some (.int .i64 y2) ∧ W'.cell? ⟨w.heap.size + 1, 2, none⟩ = some (.int .i64 y3)) (go_keep)
    (first
      | (go_at_call 41; (with_reducible refine (X0.out _).mono ?_); rintro e w1 ⟨rfl, b1⟩; (try (have b1 := undrew b1)); have C1 := Lib.hid (chain C0.out b1); clear b1; obtain ⟨p00, p01, p02⟩ := hv0.out.below C1.out; obtain ⟨p10, p11, p12⟩ := hv1.out.below C1.out)
      | (go_at_call 41; (with_reducible refine (Y0.out _).mono ?_); rintro e w2 ⟨rfl, b2⟩; (try (have b2 := undrew b2)); have C2 := Lib.hid (chain C1.out b2); clear b2; obtain ⟨p00, p01, p02⟩ := hv0.out.below C2.out; obtain ⟨p10, p11, p12⟩ := hv1.out.below C2.out)
      | fail)
  clear k00 k01 k02 k10 k11 k12
  obtain ⟨k00, k01, k02⟩ := hv0.out.below C2.out
  obtain ⟨k10, k11, k12⟩ := hv1.out.below C2.out
  go_wp2
  go_region_held3 (fun W' => W'.cell? ⟨w.heap.size, 0, none⟩ = some (.int .i64 x1) ∧ W'.cell? ⟨w.heap.size, 1, none⟩ = some (.int .i64 x2) ∧ W'.cell? ⟨w.heap.size, 2, none⟩ = some (.int .i64 x3) ∧ W'.cell? ⟨w.heap.size + 1, 0, none⟩ = some (.int .i64 x1) ∧ W'.cell? ⟨w.heap.size + 1, 1, none⟩ = some (.int .i64 y2) ∧ W'.cell? ⟨w.heap.size + 1, 2, none⟩ = some (.int .i64 y3)) (go_keep)
    (first
      | (go_at_call 41; (with_reducible refine (X0.out _).mono ?_); rintro e w3 ⟨rfl, b3⟩; (try (have b3 := undrew b3)); have C3 := Lib.hid (chain C2.out b3); clear b3; obtain ⟨p00, p01, p02⟩ := hv0.out.below C3.out; obtain ⟨p10, p11, p12⟩ := hv1.out.below C3.out)
      | (go_at_call 41; (with_reducible refine (Y0.out _).mono ?_); rintro e w4 ⟨rfl, b4⟩; (try (have b4 := undrew b4)); have C4 := Lib.hid (chain C3.out b4); clear b4; obtain ⟨p00, p01, p02⟩ := hv0.out.below C4.out; obtain ⟨p10, p11, p12⟩ := hv1.out.below C4.out)
      | fail)
  clear k00 k01 k02 k10 k11 k12
  obtain ⟨k00, k01, k02⟩ := hv0.out.below C4.out
  obtain ⟨k10, k11, k12⟩ := hv1.out.below C4.out
  go_wp2
  rw [rounds_succ]
  go_wp2
  go_region_held3 (fun W' => W'.cell? ⟨w.heap.size, 0, none⟩ = some (.int .i64 x1) ∧ W'.cell? ⟨w.heap.size, 1, none⟩ = some (.int .i64 x2) ∧ W'.cell? ⟨w.heap.size, 2, none⟩ = some (.int .i64 x3) ∧ W'.cell? ⟨w.heap.size + 1, 0, none⟩ = some (.int .i64 x1) ∧ W'.cell? ⟨w.heap.size + 1, 1, none⟩ = some (.int .i64 y2) ∧ W'.cell? ⟨w.heap.size + 1, 2, none⟩ = some (.int .i64 y3)) (go_keep)
    (first
      | (go_at_call 41; (with_reducible refine (X1.out _).mono ?_); rintro e w5 ⟨rfl, b5⟩; (try (have b5 := undrew b5)); have C5 := Lib.hid (chain C4.out b5); clear b5; obtain ⟨p00, p01, p02⟩ := hv0.out.below C5.out; obtain ⟨p10, p11, p12⟩ := hv1.out.below C5.out)
      | (go_at_call 41; (with_reducible refine (Y1.out _).mono ?_); rintro e w6 ⟨rfl, b6⟩; (try (have b6 := undrew b6)); have C6 := Lib.hid (chain C5.out b6); clear b6; obtain ⟨p00, p01, p02⟩ := hv0.out.below C6.out; obtain ⟨p10, p11, p12⟩ := hv1.out.below C6.out)
      | fail)
  clear k00 k01 k02 k10 k11 k12
  obtain ⟨k00, k01, k02⟩ := hv0.out.below C6.out
  obtain ⟨k10, k11, k12⟩ := hv1.out.below C6.out
  go_wp2
  go_region_held3 (fun W' => W'.cell? ⟨w.heap.size, 0, none⟩ = some (.int .i64 x1) ∧ W'.cell? ⟨w.heap.size, 1, none⟩ = some (.int .i64 x2) ∧ W'.cell? ⟨w.heap.size, 2, none⟩ = some (.int .i64 x3) ∧ W'.cell? ⟨w.heap.size + 1, 0, none⟩ = some (.int .i64 x1) ∧ W'.cell? ⟨w.heap.size + 1, 1, none⟩ = some (.int .i64 y2) ∧ W'.cell? ⟨w.heap.size + 1, 2, none⟩ = some (.int .i64 y3)) (go_keep)
    (first
      | (go_at_call 41; (with_reducible refine (X1.out _).mono ?_); rintro e w7 ⟨rfl, b7⟩; (try (have b7 := undrew b7)); have C7 := Lib.hid (chain C6.out b7); clear b7; obtain ⟨p00, p01, p02⟩ := hv0.out.below C7.out; obtain ⟨p10, p11, p12⟩ := hv1.out.below C7.out)
      | (go_at_call 41; (with_reducible refine (Y1.out _).mono ?_); rintro e w8 ⟨rfl, b8⟩; (try (have b8 := undrew b8)); have C8 := Lib.hid (chain C7.out b8); clear b8; obtain ⟨p00, p01, p02⟩ := hv0.out.below C8.out; obtain ⟨p10, p11, p12⟩ := hv1.out.below C8.out)
      | fail)
  clear k00 k01 k02 k10 k11 k12
  obtain ⟨k00, k01, k02⟩ := hv0.out.below C8.out
  obtain ⟨k10, k11, k12⟩ := hv1.out.below C8.out
  go_wp2
  go_ret
  have HB := Lib.hid (chain hb0.out C8.out)
  exact ⟨rfl, by first | exact HB.out | exact HB.out.drew⟩

set_option maxRecDepth 100000 in
set_option maxHeartbeats 4000000 in
theorem rCompare_2lt (x1 x2 x3 y1 y2 y3 : Int) (e0 : x1 = y1) (e1 : x2 = y2) (h : x3 < y3) (w : World) :
    Calls Try.prog 15 #[vv x1 x2 x3, vv y1 y2 y3] w (Ret (.int .i64 (-1)) w) := by
  subst e0
  have l0 : ¬ x1 < x1 := Int.lt_irrefl _
  subst e1
  have l1 : ¬ x2 < x2 := Int.lt_irrefl _
  have X0 := Lib.hid (fun w => rpart0 x1 x2 x3 w)
  have Y0 := Lib.hid (fun w => rpart0 x1 x2 y3 w)
  have X1 := Lib.hid (fun w => rpart1 x1 x2 x3 w)
  have Y1 := Lib.hid (fun w => rpart1 x1 x2 y3 w)
  have X2 := Lib.hid (fun w => rpart2 x1 x2 x3 w)
  have Y2 := Lib.hid (fun w => rpart2 x1 x2 y3 w)
  go_enter Try.func15, Try.ntmps15
  go_upto_region 1 with (fail)
  obtain ⟨w0, hw0⟩ : ∃ w0 : World, w0 = (w.alloc (.cells #[.int .i64 x1, .int .i64 x2, .int .i64 x3] 23)).alloc (.cells #[.int .i64 x1, .int .i64 x2, .int .i64 y3] 23) := ⟨_, rfl⟩
  have hb0 : Hid (Below w.heap.size w w0) := by rw [hw0]; exact (below_one w _).alloc (by simp) _
  have hv0 : Hid (V3 w0 w.heap.size x1 x2 x3) := by rw [hw0]; exact ⟨by simp [go_sem], by simp [go_sem], by simp [go_sem]⟩
  have hv1 : Hid (V3 w0 (w.heap.size + 1) x1 x2 y3) := by rw [hw0]; exact ⟨by simp [go_sem], by simp [go_sem], by simp [go_sem]⟩
  rw [← hw0]
  clear hw0
  obtain ⟨k00, k01, k02⟩ := hv0.out.below (Below.refl _ _)
  obtain ⟨k10, k11, k12⟩ := hv1.out.below (Below.refl _ _)
  have C0 := Lib.hid (Below.refl w0.heap.size w0)
  go_wp2
  refine wp_loop_rounds 4 ?_
  rw [rounds_succ]
  go_wp2
  go_region_held3 (fun W' => W'.cell? ⟨w.heap.size, 0, none⟩ = some (.int .i64 x1) ∧ W'.cell? ⟨w.heap.size, 1, none⟩ = some (.int .i64 x2) ∧ W'.cell? ⟨w.heap.size, 2, none⟩ = some (.int .i64 x3) ∧ W'.cell? ⟨w.heap.size + 1, 0, none⟩ = some (.int .i64 x1) ∧ W'.cell? ⟨w.heap.size + 1, 1, none⟩ = some (.int .i64 x2) ∧ W'.cell? ⟨w.heap.size + 1, 2, none⟩ = some (.int .i64 y3)) (go_keep)
    (first
      | (go_at_call 41; (with_reducible refine (X0.out _).mono ?_); rintro e w1 ⟨rfl, b1⟩; (try (have b1 := undrew b1)); have C1 := Lib.hid (chain C0.out b1); clear b1; obtain ⟨p00, p01, p02⟩ := hv0.out.below C1.out; obtain ⟨p10, p11, p12⟩ := hv1.out.below C1.out)
      | (go_at_call 41; (with_reducible refine (Y0.out _).mono ?_); rintro e w2 ⟨rfl, b2⟩; (try (have b2 := undrew b2)); have C2 := Lib.hid (chain C1.out b2); clear b2; obtain ⟨p00, p01, p02⟩ := hv0.out.below C2.out; obtain ⟨p10, p11, p12⟩ := hv1.out.below C2.out)
      | fail)
  clear k00 k01 k02 k10 k11 k12
  obtain ⟨k00, k01, k02⟩ := hv0.out.below C2.out
  obtain ⟨k10, k11, k12⟩ := hv1.out.below C2.out
  go_wp2
  go_region_held3 (fun W' => W'.cell? ⟨w.heap.size, 0, none⟩ = some (.int .i64 x1) ∧ W'.cell? ⟨w.heap.size, 1, none⟩ = some (.int .i64 x2) ∧ W'.cell? ⟨w.heap.size, 2, none⟩ = some (.int .i64 x3) ∧ W'.cell? ⟨w.heap.size + 1, 0, none⟩ = some (.int .i64 x1) ∧ W'.cell? ⟨w.heap.size + 1, 1, none⟩ = some (.int .i64 x2) ∧ W'.cell? ⟨w.heap.size + 1, 2, none⟩ = some (.int .i64 y3)) (go_keep)
    (first
      | (go_at_call 41; (with_reducible refine (X0.out _).mono ?_); rintro e w3 ⟨rfl, b3⟩; (try (have b3 := undrew b3)); have C3 := Lib.hid (chain C2.out b3); clear b3; obtain ⟨p00, p01, p02⟩ := hv0.out.below C3.out; obtain ⟨p10, p11, p12⟩ := hv1.out.below C3.out)
      | (go_at_call 41; (with_reducible refine (Y0.out _).mono ?_); rintro e w4 ⟨rfl, b4⟩; (try (have b4 := undrew b4)); have C4 := Lib.hid (chain C3.out b4); clear b4; obtain ⟨p00, p01, p02⟩ := hv0.out.below C4.out; obtain ⟨p10, p11, p12⟩ := hv1.out.below C4.out)
      | fail)
  clear k00 k01 k02 k10 k11 k12
  obtain ⟨k00, k01, k02⟩ := hv0.out.below C4.out
  obtain ⟨k10, k11, k12⟩ := hv1.out.below C4.out
  go_wp2
  rw [rounds_succ]
  go_wp2
  go_region_held3 (fun W' => W'.cell? ⟨w.heap.size, 0, none⟩ = some (.int .i64 x1) ∧ W'.cell? ⟨w.heap.size, 1, none⟩ = some (.int .i64 x2) ∧ W'.cell? ⟨w.heap.size, 2, none⟩ = some (.int .i64 x3) ∧ W'.cell? ⟨w.heap.size + 1, 0, none⟩ = some (.int .i64 x1) ∧ W'.cell? ⟨w.heap.size + 1, 1, none⟩ = some (.int .i64 x2) ∧ W'.cell? ⟨w.heap.size + 1, 2, none⟩ = some (.int .i64 y3)) (go_keep)
    (first
      | (go_at_call 41; (with_reducible refine (X1.out _).mono ?_); rintro e w5 ⟨rfl, b5⟩; (try (have b5 := undrew b5)); have C5 := Lib.hid (chain C4.out b5); clear b5; obtain ⟨p00, p01, p02⟩ := hv0.out.below C5.out; obtain ⟨p10, p11, p12⟩ := hv1.out.below C5.out)
      | (go_at_call 41; (with_reducible refine (Y1.out _).mono ?_); rintro e w6 ⟨rfl, b6⟩; (try (have b6 := undrew b6)); have C6 := Lib.hid (chain C5.out b6); clear b6; obtain ⟨p00, p01, p02⟩ := hv0.out.below C6.out; obtain ⟨p10, p11, p12⟩ := hv1.out.below C6.out)
      | fail)
  clear k00 k01 k02 k10 k11 k12
  obtain ⟨k00, k01, k02⟩ := hv0.out.below C6.out
  obtain ⟨k10, k11, k12⟩ := hv1.out.below C6.out
  go_wp2
  go_region_held3 (fun W' => W'.cell? ⟨w.heap.size, 0, none⟩ = some (.int .i64 x1) ∧ W'.cell? ⟨w.heap.size, 1, none⟩ = some (.int .i64 x2) ∧ W'.cell? ⟨w.heap.size, 2, none⟩ = some (.int .i64 x3) ∧ W'.cell? ⟨w.heap.size + 1, 0, none⟩ = some (.int .i64 x1) ∧ W'.cell? ⟨w.heap.size + 1, 1, none⟩ = some (.int .i64 x2) ∧ W'.cell? ⟨w.heap.size + 1, 2, none⟩ = some (.int .i64 y3)) (go_keep)
    (first
      | (go_at_call 41; (with_reducible refine (X1.out _).mono ?_); rintro e w7 ⟨rfl, b7⟩; (try (have b7 := undrew b7)); have C7 := Lib.hid (chain C6.out b7); clear b7; obtain ⟨p00, p01, p02⟩ := hv0.out.below C7.out; obtain ⟨p10, p11, p12⟩ := hv1.out.below C7.out)
      | (go_at_call 41; (with_reducible refine (Y1.out _).mono ?_); rintro e w8 ⟨rfl, b8⟩; (try (have b8 := undrew b8)); have C8 := Lib.hid (chain C7.out b8); clear b8; obtain ⟨p00, p01, p02⟩ := hv0.out.below C8.out; obtain ⟨p10, p11, p12⟩ := hv1.out.below C8.out)
      | fail)
  clear k00 k01 k02 k10 k11 k12
  obtain ⟨k00, k01, k02⟩ := hv0.out.below C8.out
  obtain ⟨k10, k11, k12⟩ := hv1.out.below C8.out
  go_wp2
  rw [rounds_succ]
  go_wp2
  go_region_held3 (fun W' => W'.cell? ⟨w.heap.size, 0, none⟩ = some (.int .i64 x1) ∧ W'.cell? ⟨w.heap.size, 1, none⟩ = some (.int .i64 x2) ∧ W'.cell? ⟨w.heap.size, 2, none⟩ = some (.int .i64 x3) ∧ W'.cell? ⟨w.heap.size + 1, 0, none⟩ = some (.int .i64 x1) ∧ W'.cell? ⟨w.heap.size + 1, 1, none⟩ = some (.int .i64 x2) ∧ W'.cell? ⟨w.heap.size + 1, 2, none⟩ = some (.int .i64 y3)) (go_keep)
    (first
      | (go_at_call 41; (with_reducible refine (X2.out _).mono ?_); rintro e w9 ⟨rfl, b9⟩; (try (have b9 := undrew b9)); have C9 := Lib.hid (chain C8.out b9); clear b9; obtain ⟨p00, p01, p02⟩ := hv0.out.below C9.out; obtain ⟨p10, p11, p12⟩ := hv1.out.below C9.out)
      | (go_at_call 41; (with_reducible refine (Y2.out _).mono ?_); rintro e w10 ⟨rfl, b10⟩; (try (have b10 := undrew b10)); have C10 := Lib.hid (chain C9.out b10); clear b10; obtain ⟨p00, p01, p02⟩ := hv0.out.below C10.out; obtain ⟨p10, p11, p12⟩ := hv1.out.below C10.out)
      | fail)
  clear k00 k01 k02 k10 k11 k12
  obtain ⟨k00, k01, k02⟩ := hv0.out.below C10.out
  obtain ⟨k10, k11, k12⟩ := hv1.out.below C10.out
  go_wp2
  go_ret
  have HB := Lib.hid (chain hb0.out C10.out)
  exact ⟨rfl, by first | exact HB.out | exact HB.out.drew⟩

set_option maxRecDepth 100000 in
set_option maxHeartbeats 4000000 in
theorem rCompare_2gt (x1 x2 x3 y1 y2 y3 : Int) (e0 : x1 = y1) (e1 : x2 = y2) (h0 : ¬ x3 < y3) (h : y3 < x3) (w : World) :
    Calls Try.prog 15 #[vv x1 x2 x3, vv y1 y2 y3] w (Ret (.int .i64 1) w) := by
  subst e0
  have l0 : ¬ x1 < x1 := Int.lt_irrefl _
  subst e1
  have l1 : ¬ x2 < x2 := Int.lt_irrefl _
  have X0 := Lib.hid (fun w => rpart0 x1 x2 x3 w)
  have Y0 := Lib.hid (fun w => rpart0 x1 x2 y3 w)
  have X1 := Lib.hid (fun w => rpart1 x1 x2 x3 w)
  have Y1 := Lib.hid (fun w => rpart1 x1 x2 y3 w)
  have X2 := Lib.hid (fun w => rpart2 x1 x2 x3 w)
  have Y2 := Lib.hid (fun w => rpart2 x1 x2 y3 w)
  go_enter Try.func15, Try.ntmps15
  go_upto_region 1 with (fail)
  obtain ⟨w0, hw0⟩ : ∃ w0 : World, w0 = (w.alloc (.cells #[.int .i64 x1, .int .i64 x2, .int .i64 x3] 23)).alloc (.cells #[.int .i64 x1, .int .i64 x2, .int .i64 y3] 23) := ⟨_, rfl⟩
  have hb0 : Hid (Below w.heap.size w w0) := by rw [hw0]; exact (below_one w _).alloc (by simp) _
  have hv0 : Hid (V3 w0 w.heap.size x1 x2 x3) := by rw [hw0]; exact ⟨by simp [go_sem], by simp [go_sem], by simp [go_sem]⟩
  have hv1 : Hid (V3 w0 (w.heap.size + 1) x1 x2 y3) := by rw [hw0]; exact ⟨by simp [go_sem], by simp [go_sem], by simp [go_sem]⟩
  rw [← hw0]
  clear hw0
  obtain ⟨k00, k01, k02⟩ := hv0.out.below (Below.refl _ _)
  obtain ⟨k10, k11, k12⟩ := hv1.out.below (Below.refl _ _)
  have C0 := Lib.hid (Below.refl w0.heap.size w0)
  go_wp2
  refine wp_loop_rounds 4 ?_
  rw [rounds_succ]
  go_wp2
  go_region_held3 (fun W' => W'.cell? ⟨w.heap.size, 0, none⟩ = some (.int .i64 x1) ∧ W'.cell? ⟨w.heap.size, 1, none⟩ = some (.int .i64 x2) ∧ W'.cell? ⟨w.heap.size, 2, none⟩ = some (.int .i64 x3) ∧ W'.cell? ⟨w.heap.size + 1, 0, none⟩ = some (.int .i64 x1) ∧ W'.cell? ⟨w.heap.size + 1, 1, none⟩ = some (.int .i64 x2) ∧ W'.cell? ⟨w.heap.size + 1, 2, none⟩ = some (.int .i64 y3)) (go_keep)
    (first
      | (go_at_call 41; (with_reducible refine (X0.out _).mono ?_); rintro e w1 ⟨rfl, b1⟩; (try (have b1 := undrew b1)); have C1 := Lib.hid (chain C0.out b1); clear b1; obtain ⟨p00, p01, p02⟩ := hv0.out.below C1.out; obtain ⟨p10, p11, p12⟩ := hv1.out.below C1.out)
      | (go_at_call 41; (with_reducible refine (Y0.out _).mono ?_); rintro e w2 ⟨rfl, b2⟩; (try (have b2 := undrew b2)); have C2 := Lib.hid (chain C1.out b2); clear b2; obtain ⟨p00, p01, p02⟩ := hv0.out.below C2.out; obtain ⟨p10, p11, p12⟩ := hv1.out.below C2.out)
      | fail)
  clear k00 k01 k02 k10 k11 k12
  obtain ⟨k00, k01, k02⟩ := hv0.out.below C2.out
  obtain ⟨k10, k11, k12⟩ := hv1.out.below C2.out
  go_wp2
  go_region_held3 (fun W' => W'.cell? ⟨w.heap.size, 0, none⟩ = some (.int .i64 x1) ∧ W'.cell? ⟨w.heap.size, 1, none⟩ = some (.int .i64 x2) ∧ W'.cell? ⟨w.heap.size, 2, none⟩ = some (.int .i64 x3) ∧ W'.cell? ⟨w.heap.size + 1, 0, none⟩ = some (.int .i64 x1) ∧ W'.cell? ⟨w.heap.size + 1, 1, none⟩ = some (.int .i64 x2) ∧ W'.cell? ⟨w.heap.size + 1, 2, none⟩ = some (.int .i64 y3)) (go_keep)
    (first
      | (go_at_call 41; (with_reducible refine (X0.out _).mono ?_); rintro e w3 ⟨rfl, b3⟩; (try (have b3 := undrew b3)); have C3 := Lib.hid (chain C2.out b3); clear b3; obtain ⟨p00, p01, p02⟩ := hv0.out.below C3.out; obtain ⟨p10, p11, p12⟩ := hv1.out.below C3.out)
      | (go_at_call 41; (with_reducible refine (Y0.out _).mono ?_); rintro e w4 ⟨rfl, b4⟩; (try (have b4 := undrew b4)); have C4 := Lib.hid (chain C3.out b4); clear b4; obtain ⟨p00, p01, p02⟩ := hv0.out.below C4.out; obtain ⟨p10, p11, p12⟩ := hv1.out.below C4.out)
      | fail)
  clear k00 k01 k02 k10 k11 k12
  obtain ⟨k00, k01, k02⟩ := hv0.out.below C4.out
  obtain ⟨k10, k11, k12⟩ := hv1.out.below C4.out
  go_wp2
  rw [rounds_succ]
  go_wp2
  go_region_held3 (fun W' => W'.cell? ⟨w.heap.size, 0, none⟩ = some (.int .i64 x1) ∧ W'.cell? ⟨w.heap.size, 1, none⟩ = some (.int .i64 x2) ∧ W'.cell? ⟨w.heap.size, 2, none⟩ = some (.int .i64 x3) ∧ W'.cell? ⟨w.heap.size + 1, 0, none⟩ = some (.int .i64 x1) ∧ W'.cell? ⟨w.heap.size + 1, 1, none⟩ = some (.int .i64 x2) ∧ W'.cell? ⟨w.heap.size + 1, 2, none⟩ = some (.int .i64 y3)) (go_keep)
    (first
      | (go_at_call 41; (with_reducible refine (X1.out _).mono ?_); rintro e w5 ⟨rfl, b5⟩; (try (have b5 := undrew b5)); have C5 := Lib.hid (chain C4.out b5); clear b5; obtain ⟨p00, p01, p02⟩ := hv0.out.below C5.out; obtain ⟨p10, p11, p12⟩ := hv1.out.below C5.out)
      | (go_at_call 41; (with_reducible refine (Y1.out _).mono ?_); rintro e w6 ⟨rfl, b6⟩; (try (have b6 := undrew b6)); have C6 := Lib.hid (chain C5.out b6); clear b6; obtain ⟨p00, p01, p02⟩ := hv0.out.below C6.out; obtain ⟨p10, p11, p12⟩ := hv1.out.below C6.out)
      | fail)
  clear k00 k01 k02 k10 k11 k12
  obtain ⟨k00, k01, k02⟩ := hv0.out.below C6.out
  obtain ⟨k10, k11, k12⟩ := hv1.out.below C6.out
  go_wp2
  go_region_held3 (fun W' => W'.cell? ⟨w.heap.size, 0, none⟩ = some (.int .i64 x1) ∧ W'.cell? ⟨w.heap.size, 1, none⟩ = some (.int .i64 x2) ∧ W'.cell? ⟨w.heap.size, 2, none⟩ = some (.int .i64 x3) ∧ W'.cell? ⟨w.heap.size + 1, 0, none⟩ = some (.int .i64 x1) ∧ W'.cell? ⟨w.heap.size + 1, 1, none⟩ = some (.int .i64 x2) ∧ W'.cell? ⟨w.heap.size + 1, 2, none⟩ = some (.int .i64 y3)) (go_keep)
    (first
      | (go_at_call 41; (with_reducible refine (X1.out _).mono ?_); rintro e w7 ⟨rfl, b7⟩; (try (have b7 := undrew b7)); have C7 := Lib.hid (chain C6.out b7); clear b7; obtain ⟨p00, p01, p02⟩ := hv0.out.below C7.out; obtain ⟨p10, p11, p12⟩ := hv1.out.below C7.out)
      | (go_at_call 41; (with_reducible refine (Y1.out _).mono ?_); rintro e w8 ⟨rfl, b8⟩; (try (have b8 := undrew b8)); have C8 := Lib.hid (chain C7.out b8); clear b8; obtain ⟨p00, p01, p02⟩ := hv0.out.below C8.out; obtain ⟨p10, p11, p12⟩ := hv1.out.below C8.out)
      | fail)
  clear k00 k01 k02 k10 k11 k12
  obtain ⟨k00, k01, k02⟩ := hv0.out.below C8.out
  obtain ⟨k10, k11, k12⟩ := hv1.out.below C8.out
  go_wp2
  rw [rounds_succ]
  go_wp2
  go_region_held3 (fun W' => W'.cell? ⟨w.heap.size, 0, none⟩ = some (.int .i64 x1) ∧ W'.cell? ⟨w.heap.size, 1, none⟩ = some (.int .i64 x2) ∧ W'.cell? ⟨w.heap.size, 2, none⟩ = some (.int .i64 x3) ∧ W'.cell? ⟨w.heap.size + 1, 0, none⟩ = some (.int .i64 x1) ∧ W'.cell? ⟨w.heap.size + 1, 1, none⟩ = some (.int .i64 x2) ∧ W'.cell? ⟨w.heap.size + 1, 2, none⟩ = some (.int .i64 y3)) (go_keep)
    (first
      | (go_at_call 41; (with_reducible refine (X2.out _).mono ?_); rintro e w9 ⟨rfl, b9⟩; (try (have b9 := undrew b9)); have C9 := Lib.hid (chain C8.out b9); clear b9; obtain ⟨p00, p01, p02⟩ := hv0.out.below C9.out; obtain ⟨p10, p11, p12⟩ := hv1.out.below C9.out)
      | (go_at_call 41; (with_reducible refine (Y2.out _).mono ?_); rintro e w10 ⟨rfl, b10⟩; (try (have b10 := undrew b10)); have C10 := Lib.hid (chain C9.out b10); clear b10; obtain ⟨p00, p01, p02⟩ := hv0.out.below C10.out; obtain ⟨p10, p11, p12⟩ := hv1.out.below C10.out)
      | fail)
  clear k00 k01 k02 k10 k11 k12
  obtain ⟨k00, k01, k02⟩ := hv0.out.below C10.out
  obtain ⟨k10, k11, k12⟩ := hv1.out.below C10.out
  go_wp2
  go_region_held3 (fun W' => W'.cell? ⟨w.heap.size, 0, none⟩ = some (.int .i64 x1) ∧ W'.cell? ⟨w.heap.size, 1, none⟩ = some (.int .i64 x2) ∧ W'.cell? ⟨w.heap.size, 2, none⟩ = some (.int .i64 x3) ∧ W'.cell? ⟨w.heap.size + 1, 0, none⟩ = some (.int .i64 x1) ∧ W'.cell? ⟨w.heap.size + 1, 1, none⟩ = some (.int .i64 x2) ∧ W'.cell? ⟨w.heap.size + 1, 2, none⟩ = some (.int .i64 y3)) (go_keep)
    (first
      | (go_at_call 41; (with_reducible refine (X2.out _).mono ?_); rintro e w11 ⟨rfl, b11⟩; (try (have b11 := undrew b11)); have C11 := Lib.hid (chain C10.out b11); clear b11; obtain ⟨p00, p01, p02⟩ := hv0.out.below C11.out; obtain ⟨p10, p11, p12⟩ := hv1.out.below C11.out)
      | (go_at_call 41; (with_reducible refine (Y2.out _).mono ?_); rintro e w12 ⟨rfl, b12⟩; (try (have b12 := undrew b12)); have C12 := Lib.hid (chain C11.out b12); clear b12; obtain ⟨p00, p01, p02⟩ := hv0.out.below C12.out; obtain ⟨p10, p11, p12⟩ := hv1.out.below C12.out)
      | fail)
  clear k00 k01 k02 k10 k11 k12
  obtain ⟨k00, k01, k02⟩ := hv0.out.below C12.out
  obtain ⟨k10, k11, k12⟩ := hv1.out.below C12.out
  go_wp2
  go_ret
  have HB := Lib.hid (chain hb0.out C12.out)
  exact ⟨rfl, by first | exact HB.out | exact HB.out.drew⟩

set_option maxRecDepth 100000 in
set_option maxHeartbeats 4000000 in
theorem rCompare_3 (x1 x2 x3 y1 y2 y3 : Int) (e0 : x1 = y1) (e1 : x2 = y2) (e2 : x3 = y3) (w : World) :
    Calls Try.prog 15 #[vv x1 x2 x3, vv y1 y2 y3] w (Ret (.int .i64 0) w) := by
  subst e0
  have l0 : ¬ x1 < x1 := Int.lt_irrefl _
  subst e1
  have l1 : ¬ x2 < x2 := Int.lt_irrefl _
  subst e2
  have l2 : ¬ x3 < x3 := Int.lt_irrefl _
  have X0 := Lib.hid (fun w => rpart0 x1 x2 x3 w)
  have Y0 := Lib.hid (fun w => rpart0 x1 x2 x3 w)
  have X1 := Lib.hid (fun w => rpart1 x1 x2 x3 w)
  have Y1 := Lib.hid (fun w => rpart1 x1 x2 x3 w)
  have X2 := Lib.hid (fun w => rpart2 x1 x2 x3 w)
  have Y2 := Lib.hid (fun w => rpart2 x1 x2 x3 w)
  go_enter Try.func15, Try.ntmps15
  go_upto_region 1 with (fail)
  obtain ⟨w0, hw0⟩ : ∃ w0 : World, w0 = (w.alloc (.cells #[.int .i64 x1, .int .i64 x2, .int .i64 x3] 23)).alloc (.cells #[.int .i64 x1, .int .i64 x2, .int .i64 x3] 23) := ⟨_, rfl⟩
  have hb0 : Hid (Below w.heap.size w w0) := by rw [hw0]; exact (below_one w _).alloc (by simp) _
  have hv0 : Hid (V3 w0 w.heap.size x1 x2 x3) := by rw [hw0]; exact ⟨by simp [go_sem], by simp [go_sem], by simp [go_sem]⟩
  have hv1 : Hid (V3 w0 (w.heap.size + 1) x1 x2 x3) := by rw [hw0]; exact ⟨by simp [go_sem], by simp [go_sem], by simp [go_sem]⟩
  rw [← hw0]
  clear hw0
  obtain ⟨k00, k01, k02⟩ := hv0.out.below (Below.refl _ _)
  obtain ⟨k10, k11, k12⟩ := hv1.out.below (Below.refl _ _)
  have C0 := Lib.hid (Below.refl w0.heap.size w0)
  go_wp2
  refine wp_loop_rounds 4 ?_
  rw [rounds_succ]
  go_wp2
  go_region_held3 (fun W' => W'.cell? ⟨w.heap.size, 0, none⟩ = some (.int .i64 x1) ∧ W'.cell? ⟨w.heap.size, 1, none⟩ = some (.int .i64 x2) ∧ W'.cell? ⟨w.heap.size, 2, none⟩ = some (.int .i64 x3) ∧ W'.cell? ⟨w.heap.size + 1, 0, none⟩ = some (.int .i64 x1) ∧ W'.cell? ⟨w.heap.size + 1, 1, none⟩ = some (.int .i64 x2) ∧ W'.cell? ⟨w.heap.size + 1, 2, none⟩ = some (.int .i64 x3)) (go_keep)
    (first
      | (go_at_call 41; (with_reducible refine (X0.out _).mono ?_); rintro e w1 ⟨rfl, b1⟩; (try (have b1 := undrew b1)); have C1 := Lib.hid (chain C0.out b1); clear b1; obtain ⟨p00, p01, p02⟩ := hv0.out.below C1.out; obtain ⟨p10, p11, p12⟩ := hv1.out.below C1.out)
      | (go_at_call 41; (with_reducible refine (Y0.out _).mono ?_); rintro e w2 ⟨rfl, b2⟩; (try (have b2 := undrew b2)); have C2 := Lib.hid (chain C1.out b2); clear b2; obtain ⟨p00, p01, p02⟩ := hv0.out.below C2.out; obtain ⟨p10, p11, p12⟩ := hv1.out.below C2.out)
      | fail)
  clear k00 k01 k02 k10 k11 k12
  obtain ⟨k00, k01, k02⟩ := hv0.out.below C2.out
  obtain ⟨k10, k11, k12⟩ := hv1.out.below C2.out
  go_wp2
  go_region_held3 (fun W' => W'.cell? ⟨w.heap.size, 0, none⟩ = some (.int .i64 x1) ∧ W'.cell? ⟨w.heap.size, 1, none⟩ = some (.int .i64 x2) ∧ W'.cell? ⟨w.heap.size, 2, none⟩ = some (.int .i64 x3) ∧ W'.cell? ⟨w.heap.size + 1, 0, none⟩ = some (.int .i64 x1) ∧ W'.cell? ⟨w.heap.size + 1, 1, none⟩ = some (.int .i64 x2) ∧ W'.cell? ⟨w.heap.size + 1, 2, none⟩ = some (.int .i64 x3)) (go_keep)
    (first
      | (go_at_call 41; (with_reducible refine (X0.out _).mono ?_); rintro e w3 ⟨rfl, b3⟩; (try (have b3 := undrew b3)); have C3 := Lib.hid (chain C2.out b3); clear b3; obtain ⟨p00, p01, p02⟩ := hv0.out.below C3.out; obtain ⟨p10, p11, p12⟩ := hv1.out.below C3.out)
      | (go_at_call 41; (with_reducible refine (Y0.out _).mono ?_); rintro e w4 ⟨rfl, b4⟩; (try (have b4 := undrew b4)); have C4 := Lib.hid (chain C3.out b4); clear b4; obtain ⟨p00, p01, p02⟩ := hv0.out.below C4.out; obtain ⟨p10, p11, p12⟩ := hv1.out.below C4.out)
      | fail)
  clear k00 k01 k02 k10 k11 k12
  obtain ⟨k00, k01, k02⟩ := hv0.out.below C4.out
  obtain ⟨k10, k11, k12⟩ := hv1.out.below C4.out
  go_wp2
  rw [rounds_succ]
  go_wp2
  go_region_held3 (fun W' => W'.cell? ⟨w.heap.size, 0, none⟩ = some (.int .i64 x1) ∧ W'.cell? ⟨w.heap.size, 1, none⟩ = some (.int .i64 x2) ∧ W'.cell? ⟨w.heap.size, 2, none⟩ = some (.int .i64 x3) ∧ W'.cell? ⟨w.heap.size + 1, 0, none⟩ = some (.int .i64 x1) ∧ W'.cell? ⟨w.heap.size + 1, 1, none⟩ = some (.int .i64 x2) ∧ W'.cell? ⟨w.heap.size + 1, 2, none⟩ = some (.int .i64 x3)) (go_keep)
    (first
      | (go_at_call 41; (with_reducible refine (X1.out _).mono ?_); rintro e w5 ⟨rfl, b5⟩; (try (have b5 := undrew b5)); have C5 := Lib.hid (chain C4.out b5); clear b5; obtain ⟨p00, p01, p02⟩ := hv0.out.below C5.out; obtain ⟨p10, p11, p12⟩ := hv1.out.below C5.out)
      | (go_at_call 41; (with_reducible refine (Y1.out _).mono ?_); rintro e w6 ⟨rfl, b6⟩; (try (have b6 := undrew b6)); have C6 := Lib.hid (chain C5.out b6); clear b6; obtain ⟨p00, p01, p02⟩ := hv0.out.below C6.out; obtain ⟨p10, p11, p12⟩ := hv1.out.below C6.out)
      | fail)
  clear k00 k01 k02 k10 k11 k12
  obtain ⟨k00, k01, k02⟩ := hv0.out.below C6.out
  obtain ⟨k10, k11, k12⟩ := hv1.out.below C6.out
  go_wp2
  go_region_held3 (fun W' => W'.cell? ⟨w.heap.size, 0, none⟩ = some (.int .i64 x1) ∧ W'.cell? ⟨w.heap.size, 1, none⟩ = some (.int .i64 x2) ∧ W'.cell? ⟨w.heap.size, 2, none⟩ = some (.int .i64 x3) ∧ W'.cell? ⟨w.heap.size + 1, 0, none⟩ = some (.int .i64 x1) ∧ W'.cell? ⟨w.heap.size + 1, 1, none⟩ = some (.int .i64 x2) ∧ W'.cell? ⟨w.heap.size + 1, 2, none⟩ = some (.int .i64 x3)) (go_keep)
    (first
      | (go_at_call 41; (with_reducible refine (X1.out _).mono ?_); rintro e w7 ⟨rfl, b7⟩; (try (have b7 := undrew b7)); have C7 := Lib.hid (chain C6.out b7); clear b7; obtain ⟨p00, p01, p02⟩ := hv0.out.below C7.out; obtain ⟨p10, p11, p12⟩ := hv1.out.below C7.out)
      | (go_at_call 41; (with_reducible refine (Y1.out _).mono ?_); rintro e w8 ⟨rfl, b8⟩; (try (have b8 := undrew b8)); have C8 := Lib.hid (chain C7.out b8); clear b8; obtain ⟨p00, p01, p02⟩ := hv0.out.below C8.out; obtain ⟨p10, p11, p12⟩ := hv1.out.below C8.out)
      | fail)
  clear k00 k01 k02 k10 k11 k12
  obtain ⟨k00, k01, k02⟩ := hv0.out.below C8.out
  obtain ⟨k10, k11, k12⟩ := hv1.out.below C8.out
  go_wp2
  rw [rounds_succ]
  go_wp2
  go_region_held3 (fun W' => W'.cell? ⟨w.heap.size, 0, none⟩ = some (.int .i64 x1) ∧ W'.cell? ⟨w.heap.size, 1, none⟩ = some (.int .i64 x2) ∧ W'.cell? ⟨w.heap.size, 2, none⟩ = some (.int .i64 x3) ∧ W'.cell? ⟨w.heap.size + 1, 0, none⟩ = some (.int .i64 x1) ∧ W'.cell? ⟨w.heap.size + 1, 1, none⟩ = some (.int .i64 x2) ∧ W'.cell? ⟨w.heap.size + 1, 2, none⟩ = some (.int .i64 x3)) (go_keep)
    (first
      | (go_at_call 41; (with_reducible refine (X2.out _).mono ?_); rintro e w9 ⟨rfl, b9⟩; (try (have b9 := undrew b9)); have C9 := Lib.hid (chain C8.out b9); clear b9; obtain ⟨p00, p01, p02⟩ := hv0.out.below C9.out; obtain ⟨p10, p11, p12⟩ := hv1.out.below C9.out)
      | (go_at_call 41; (with_reducible refine (Y2.out _).mono ?_); rintro e w10 ⟨rfl, b10⟩; (try (have b10 := undrew b10)); have C10 := Lib.hid (chain C9.out b10); clear b10; obtain ⟨p00, p01, p02⟩ := hv0.out.below C10.out; obtain ⟨p10, p11, p12⟩ := hv1.out.below C10.out)
      | fail)
  clear k00 k01 k02 k10 k11 k12
  obtain ⟨k00, k01, k02⟩ := hv0.out.below C10.out
  obtain ⟨k10, k11, k12⟩ := hv1.out.below C10.out
  go_wp2
  go_region_held3 (fun W' => W'.cell? ⟨w.heap.size, 0, none⟩ = some (.int .i64 x1) ∧ W'.cell? ⟨w.heap.size, 1, none⟩ = some (.int .i64 x2) ∧ W'.cell? ⟨w.heap.size, 2, none⟩ = some (.int .i64 x3) ∧ W'.cell? ⟨w.heap.size + 1, 0, none⟩ = some (.int .i64 x1) ∧ W'.cell? ⟨w.heap.size + 1, 1, none⟩ = some (.int .i64 x2) ∧ W'.cell? ⟨w.heap.size + 1, 2, none⟩ = some (.int .i64 x3)) (go_keep)
    (first
      | (go_at_call 41; (with_reducible refine (X2.out _).mono ?_); rintro e w11 ⟨rfl, b11⟩; (try (have b11 := undrew b11)); have C11 := Lib.hid (chain C10.out b11); clear b11; obtain ⟨p00, p01, p02⟩ := hv0.out.below C11.out; obtain ⟨p10, p11, p12⟩ := hv1.out.below C11.out)
      | (go_at_call 41; (with_reducible refine (Y2.out _).mono ?_); rintro e w12 ⟨rfl, b12⟩; (try (have b12 := undrew b12)); have C12 := Lib.hid (chain C11.out b12); clear b12; obtain ⟨p00, p01, p02⟩ := hv0.out.below C12.out; obtain ⟨p10, p11, p12⟩ := hv1.out.below C12.out)
      | fail)
  clear k00 k01 k02 k10 k11 k12
  obtain ⟨k00, k01, k02⟩ := hv0.out.below C12.out
  obtain ⟨k10, k11, k12⟩ := hv1.out.below C12.out
  go_wp2
  rw [rounds_succ]
  go_wp2
  go_ret
  have HB := Lib.hid (chain hb0.out C12.out)
  exact ⟨rfl, by first | exact HB.out | exact HB.out.drew⟩
end Go.Proofs.Ytdicbeaocedkmaa
