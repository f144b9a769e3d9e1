/- What the theorem leans on, part 2: Vt, Vs, Vu, Vw, Hga, Hgb, Hgc. -/
import Derived.Test.YtpkfngfenkcjoaaZ1
import Derived.Test.YtpkfngfenkcjoaaZ0
import Derived.Laws.StructEq

/- The reference's Compare. -/
set_option linter.all false
namespace Go.Proofs.Ytpkfngfenkcjoaa
open Go.RowKit

set_option maxRecDepth 100000 in
set_option maxHeartbeats 4000000 in
theorem rCompare_0lt (x1 x2 x3 y1 y2 y3 : Int) (h : x1 < y1) (w : World) :
    Calls Try.prog 51 #[vv x1 x2 x3, vv y1 y2 y3] w (Ret (.int .i64 (-1)) w) := by
  have X0 := Lib.hid (fun w => rpart0 x1 x2 x3 w)
  have Y0 := Lib.hid (fun w => rpart0 y1 y2 y3 w)
  have X1 := Lib.hid (fun w => rpart1 x1 x2 x3 w)
  have Y1 := Lib.hid (fun w => rpart1 y1 y2 y3 w)
  have X2 := Lib.hid (fun w => rpart2 x1 x2 x3 w)
  have Y2 := Lib.hid (fun w => rpart2 y1 y2 y3 w)
  go_enter Try.func51, Try.ntmps51
  go_upto_region 1 with (fail)
  obtain ⟨w0, hw0⟩ : ∃ w0 : World, w0 = (w.alloc (.cells #[.int .i64 x1, .int .i64 x2, .int .i64 x3] 24)).alloc (.cells #[.int .i64 y1, .int .i64 y2, .int .i64 y3] 24) := ⟨_, rfl⟩
  have hb0 : Hid (Below w.heap.size w w0) := by rw [hw0]; exact (below_one w _).alloc (by simp) _
  have hv0 : Hid (V3 w0 w.heap.size x1 x2 x3) := by rw [hw0]; exact ⟨by simp [go_sem], by simp [go_sem], by simp [go_sem]⟩
  have hv1 : Hid (V3 w0 (w.heap.size + 1) y1 y2 y3) := by rw [hw0]; exact ⟨by simp [go_sem], by simp [go_sem], by simp [go_sem]⟩
  rw [← hw0]
  clear hw0
  obtain ⟨k00, k01, k02⟩ := hv0.out.below (Below.refl _ _)
  obtain ⟨k10, k11, k12⟩ := hv1.out.below (Below.refl _ _)
  have C0 := Lib.hid (Below.refl w0.heap.size w0)
  go_wp2
  refine wp_loop_rounds 4 ?_
  rw [rounds_succ]
  go_wp2
  go_region_held3 (fun W' => W'.cell? ⟨w.heap.size, 0, none⟩ = some (.int .i64 x1) ∧ W'.cell? ⟨w.heap.size, 1, none⟩ = some (.int .i64 x2) ∧ W'.cell? ⟨w.heap.size, 2, none⟩ = some (.int .i64 x3) ∧ W'.cell? ⟨w.heap.size + 1, 0, none⟩ = some (.int .i64 y1) ∧ W'.cell? ⟨w.heap.size + 1, 1, none⟩ = some (.int .i64 y2) ∧ W'.cell? ⟨w.heap.size + 1, 2, none⟩ = some (.int .i64 y3)) (go_keep)
    (first
      | (go_at_call 55; (with_reducible refine (X0.out _).mono ?_); rintro e w1 ⟨rfl, b1⟩; (try (have b1 := undrew b1)); have C1 := Lib.hid (chain C0.out b1); clear b1; obtain ⟨p00, p01, p02⟩ := hv0.out.below C1.out; obtain ⟨p10, p11, p12⟩ := hv1.out.below C1.out)
      | (go_at_call 55; (with_reducible refine (Y0.out _).mono ?_); rintro e w2 ⟨rfl, b2⟩; (try (have b2 := undrew b2)); have C2 := Lib.hid (chain C1.out b2); clear b2; obtain ⟨p00, p01, p02⟩ := hv0.out.below C2.out; obtain ⟨p10, p11, p12⟩ := hv1.out.below C2.out)
      | fail)
  clear k00 k01 k02 k10 k11 k12
  obtain ⟨k00, k01, k02⟩ := hv0.out.below C2.out
  obtain ⟨k10, k11, k12⟩ := hv1.out.below C2.out
  go_wp2
  go_ret
  have HB := Lib.hid (chain hb0.out C2.out)
  exact ⟨rfl, by first | exact HB.out | exact HB.out.drew⟩

set_option maxRecDepth 100000 in
set_option maxHeartbeats 4000000 in
theorem rCompare_0gt (x1 x2 x3 y1 y2 y3 : Int) (h0 : ¬ x1 < y1) (h : y1 < x1) (w : World) :
    Calls Try.prog 51 #[vv x1 x2 x3, vv y1 y2 y3] w (Ret (.int .i64 1) w) := by
  have X0 := Lib.hid (fun w => rpart0 x1 x2 x3 w)
  have Y0 := Lib.hid (fun w => rpart0 y1 y2 y3 w)
  have X1 := Lib.hid (fun w => rpart1 x1 x2 x3 w)
  have Y1 := Lib.hid (fun w => rpart1 y1 y2 y3 w)
  have X2 := Lib.hid (fun w => rpart2 x1 x2 x3 w)
  have Y2 := Lib.hid (fun w => rpart2 y1 y2 y3 w)
  go_enter Try.func51, Try.ntmps51
  go_upto_region 1 with (fail)
  obtain ⟨w0, hw0⟩ : ∃ w0 : World, w0 = (w.alloc (.cells #[.int .i64 x1, .int .i64 x2, .int .i64 x3] 24)).alloc (.cells #[.int .i64 y1, .int .i64 y2, .int .i64 y3] 24) := ⟨_, rfl⟩
  have hb0 : Hid (Below w.heap.size w w0) := by rw [hw0]; exact (below_one w _).alloc (by simp) _
  have hv0 : Hid (V3 w0 w.heap.size x1 x2 x3) := by rw [hw0]; exact ⟨by simp [go_sem], by simp [go_sem], by simp [go_sem]⟩
  have hv1 : Hid (V3 w0 (w.heap.size + 1) y1 y2 y3) := by rw [hw0]; exact ⟨by simp [go_sem], by simp [go_sem], by simp [go_sem]⟩
  rw [← hw0]
  clear hw0
  obtain ⟨k00, k01, k02⟩ := hv0.out.below (Below.refl _ _)
  obtain ⟨k10, k11, k12⟩ := hv1.out.below (Below.refl _ _)
  have C0 := Lib.hid (Below.refl w0.heap.size w0)
  go_wp2
  refine wp_loop_rounds 4 ?_
  rw [rounds_succ]
  go_wp2
  go_region_held3 (fun W' => W'.cell? ⟨w.heap.size, 0, none⟩ = some (.int .i64 x1) ∧ W'.cell? ⟨w.heap.size, 1, none⟩ = some (.int .i64 x2) ∧ W'.cell? ⟨w.heap.size, 2, none⟩ = some (.int .i64 x3) ∧ W'.cell? ⟨w.heap.size + 1, 0, none⟩ = some (.int .i64 y1) ∧ W'.cell? ⟨w.heap.size + 1, 1, none⟩ = some (.int .i64 y2) ∧ W'.cell? ⟨w.heap.size + 1, 2, none⟩ = some (.int .i64 y3)) (go_keep)
    (first
      | (go_at_call 55; (with_reducible refine (X0.out _).mono ?_); rintro e w1 ⟨rfl, b1⟩; (try (have b1 := undrew b1)); have C1 := Lib.hid (chain C0.out b1); clear b1; obtain ⟨p00, p01, p02⟩ := hv0.out.below C1.out; obtain ⟨p10, p11, p12⟩ := hv1.out.below C1.out)
      | (go_at_call 55; (with_reducible refine (Y0.out _).mono ?_); rintro e w2 ⟨rfl, b2⟩; (try (have b2 := undrew b2)); have C2 := Lib.hid (chain C1.out b2); clear b2; obtain ⟨p00, p01, p02⟩ := hv0.out.below C2.out; obtain ⟨p10, p11, p12⟩ := hv1.out.below C2.out)
      | fail)
  clear k00 k01 k02 k10 k11 k12
  obtain ⟨k00, k01, k02⟩ := hv0.out.below C2.out
  obtain ⟨k10, k11, k12⟩ := hv1.out.below C2.out
  go_wp2
  go_region_held3 (fun W' => W'.cell? ⟨w.heap.size, 0, none⟩ = some (.int .i64 x1) ∧ W'.cell? ⟨w.heap.size, 1, none⟩ = some (.int .i64 x2) ∧ W'.cell? ⟨w.heap.size, 2, none⟩ = some (.int .i64 x3) ∧ W'.cell? ⟨w.heap.size + 1, 0, none⟩ = some (.int .i64 y1) ∧ W'.cell? ⟨w.heap.size + 1, 1, none⟩ = some (.int .i64 y2) ∧ W'.cell? ⟨w.heap.size + 1, 2, none⟩ = some (.int .i64 y3)) (go_keep)
    (first
      | (go_at_call 55; (with_reducible refine (X0.out _).mono ?_); rintro e w3 ⟨rfl, b3⟩; (try (have b3 := undrew b3)); have C3 := Lib.hid (chain C2.out b3); clear b3; obtain ⟨p00, p01, p02⟩ := hv0.out.below C3.out; obtain ⟨p10, p11, p12⟩ := hv1.out.below C3.out)
      | (go_at_call 55; (with_reducible refine (Y0.out _).mono ?_); rintro e w4 ⟨rfl, b4⟩; (try (have b4 := undrew b4)); have C4 := Lib.hid (chain C3.out b4); clear b4; obtain ⟨p00, p01, p02⟩ := hv0.out.below C4.out; obtain ⟨p10, p11, p12⟩ := hv1.out.below C4.out)
      | fail)
  clear k00 k01 k02 k10 k11 k12
  obtain ⟨k00, k01, k02⟩ := hv0.out.below C4.out
  obtain ⟨k10, k11, k12⟩ := hv1.out.below C4.out
  go_wp2
  go_ret
  have HB := Lib.hid (chain hb0.out C4.out)
  exact ⟨rfl, by first | exact HB.out | exact HB.out.drew⟩

set_option maxRecDepth 100000 in
set_option maxHeartbeats 4000000 in
theorem rCompare_1lt (x1 x2 x3 y1 y2 y3 : Int) (e0 : x1 = y1) (h : x2 < y2) (w : World) :
    Calls Try.prog 51 #[vv x1 x2 x3, vv y1 y2 y3] w (Ret (.int .i64 (-1)) w) := by
  subst e0
  have l0 : ¬ x1 < x1 := Int.lt_irrefl _
  have X0 := Lib.hid (fun w => rpart0 x1 x2 x3 w)
  have Y0 := Lib.hid (fun w => rpart0 x1 y2 y3 w)
  have X1 := Lib.hid (fun w => rpart1 x1 x2 x3 w)
  have Y1 := Lib.hid (fun w => rpart1 x1 y2 y3 w)
  have X2 := Lib.hid (fun w => rpart2 x1 x2 x3 w)
  have Y2 := Lib.hid (fun w => rpart2 x1 y2 y3 w)
  go_enter Try.func51, Try.ntmps51
  go_upto_region 1 with (fail)
  obtain ⟨w0, hw0⟩ : ∃ w0 : World, w0 = (w.alloc (.cells #[.int .i64 x1, .int .i64 x2, .int .i64 x3] 24)).alloc (.cells #[.int .i64 x1, .int .i64 y2, .int .i64 y3] 24) := ⟨_, rfl⟩
  have hb0 : Hid (Below w.heap.size w w0) := by rw [hw0]; exact (below_one w _).alloc (by simp) _
  have hv0 : Hid (V3 w0 w.heap.size x1 x2 x3) := by rw [hw0]; exact ⟨by simp [go_sem], by simp [go_sem], by simp [go_sem]⟩
  have hv1 : Hid (V3 w0 (w.heap.size + 1) x1 y2 y3) := by rw [hw0]; exact ⟨by simp [go_sem], by simp [go_sem], by simp [go_sem]⟩
  rw [← hw0]
  clear hw0
  obtain ⟨k00, k01, k02⟩ := hv0.out.below (Below.refl _ _)
  obtain ⟨k10, k11, k12⟩ := hv1.out.below (Below.refl _ _)
  have C0 := Lib.hid (Below.refl w0.heap.size w0)
  go_wp2
  refine wp_loop_rounds 4 ?_
  rw [rounds_succ]
  go_wp2
  go_region_held3 (fun W' => W'.cell? ⟨w.heap.size, 0, none⟩ = some (.int .i64 x1) ∧ W'.cell? ⟨w.heap.size, 1, none⟩ = some (.int .i64 x2) ∧ W'.cell? ⟨w.heap.size, 2, none⟩ = some (.int .i64 x3) ∧ W'.cell? ⟨w.heap.size + 1, 0, none⟩ = some (.int .i64 x1) ∧ W'.cell? ⟨w.heap.size + 1, 1, none⟩ = some (.int .i64 y2) ∧ W'.cell? ⟨w.heap.size + 1, 2, none⟩ = some (.int .i64 y3)) (go_keep)
    (first
      | (go_at_call 55; (with_reducible refine (X0.out _).mono ?_); rintro e w1 ⟨rfl, b1⟩; (try (have b1 := undrew b1)); have C1 := Lib.hid (chain C0.out b1); clear b1; obtain ⟨p00, p01, p02⟩ := hv0.out.below C1.out; obtain ⟨p10, p11, p12⟩ := hv1.out.below C1.out)
      | (go_at_call 55; (with_reducible refine (Y0.out _).mono ?_); rintro e w2 ⟨rfl, b2⟩; (try (have b2 := undrew b2)); have C2 := Lib.hid (chain C1.out b2); clear b2; obtain ⟨p00, p01, p02⟩ := hv0.out.below C2.out; obtain ⟨p10, p11, p12⟩ := hv1.out.below C2.out)
      | fail)
  clear k00 k01 k02 k10 k11 k12
  obtain ⟨k00, k01, k02⟩ := hv0.out.below C2.out
  obtain ⟨k10, k11, k12⟩ := hv1.out.below C2.out
  go_wp2
  go_region_held3 (fun W' => W'.cell? ⟨w.heap.size, 0, none⟩ = some (.int .i64 x1) ∧ W'.cell? ⟨w.heap.size, 1, none⟩ = some (.int .i64 x2) ∧ W'.cell? ⟨w.heap.size, 2, none⟩ = some (.int .i64 x3) ∧ W'.cell? ⟨w.heap.size + 1, 0, none⟩ = some (.int .i64 x1) ∧ W'.cell? ⟨w.heap.size + 1, 1, none⟩ = some (.int .i64 y2) ∧ W'.cell? ⟨w.heap.size + 1, 2, none⟩ = some (.int .i64 y3)) (go_keep)
    (first
      | (go_at_call 55; (with_reducible refine (X0.out _).mono ?_); rintro e w3 ⟨rfl, b3⟩; (try (have b3 := undrew b3)); have C3 := Lib.hid (chain C2.out b3); clear b3; obtain ⟨p00, p01, p02⟩ := hv0.out.below C3.out; obtain ⟨p10, p11, p12⟩ := hv1.out.below C3.out)
      | (go_at_call 55; (with_reducible refine (Y0.out _).mono ?_); rintro e w4 ⟨rfl, b4⟩; (try (have b4 := undrew b4)); have C4 := Lib.hid (chain C3.out b4); clear b4; obtain ⟨p00, p01, p02⟩ := hv0.out.below C4.out; obtain ⟨p10, p11, p12⟩ := hv1.out.below C4.out)
      | fail)
  clear k00 k01 k02 k10 k11 k12
  obtain ⟨k00, k01, k02⟩ := hv0.out.below C4.out
  obtain ⟨k10, k11, k12⟩ := hv1.out.below C4.out
  go_wp2
  rw [rounds_succ]
  go_wp2
  go_region_held3 (fun W' => W'.cell? ⟨w.heap.size, 0, none⟩ = some (.int .i64 x1) ∧ W'.cell? ⟨w.heap.size, 1, none⟩ = some (.int .i64 x2) ∧ W'.cell? ⟨w.heap.size, 2, none⟩ = some (.int .i64 x3) ∧ W'.cell? ⟨w.heap.size + 1, 0, none⟩ = some (.int .i64 x1) ∧ W'.cell? ⟨w.heap.size + 1, 1, none⟩ = some (.int .i64 y2) ∧ W'.cell? ⟨w.heap.size + 1, 2, none⟩ = some (.int .i64 y3)) (go_keep)
    (first
      | (go_at_call 55; (with_reducible refine (X1.out _).mono ?_); rintro e w5 ⟨rfl, b5⟩; (try (have b5 := undrew b5)); have C5 := Lib.hid (chain C4.out b5); clear b5; obtain ⟨p00, p01, p02⟩ := hv0.out.below C5.out; obtain ⟨p10, p11, p12⟩ := hv1.out.below C5.out)
      | (go_at_call 55; (with_reducible refine (Y1.out _).mono ?_); rintro e w6 ⟨rfl, b6⟩; (try (have b6 := undrew b6)); have C6 := Lib.hid (chain C5.out b6); clear b6; obtain ⟨p00, p01, p02⟩ := hv0.out.below C6.out; obtain ⟨p10, p11, p12⟩ := hv1.out.below C6.out)
      | fail)
  clear k00 k01 k02 k10 k11 k12
  obtain ⟨k00, k01, k02⟩ := hv0.out.below C6.out
  obtain ⟨k10, k11, k12⟩ := hv1.out.below C6.out
  go_wp2
  go_ret
  have HB := Lib.hid (chain hb0.out C6.out)
  exact ⟨rfl, by first | exact HB.out | exact HB.out.drew⟩

set_option maxRecDepth 100000 in
set_option maxHeartbeats 4000000 in
theorem rCompare_1gt (x1 x2 x3 y1 y2 y3 : Int) (e0 : x1 = y1) (h0 : ¬ x2 < y2) (h : y2 < x2) (w : World) :
    Calls Try.prog 51 #[vv x1 x2 x3, vv y1 y2 y3] w (Ret (.int .i64 1) w) := by
  subst e0
  have l0 : ¬ x1 < x1 := Int.lt_irrefl _
  have X0 := Lib.hid (fun w => rpart0 x1 x2 x3 w)
  have Y0 := Lib.hid (fun w => rpart0 x1 y2 y3 w)
  have X1 := Lib.hid (fun w => rpart1 x1 x2 x3 w)
  have Y1 := Lib.hid (fun w => rpart1 x1 y2 y3 w)
  have X2 := Lib.hid (fun w => rpart2 x1 x2 x3 w)
  have Y2 := Lib.hid (fun w => rpart2 x1 y2 y3 w)
  go_enter Try.func51, Try.ntmps51
  go_upto_region 1 with (fail)
  obtain ⟨w0, hw0⟩ : ∃ w0 : World, w0 = (w.alloc (.cells #[.int .i64 x1, .int .i64 x2, .int .i64 x3] 24)).alloc (.cells #[.int .i64 x1, .int .i64 y2, .int .i64 y3] 24) := ⟨_, rfl⟩
  have hb0 : Hid (Below w.heap.size w w0) := by rw [hw0]; exact (below_one w _).alloc (by simp) _
  have hv0 : Hid (V3 w0 w.heap.size x1 x2 x3) := by rw [hw0]; exact ⟨by simp [go_sem], by simp [go_sem], by simp [go_sem]⟩
  have hv1 : Hid (V3 w0 (w.heap.size + 1) x1 y2 y3) := by rw [hw0]; exact ⟨by simp [go_sem], by simp [go_sem], by simp [go_sem]⟩
  rw [← hw0]
  clear hw0
  obtain ⟨k00, k01, k02⟩ := hv0.out.below (Below.refl _ _)
  obtain ⟨k10, k11, k12⟩ := hv1.out.below (Below.refl _ _)
  have C0 := Lib.hid (Below.refl w0.heap.size w0)
  go_wp2
  refine wp_loop_rounds 4 ?_
  rw [rounds_succ]
  go_wp2
  go_region_held3 (fun W' => W'.cell? ⟨w.heap.size, 0, none⟩ = some (.int .i64 x1) ∧ W'.cell? ⟨w.heap.size, 1, none⟩ = some (.int .i64 x2) ∧ W'.cell? ⟨w.heap.size, 2, none⟩ = some (.int .i64 x3) ∧ W'.cell? ⟨w.heap.size + 1, 0, none⟩ = some (.int .i64 x1) ∧ W'.cell? ⟨w.heap.size + 1, 1, none⟩ = some (.int .i64 y2) ∧ W'.cell? ⟨w.heap.size + 1, 2, none⟩ = some (.int .i64 y3)) (go_keep)
    (first
      | (go_at_call 55; (with_reducible refine (X0.out _).mono ?_); rintro e w1 ⟨rfl, b1⟩; (try (have b1 := undrew b1)); have C1 := Lib.hid (chain C0.out b1); clear b1; obtain ⟨p00, p01, p02⟩ := hv0.out.below C1.out; obtain ⟨p10, p11, p12⟩ := hv1.out.below C1.out)
      | (go_at_call 55; (with_reducible refine (Y0.out _).mono ?_); rintro e w2 ⟨rfl, b2⟩; (try (have b2 := undrew b2)); have C2 := Lib.hid (chain C1.out b2); clear b2; obtain ⟨p00, p01, p02⟩ := hv0.out.below C2.out; obtain ⟨p10, p11, p12⟩ := hv1.out.below C2.out)
      | fail)
  clear k00 k01 k02 k10 k11 k12
  obtain ⟨k00, k01, k02⟩ := hv0.out.below C2.out
  obtain ⟨k10, k11, k12⟩ := hv1.out.below C2.out
  go_wp2
  go_region_held3 (fun W' => W'.cell? ⟨w.heap.size, 0, none⟩ = some (.int .i64 x1) ∧ W'.cell? ⟨w.heap.size, 1, none⟩ = some (.int .i64 x2) ∧ W'.cell? ⟨w.heap.size, 2, none⟩ = some (.int .i64 x3) ∧ W'.cell? ⟨w.heap.size + 1, 0, none⟩ = some (.int .i64 x1) ∧ W'.cell? ⟨w.heap.size + 1, 1, none⟩ = some (.int .i64 y2) ∧ W'.cell? ⟨w.heap.size + 1, 2, none⟩ = some (.int .i64 y3)) (go_keep)
    (first
      | (go_at_call 55; (with_reducible refine (X0.out _).mono ?_); rintro e w3 ⟨rfl, b3⟩; (try (have b3 := undrew b3)); have C3 := Lib.hid (chain C2.out b3); clear b3; obtain ⟨p00, p01, p02⟩ := hv0.out.below C3.out; obtain ⟨p10, p11, p12⟩ := hv1.out.below C3.out)
      | (go_at_call 55; (with_reducible refine (Y0.out _).mono ?_); rintro e w4 ⟨rfl, b4⟩; (try (have b4 := undrew b4)); have C4 := Lib.hid (chain C3.out b4); clear b4; obtain ⟨p00, p01, p02⟩ := hv0.out.below C4.out; obtain ⟨p10, p11, p12⟩ := hv1.out.below C4.out)
      | fail)
  clear k00 k01 k02 k10 k11 k12
  obtain ⟨k00, k01, k02⟩ := hv0.out.below C4.out
  obtain ⟨k10, k11, k12⟩ := hv1.out.below C4.out
  go_wp2
  rw [rounds_succ]
  go_wp2
  go_region_held3 (fun W' => W'.cell? ⟨w.heap.size, 0, none⟩ = some (.int .i64 x1) ∧ W'.cell? ⟨w.heap.size, 1, none⟩ = some (.int .i64 x2) ∧ W'.cell? ⟨w.heap.size, 2, none⟩ = some (.int .i64 x3) ∧ W'.cell? ⟨w.heap.size + 1, 0, none⟩ = some (.int .i64 x1) ∧ W'.cell? ⟨w.heap.size + 1, 1, none⟩ = some (.int .i64 y2) ∧ W'.cell? ⟨w.heap.size + 1, 2, none⟩ = some (.int .i64 y3)) (go_keep)
    (first
      | (go_at_call 55; (with_reducible refine (X1.out _).mono ?_); rintro e w5 ⟨rfl, b5⟩; (try (have b5 := undrew b5)); have C5 := Lib.hid (chain C4.out b5); clear b5; obtain ⟨p00, p01, p02⟩ := hv0.out.below C5.out; obtain ⟨p10, p11, p12⟩ := hv1.out.below C5.out)
      | (go_at_call 55; (with_reducible refine (Y1.out _).mono ?_); rintro e w6 ⟨rfl, b6⟩; (try (have b6 := undrew b6)); have C6 := Lib.hid (chain C5.out b6); clear b6; obtain ⟨p00, p01, p02⟩ := hv0.out.below C6.out; obtain ⟨p10, p11, p12⟩ := hv1.out.below C6.out)
      | fail)
  clear k00 k01 k02 k10 k11 k12
  obtain ⟨k00, k01, k02⟩ := hv0.out.below C6.out
  obtain ⟨k10, k11, k12⟩ := hv1.out.below C6.out
  go_wp2
  go_region_held3 (fun W' => W'.cell? ⟨w.heap.size, 0, none⟩ = some (.int .i64 x1) ∧ W'.cell? ⟨w.heap.size, 1, none⟩ = some (.int .i64 x2) ∧ W'.cell? ⟨w.heap.size, 2, none⟩ = some (.int .i64 x3) ∧ W'.cell? ⟨w.heap.size + 1, 0, none⟩ = some (.int .i64 x1) ∧ W'.cell? ⟨w.heap.size + 1, 1, none⟩ = some (.int .i64 y2) ∧ W'.cell? ⟨w.heap.size + 1, 2, none⟩ = some (.int .i64 y3)) (go_keep)
    (first
      | (go_at_call 55; (with_reducible refine (X1.out _).mono ?_); rintro e w7 ⟨rfl, b7⟩; (try (have b7 := undrew b7)); have C7 := Lib.hid (chain C6.out b7); clear b7; obtain ⟨p00, p01, p02⟩ := hv0.out.below C7.out; obtain ⟨p10, p11, p12⟩ := hv1.out.below C7.out)
      | (go_at_call 55; (with_reducible refine (Y1.out _).mono ?_); rintro e w8 ⟨rfl, b8⟩; (try (have b8 := undrew b8)); have C8 := Lib.hid (chain C7.out b8); clear b8; obtain ⟨p00, p01, p02⟩ := hv0.out.below C8.out; obtain ⟨p10, p11, p12⟩ := hv1.out.below C8.out)
      | fail)
  clear k00 k01 k02 k10 k11 k12
  obtain ⟨k00, k01, k02⟩ := hv0.out.below C8.out
  obtain ⟨k10, k11, k12⟩ := hv1.out.below C8.out
  go_wp2
  go_ret
  have HB := Lib.hid (chain hb0.out C8.out)
  exact ⟨rfl, by first | exact HB.out | exact HB.out.drew⟩

set_option maxRecDepth 100000 in
set_option maxHeartbeats 4000000 in
theorem rCompare_2lt (x1 x2 x3 y1 y2 y3 : Int) (e0 : x1 = y1) (e1 : x2 = y2) (h : x3 < y3) (w : World) :
    Calls Try.prog 51 #[vv x1 x2 x3, vv y1 y2 y3] w (Ret (.int .i64 (-1)) w) := by
  subst e0
  have l0 : ¬ x1 < x1 := Int.lt_irrefl _
  subst e1
  have l1 : ¬ x2 < x2 := Int.lt_irrefl _
  have X0 := Lib.hid (fun w => rpart0 x1 x2 x3 w)
  have Y0 := Lib.hid (fun w => rpart0 x1 x2 y3 w)
  have X1 := Lib.hid (fun w => rpart1 x1 x2 x3 w)
  have Y1 := Lib.hid (fun w => rpart1 x1 x2 y3 w)
  have X2 := Lib.hid (fun w => rpart2 x1 x2 x3 w)
  have Y2 := Lib.hid (fun w => rpart2 x1 x2 y3 w)
  go_enter Try.func51, Try.ntmps51
  go_upto_region 1 with (fail)
  obtain ⟨w0, hw0⟩ : ∃ w0 : World, w0 = (w.alloc (.cells #[.int .i64 x1, .int .i64 x2, .int .i64 x3] 24)).alloc (.cells #[.int .i64 x1, .int .i64 x2, .int .i64 y3] 24) := ⟨_, rfl⟩
  have hb0 : Hid (Below w.heap.size w w0) := by rw [hw0]; exact (below_one w _).alloc (by simp) _
  have hv0 : Hid (V3 w0 w.heap.size x1 x2 x3) := by rw [hw0]; exact ⟨by simp [go_sem], by simp [go_sem], by simp [go_sem]⟩
  have hv1 : Hid (V3 w0 (w.heap.size + 1) x1 x2 y3) := by rw [hw0]; exact ⟨by simp [go_sem], by simp [go_sem], by simp [go_sem]⟩
  rw [← hw0]
  clear hw0
  obtain ⟨k00, k01, k02⟩ := hv0.out.below (Below.refl _ _)
  obtain ⟨k10, k11, k12⟩ := hv1.out.below (Below.refl _ _)
  have C0 := Lib.hid (Below.refl w0.heap.size w0)
  go_wp2
  refine wp_loop_rounds 4 ?_
  rw [rounds_succ]
  go_wp2
  go_region_held3 (fun W' => W'.cell? ⟨w.heap.size, 0, none⟩ = some (.int .i64 x1) ∧ W'.cell? ⟨w.heap.size, 1, none⟩ = some (.int .i64 x2) ∧ W'.cell? ⟨w.heap.size, 2, none⟩ = some (.int .i64 x3) ∧ W'.cell? ⟨w.heap.size + 1, 0, none⟩ = some (.int .i64 x1) ∧ W'.cell? ⟨w.heap.size + 1, 1, none⟩ = some (.int .i64 x2) ∧ W'.cell? ⟨w.heap.size + 1, 2, none⟩ = some (.int .i64 y3)) (go_keep)
    (first
      | (go_at_call 55; (with_reducible refine (X0.out _).mono ?_); rintro e w1 ⟨rfl, b1⟩; (try (have b1 := undrew b1)); have C1 := Lib.hid (chain C0.out b1); clear b1; obtain ⟨p00, p01, p02⟩ := hv0.out.below C1.out; obtain ⟨p10, p11, p12⟩ := hv1.out.below C1.out)
      | (go_at_call 55; (with_reducible refine (Y0.out _).mono ?_); rintro e w2 ⟨rfl, b2⟩; (try (have b2 := undrew b2)); have C2 := Lib.hid (chain C1.out b2); clear b2; obtain ⟨p00, p01, p02⟩ := hv0.out.below C2.out; obtain ⟨p10, p11, p12⟩ := hv1.out.below C2.out)
      | fail)
  clear k00 k01 k02 k10 k11 k12
  obtain ⟨k00, k01, k02⟩ := hv0.out.below C2.out
  obtain ⟨k10, k11, k12⟩ := hv1.out.below C2.out
  go_wp2
  go_region_held3 (fun W' => W'.cell? ⟨w.heap.size, 0, none⟩ = some (.int .i64 x1) ∧ W'.cell? ⟨w.heap.size, 1, none⟩ = some (.int .i64 x2) ∧ W'.cell? ⟨w.heap.size, 2, none⟩ = some (.int .i64 x3) ∧ W'.cell? ⟨w.heap.size + 1, 0, none⟩ = some (.int .i64 x1) ∧ W'.cell? ⟨w.heap.size + 1, 1, none⟩ = some (.int .i64 x2) ∧ W'.cell? ⟨w.heap.size + 1, 2, none⟩ = some (.int .i64 y3)) (go_keep)
    (first
      | (go_at_call 55; (with_reducible refine (X0.out _).mono ?_); rintro e w3 ⟨rfl, b3⟩; (try (have b3 := undrew b3)); have C3 := Lib.hid (chain C2.out b3); clear b3; obtain ⟨p00, p01, p02⟩ := hv0.out.below C3.out; obtain ⟨p10, p11, p12⟩ := hv1.out.below C3.out)
      | (go_at_call 55; (with_reducible refine (Y0.out _).mono ?_); rintro e w4 ⟨rfl, b4⟩; (try (have b4 := undrew b4)); have C4 := Lib.hid (chain C3.out b4); clear b4; obtain ⟨p00, p01, p02⟩ := hv0.out.below C4.out; obtain ⟨p10, p11, p12⟩ := hv1.out.below C4.out)
      | fail)
  clear k00 k01 k02 k10 k11 k12
  obtain ⟨k00, k01, k02⟩ := hv0.out.below C4.out
  obtain ⟨k10, k11, k12⟩ := hv1.out.below C4.out
  go_wp2
  rw [rounds_succ]
  go_wp2
  go_region_held3 (fun W' => W'.cell? ⟨w.heap.size, 0, none⟩ = some (.int .i64 x1) ∧ W'.cell? ⟨w.heap.size, 1, none⟩ = some (.int .i64 x2) ∧ W'.cell? ⟨w.heap.size, 2, none⟩ = some (.int .i64 x3) ∧ W'.cell? ⟨w.heap.size + 1, 0, none⟩ = some (.int .i64 x1) ∧ W'.cell? ⟨w.heap.size + 1, 1, none⟩ = some (.int .i64 x2) ∧ W'.cell? ⟨w.heap.size + 1, 2, none⟩ = some (.int .i64 y3)) (go_keep)
    (first
      | (go_at_call 55; (with_reducible refine (X1.out _).mono ?_); rintro e w5 ⟨rfl, b5⟩; (try (have b5 := undrew b5)); have C5 := Lib.hid (chain C4.out b5); clear b5; obtain ⟨p00, p01, p02⟩ := hv0.out.below C5.out; obtain ⟨p10, p11, p12⟩ := hv1.out.below C5.out)
      | (go_at_call 55; (with_reducible refine (Y1.out _).mono ?_); rintro e w6 ⟨rfl, b6⟩; (try (have b6 := undrew b6)); have C6 := Lib.hid (chain C5.out b6); clear b6; obtain ⟨p00, p01, p02⟩ := hv0.out.below C6.out; obtain ⟨p10, p11, p12⟩ := hv1.out.below C6.out)
      | fail)
  clear k00 k01 k02 k10 k11 k12
  obtain ⟨k00, k01, k02⟩ := hv0.out.below C6.out
  obtain ⟨k10, k11, k12⟩ := hv1.out.below C6.out
  go_wp2
  go_region_held3 (fun W' => W'.cell? ⟨w.heap.size, 0, none⟩ = some (.int .i64 x1) ∧ W'.cell? ⟨w.heap.size, 1, none⟩ = some (.int .i64 x2) ∧ W'.cell? ⟨w.heap.size, 2, none⟩ = some (.int .i64 x3) ∧ W'.cell? ⟨w.heap.size + 1, 0, none⟩ = some (.int .i64 x1) ∧ W'.cell? ⟨w.heap.size + 1, 1, none⟩ = some (.int .i64 x2) ∧ W'.cell? ⟨w.heap.size + 1, 2, none⟩ = some (.int .i64 y3)) (go_keep)
    (first
      | (go_at_call 55; (with_reducible refine (X1.out _).mono ?_); rintro e w7 ⟨rfl, b7⟩; (try (have b7 := undrew b7)); have C7 := Lib.hid (chain C6.out b7); clear b7; obtain ⟨p00, p01, p02⟩ := hv0.out.below C7.out; obtain ⟨p10, p11, p12⟩ := hv1.out.below C7.out)
      | (go_at_call 55; (with_reducible refine (Y1.out _).mono ?_); rintro e w8 ⟨rfl, b8⟩; (try (have b8 := undrew b8)); have C8 := Lib.hid (chain C7.out b8); clear b8; obtain ⟨p00, p01, p02⟩ := hv0.out.below C8.out; obtain ⟨p10, p11, p12⟩ := hv1.out.below C8.out)
      | fail)
  clear k00 k01 k02 k10 k11 k12
  obtain ⟨k00, k01, k02⟩ := hv0.out.below C8.out
  obtain ⟨k10, k11, k12⟩ := hv1.out.below C8.out
  go_wp2
  rw [rounds_succ]
  go_wp2
  go_region_held3 (fun W' => W'.cell? ⟨w.heap.size, 0, none⟩ = some (.int .i64 x1) ∧ W'.cell? ⟨w.heap.size, 1, none⟩ = some (.int .i64 x2) ∧ W'.cell? ⟨w.heap.size, 2, none⟩ = some (.int .i64 x3) ∧ W'.cell? ⟨w.heap.size + 1, 0, none⟩ = some (.int .i64 x1) ∧ W'.cell? ⟨w.heap.size + 1, 1, none⟩ = some (.int .i64 x2) ∧ W'.cell? ⟨w.heap.size + 1, 2, none⟩ = some (.int .i64 y3)) (go_keep)
    (first
      | (go_at_call 55; (with_reducible refine (X2.out _).mono ?_); rintro e w9 ⟨rfl, b9⟩; (try (have b9 := undrew b9)); have C9 := Lib.hid (chain C8.out b9); clear b9; obtain ⟨p00, p01, p02⟩ := hv0.out.below C9.out; obtain ⟨p10, p11, p12⟩ := hv1.out.below C9.out)
      | (go_at_call 55; (with_reducible refine (Y2.out _).mono ?_); rintro e w10 ⟨rfl, b10⟩; (try (have b10 := undrew b10)); have C10 := Lib.hid (chain C9.out b10); clear b10; obtain ⟨p00, p01, p02⟩ := hv0.out.below C10.out; obtain ⟨p10, p11, p12⟩ := hv1.out.below C10.out)
      | fail)
  clear k00 k01 k02 k10 k11 k12
  obtain ⟨k00, k01, k02⟩ := hv0.out.below C10.out
  obtain ⟨k10, k11, k12⟩ := hv1.out.below C10.out
  go_wp2
  go_ret
  have HB := Lib.hid (chain hb0.out C10.out)
  exact ⟨rfl, by first | exact HB.out | exact HB.out.drew⟩

set_option maxRecDepth 100000 in
set_option maxHeartbeats 4000000 in
theorem rCompare_2gt (x1 x2 x3 y1 y2 y3 : Int) (e0 : x1 = y1) (e1 : x2 = y2) (h0 : ¬ x3 < y3) (h : y3 < x3) (w : World) :
    Calls Try.prog 51 #[vv x1 x2 x3, vv y1 y2 y3] w (Ret (.int .i64 1) w) := by
  subst e0
  have l0 : ¬ x1 < x1 := Int.lt_irrefl _
  subst e1
  have l1 : ¬ x2 < x2 := Int.lt_irrefl _
  have X0 := Lib.hid (fun w => rpart0 x1 x2 x3 w)
  have Y0 := Lib.hid (fun w => rpart0 x1 x2 y3 w)
  have X1 := Lib.hid (fun w => rpart1 x1 x2 x3 w)
  have Y1 := Lib.hid (fun w => rpart1 x1 x2 y3 w)
  have X2 := Lib.hid (fun w => rpart2 x1 x2 x3 w)
  have Y2 := Lib.hid (fun w => rpart2 x1 x2 y3 w)
  go_enter Try.func51, Try.ntmps51
  go_upto_region 1 with (fail)
  obtain ⟨w0, hw0⟩ : ∃ w0 : World, w0 = (w.alloc (.cells #[.int .i64 x1, .int .i64 x2, .int .i64 x3] 24)).alloc (.cells #[.int .i64 x1, .int .i64 x2, .int .i64 y3] 24) := ⟨_, rfl⟩
  have hb0 : Hid (Below w.heap.size w w0) := by rw [hw0]; exact (below_one w _).alloc (by simp) _
  have hv0 : Hid (V3 w0 w.heap.size x1 x2 x3) := by rw [hw0]; exact ⟨by simp [go_sem], by simp [go_sem], by simp [go_sem]⟩
  have hv1 : Hid (V3 w0 (w.heap.size + 1) x1 x2 y3) := by rw [hw0]; exact ⟨by simp [go_sem], by simp [go_sem], by simp [go_sem]⟩
  rw [← hw0]
  clear hw0
  obtain ⟨k00, k01, k02⟩ := hv0.out.below (Below.refl _ _)
  obtain ⟨k10, k11, k12⟩ := hv1.out.below (Below.refl _ _)
  have C0 := Lib.hid (Below.refl w0.heap.size w0)
  go_wp2
  refine wp_loop_rounds 4 ?_
  rw [rounds_succ]
  go_wp2
  go_region_held3 (fun W' => W'.cell? ⟨w.heap.size, 0, none⟩ = some (.int .i64 x1) ∧ W'.cell? ⟨w.heap.size, 1, none⟩ = some (.int .i64 x2) ∧ W'.cell? ⟨w.heap.size, 2, none⟩ = some (.int .i64 x3) ∧ W'.cell? ⟨w.heap.size + 1, 0, none⟩ = some (.int .i64 x1) ∧ W'.cell? ⟨w.heap.size + 1, 1, none⟩ = some (.int .i64 x2) ∧ W'.cell? ⟨w.heap.size + 1, 2, none⟩ = some (.int .i64 y3)) (go_keep)
    (first
      | (go_at_call 55; (with_reducible refine (X0.out _).mono ?_); rintro e w1 ⟨rfl, b1⟩; (try (have b1 := undrew b1)); have C1 := Lib.hid (chain C0.out b1); clear b1; obtain ⟨p00, p01, p02⟩ := hv0.out.below C1.out; obtain ⟨p10, p11, p12⟩ := hv1.out.below C1.out)
      | (go_at_call 55; (with_reducible refine (Y0.out _).mono ?_); rintro e w2 ⟨rfl, b2⟩; (try (have b2 := undrew b2)); have C2 := Lib.hid (chain C1.out b2); clear b2; obtain ⟨p00, p01, p02⟩ := hv0.out.below C2.out; obtain ⟨p10, p11, p12⟩ := hv1.out.below C2.out)
      | fail)
  clear k00 k01 k02 k10 k11 k12
  obtain ⟨k00, k01, k02⟩ := hv0.out.below C2.out
  obtain ⟨k10, k11, k12⟩ := hv1.out.below C2.out
  go_wp2
  go_region_held3 (fun W' => W'.cell? ⟨w.heap.size, 0, none⟩ = some (.int .i64 x1) ∧ W'.cell? ⟨w.heap.size, 1, none⟩ = some (.int .i64 x2) ∧ W'.cell? ⟨w.heap.size, 2, none⟩ = some (.int .i64 x3) ∧ W'.cell? ⟨w.heap.size + 1, 0, none⟩ = some (.int .i64 x1) ∧ W'.cell? ⟨w.heap.size + 1, 1, none⟩ = some (.int .i64 x2) ∧ W'.cell? ⟨w.heap.size + 1, 2, none⟩ = some (.int .i64 y3)) (go_keep)
    (first
      | (go_at_call 55; (with_reducible refine (X0.out _).mono ?_); rintro e w3 ⟨rfl, b3⟩; (try (have b3 := undrew b3)); have C3 := Lib.hid (chain C2.out b3); clear b3; obtain ⟨p00, p01, p02⟩ := hv0.out.below C3.out; obtain ⟨p10, p11, p12⟩ := hv1.out.below C3.out)
      | (go_at_call 55; (with_reducible refine (Y0.out _).mono ?_); rintro e w4 ⟨rfl, b4⟩; (try (have b4 := undrew b4)); have C4 := Lib.hid (chain C3.out b4); clear b4; obtain ⟨p00, p01, p02⟩ := hv0.out.below C4.out; obtain ⟨p10, p11, p12⟩ := hv1.out.below C4.out)
      | fail)
  clear k00 k01 k02 k10 k11 k12
  obtain ⟨k00, k01, k02⟩ := hv0.out.below C4.out
  obtain ⟨k10, k11, k12⟩ := hv1.out.below C4.out
  go_wp2
  rw [rounds_succ]
  go_wp2
  go_region_held3 (fun W' => W'.cell? ⟨w.heap.size, 0, none⟩ = some (.int .i64 x1) ∧ W'.cell? ⟨w.heap.size, 1, none⟩ = some (.int .i64 x2) ∧ W'.cell? ⟨w.heap.size, 2, none⟩ = some (.int .i64 x3) ∧ W'.cell? ⟨w.heap.size + 1, 0, none⟩ = some (.int .i64 x1) ∧ W'.cell? ⟨w.heap.size + 1, 1, none⟩ = some (.int .i64 x2) ∧ W'.cell? ⟨w.heap.size + 1, 2, none⟩ = some (.int .i64 y3)) (go_keep)
    (first
      | (go_at_call 55; (with_reducible refine (X1.out _).mono ?_); rintro e w5 ⟨rfl, b5⟩; (try (have b5 := undrew b5)); have C5 := Lib.hid (chain C4.out b5); clear b5; obtain ⟨p00, p01, p02⟩ := hv0.out.below C5.out; obtain ⟨p10, p11, p12⟩ := hv1.out.below C5.out)
      | (go_at_call 55; (with_reducible refine (Y1.out _).mono ?_); rintro e w6 ⟨rfl, b6⟩; (try (have b6 := undrew b6)); have C6 := Lib.hid (chain C5.out b6); clear b6; obtain ⟨p00, p01, p02⟩ := hv0.out.below C6.out; obtain ⟨p10, p11, p12⟩ := hv1.out.below C6.out)
      | fail)
  clear k00 k01 k02 k10 k11 k12
  obtain ⟨k00, k01, k02⟩ := hv0.out.below C6.out
  obtain ⟨k10, k11, k12⟩ := hv1.out.below C6.out
  go_wp2
  go_region_held3 (fun W' => W'.cell? ⟨w.heap.size, 0, none⟩ = some (.int .i64 x1) ∧ W'.cell? ⟨w.heap.size, 1, none⟩ = some (.int .i64 x2) ∧ W'.cell? ⟨w.heap.size, 2, none⟩ = some (.int .i64 x3) ∧ W'.cell? ⟨w.heap.size + 1, 0, none⟩ = some (.int .i64 x1) ∧ W'.cell? ⟨w.heap.size + 1, 1, none⟩ = some (.int .i64 x2) ∧ W'.cell? ⟨w.heap.size + 1, 2, none⟩ = some (.int .i64 y3)) (go_keep)
    (first
      | (go_at_call 55; (with_reducible refine (X1.out _).mono ?_); rintro e w7 ⟨rfl, b7⟩; (try (have b7 := undrew b7)); have C7 := Lib.hid (chain C6.out b7); clear b7; obtain ⟨p00, p01, p02⟩ := hv0.out.below C7.out; obtain ⟨p10, p11, p12⟩ := hv1.out.below C7.out)
      | (go_at_call 55; (with_reducible refine (Y1.out _).mono ?_); rintro e w8 ⟨rfl, b8⟩; (try (have b8 := undrew b8)); have C8 := Lib.hid (chain C7.out b8); clear b8; obtain ⟨p00, p01, p02⟩ := hv0.out.below C8.out; obtain ⟨p10, p11, p12⟩ := hv1.out.below C8.out)
      | fail)
  clear k00 k01 k02 k10 k11 k12
  obtain ⟨k00, k01, k02⟩ := hv0.out.below C8.out
  obtain ⟨k10, k11, k12⟩ := hv1.out.below C8.out
  go_wp2
  rw [rounds_succ]
  go_wp2
  go_region_held3 (fun W' => W'.cell? ⟨w.heap.size, 0, none⟩ = some (.int .i64 x1) ∧ W'.cell? ⟨w.heap.size, 1, none⟩ = some (.int .i64 x2) ∧ W'.cell? ⟨w.heap.size, 2, none⟩ = some (.int .i64 x3) ∧ W'.cell? ⟨w.heap.size + 1, 0, none⟩ = some (.int .i64 x1) ∧ W'.cell? ⟨w.heap.size + 1, 1, none⟩ = some (.int .i64 x2) ∧ W'.cell? ⟨w.heap.size + 1, 2, none⟩ = some (.int .i64 y3)) (go_keep)
    (first
      | (go_at_call 55; (with_reducible refine (X2.out _).mono ?_); rintro e w9 ⟨rfl, b9⟩; (try (have b9 := undrew b9)); have C9 := Lib.hid (chain C8.out b9); clear b9; obtain ⟨p00, p01, p02⟩ := hv0.out.below C9.out; obtain ⟨p10, p11, p12⟩ := hv1.out.below C9.out)
      | (go_at_call 55; (with_reducible refine (Y2.out _).mono ?_); rintro e w10 ⟨rfl, b10⟩; (try (have b10 := undrew b10)); have C10 := Lib.hid (chain C9.out b10); clear b10; obtain ⟨p00, p01, p02⟩ := hv0.out.below C10.out; obtain ⟨p10, p11, p12⟩ := hv1.out.below C10.out)
      | fail)
  clear k00 k01 k02 k10 k11 k12
  obtain ⟨k00, k01, k02⟩ := hv0.out.below C10.out
  obtain ⟨k10, k11, k12⟩ := hv1.out.below C10.out
  go_wp2
  go_region_held3 (fun W' => W'.cell? ⟨w.heap.size, 0, none⟩ = some (.int .i64 x1) ∧ W'.cell? ⟨w.heap.size, 1, none⟩ = some (.int .i64 x2) ∧ W'.cell? ⟨w.heap.size, 2, none⟩ = some (.int .i64 x3) ∧ W'.cell? ⟨w.heap.size + 1, 0, none⟩ = some (.int .i64 x1) ∧ W'.cell? ⟨w.heap.size + 1, 1, none⟩ = some (.int .i64 x2) ∧ W'.cell? ⟨w.heap.size + 1, 2, none⟩ = some (.int .i64 y3)) (go_keep)
    (first
      | (go_at_call 55; (with_reducible refine (X2.out _).mono ?_); rintro e w11 ⟨rfl, b11⟩; (try (have b11 := undrew b11)); have C11 := Lib.hid (chain C10.out b11); clear b11; obtain ⟨p00, p01, p02⟩ := hv0.out.below C11.out; obtain ⟨p10, p11, p12⟩ := hv1.out.below C11.out)
      | (go_at_call 55; (with_reducible refine (Y2.out _).mono ?_); rintro e w12 ⟨rfl, b12⟩; (try (have b12 := undrew b12)); have C12 := Lib.hid (chain C11.out b12); clear b12; obtain ⟨p00, p01, p02⟩ := hv0.out.below C12.out; obtain ⟨p10, p11, p12⟩ := hv1.out.below C12.out)
      | fail)
  clear k00 k01 k02 k10 k11 k12
  obtain ⟨k00, k01, k02⟩ := hv0.out.below C12.out
  obtain ⟨k10, k11, k12⟩ := hv1.out.below C12.out
  go_wp2
  go_ret
  have HB := Lib.hid (chain hb0.out C12.out)
  exact ⟨rfl, by first | exact HB.out | exact HB.out.drew⟩

set_option maxRecDepth 100000 in
set_option maxHeartbeats 4000000 in
theorem rCompare_3 (x1 x2 x3 y1 y2 y3 : Int) (e0 : x1 = y1) (e1 : x2 = y2) (e2 : x3 = y3) (w : World) :
    Calls Try.prog 51 #[vv x1 x2 x3, vv y1 y2 y3] w (Ret (.int .i64 0) w) := by
  subst e0
  have l0 : ¬ x1 < x1 := Int.lt_irrefl _
  subst e1
  have l1 : ¬ x2 < x2 := Int.lt_irrefl _
  subst e2
  have l2 : ¬ x3 < x3 := Int.lt_irrefl _
  have X0 := Lib.hid (fun w => rpart0 x1 x2 x3 w)
  have Y0 := Lib.hid (fun w => rpart0 x1 x2 x3 w)
  have X1 := Lib.hid (fun w => rpart1 x1 x2 x3 w)
  have Y1 := Lib.hid (fun w => rpart1 x1 x2 x3 w)
  have X2 := Lib.hid (fun w => rpart2 x1 x2 x3 w)
  have Y2 := Lib.hid (fun w => rpart2 x1 x2 x3 w)
  go_enter Try.func51, Try.ntmps51
  go_upto_region 1 with (fail)
  obtain ⟨w0, hw0⟩ : ∃ w0 : World, w0 = (w.alloc (.cells #[.int .i64 x1, .int .i64 x2, .int .i64 x3] 24)).alloc (.cells #[.int .i64 x1, .int .i64 x2, .int .i64 x3] 24) := ⟨_, rfl⟩
  have hb0 : Hid (Below w.heap.size w w0) := by rw [hw0]; exact (below_one w _).alloc (by simp) _
  have hv0 : Hid (V3 w0 w.heap.size x1 x2 x3) := by rw [hw0]; exact ⟨by simp [go_sem], by simp [go_sem], by simp [go_sem]⟩
  have hv1 : Hid (V3 w0 (w.heap.size + 1) x1 x2 x3) := by rw [hw0]; exact ⟨by simp [go_sem], by simp [go_sem], by simp [go_sem]⟩
  rw [← hw0]
  clear hw0
  obtain ⟨k00, k01, k02⟩ := hv0.out.below (Below.refl _ _)
  obtain ⟨k10, k11, k12⟩ := hv1.out.below (Below.refl _ _)
  have C0 := Lib.hid (Below.refl w0.heap.size w0)
  go_wp2
  refine wp_loop_rounds 4 ?_
  rw [rounds_succ]
  go_wp2
  go_region_held3 (fun W' => W'.cell? ⟨w.heap.size, 0, none⟩ = some (.int .i64 x1) ∧ W'.cell? ⟨w.heap.size, 1, none⟩ = some (.int .i64 x2) ∧ W'.cell? ⟨w.heap.size, 2, none⟩ = some (.int .i64 x3) ∧ W'.cell? ⟨w.heap.size + 1, 0, none⟩ = some (.int .i64 x1) ∧ W'.cell? ⟨w.heap.size + 1, 1, none⟩ = some (.int .i64 x2) ∧ W'.cell? ⟨w.heap.size + 1, 2, none⟩ = some (.int .i64 x3)) (go_keep)
    (first
      | (go_at_call 55; (with_reducible refine (X0.out _).mono ?_); rintro e w1 ⟨rfl, b1⟩; (try (have b1 := undrew b1)); have C1 := Lib.hid (chain C0.out b1); clear b1; obtain ⟨p00, p01, p02⟩ := hv0.out.below C1.out; obtain ⟨p10, p11, p12⟩ := hv1.out.below C1.out)
      | (go_at_call 55; (with_reducible refine (Y0.out _).mono ?_); rintro e w2 ⟨rfl, b2⟩; (try (have b2 := undrew b2)); have C2 := Lib.hid (chain C1.out b2); clear b2; obtain ⟨p00, p01, p02⟩ := hv0.out.below C2.out; obtain ⟨p10, p11, p12⟩ := hv1.out.below C2.out)
      | fail)
  clear k00 k01 k02 k10 k11 k12
  obtain ⟨k00, k01, k02⟩ := hv0.out.below C2.out
  obtain ⟨k10, k11, k12⟩ := hv1.out.below C2.out
  go_wp2
  go_region_held3 (fun W' => W'.cell? ⟨w.heap.size, 0, none⟩ = some (.int .i64 x1) ∧ W'.cell? ⟨w.heap.size, 1, none⟩ = some (.int .i64 x2) ∧ W'.cell? ⟨w.heap.size, 2, none⟩ = some (.int .i64 x3) ∧ W'.cell? ⟨w.heap.size + 1, 0, none⟩ = some (.int .i64 x1) ∧ W'.cell? ⟨w.heap.size + 1, 1, none⟩ = some (.int .i64 x2) ∧ W'.cell? ⟨w.heap.size + 1, 2, none⟩ = some (.int .i64 x3)) (go_keep)
    (first
      | (go_at_call 55; (with_reducible refine (X0.out _).mono ?_); rintro e w3 ⟨rfl, b3⟩; (try (have b3 := undrew b3)); have C3 := Lib.hid (chain C2.out b3); clear b3; obtain ⟨p00, p01, p02⟩ := hv0.out.below C3.out; obtain ⟨p10, p11, p12⟩ := hv1.out.below C3.out)
      | (go_at_call 55; (with_reducible refine (Y0.out _).mono ?_); rintro e w4 ⟨rfl, b4⟩; (try (have b4 := undrew b4)); have C4 := Lib.hid (chain C3.out b4); clear b4; obtain ⟨p00, p01, p02⟩ := hv0.out.below C4.out; obtain ⟨p10, p11, p12⟩ := hv1.out.below C4.out)
      | fail)
  clear k00 k01 k02 k10 k11 k12
  obtain ⟨k00, k01, k02⟩ := hv0.out.below C4.out
  obtain ⟨k10, k11, k12⟩ := hv1.out.below C4.out
  go_wp2
  rw [rounds_succ]
  go_wp2
  go_region_held3 (fun W' => W'.cell? ⟨w.heap.size, 0, none⟩ = some (.int .i64 x1) ∧ W'.cell? ⟨w.heap.size, 1, none⟩ = some (.int .i64 x2) ∧ W'.cell? ⟨w.heap.size, 2, none⟩ = some (.int .i64 x3) ∧ W'.cell? ⟨w.heap.size + 1, 0, none⟩ = some (.int .i64 x1) ∧ W'.cell? ⟨w.heap.size + 1, 1, none⟩ = some (.int .i64 x2) ∧ W'.cell? ⟨w.heap.size + 1, 2, none⟩ = some (.int .i64 x3)) (go_keep)
    (first
      | (go_at_call 55; (with_reducible refine (X1.out _).mono ?_); rintro e w5 ⟨rfl, b5⟩; (try (have b5 := undrew b5)); have C5 := Lib.hid (chain C4.out b5); clear b5; obtain ⟨p00, p01, p02⟩ := hv0.out.below C5.out; obtain ⟨p10, p11, p12⟩ := hv1.out.below C5.out)
      | (go_at_call 55; (with_reducible refine (Y1.out _).mono ?_); rintro e w6 ⟨rfl, b6⟩; (try (have b6 := undrew b6)); have C6 := Lib.hid (chain C5.out b6); clear b6; obtain ⟨p00, p01, p02⟩ := hv0.out.below C6.out; obtain ⟨p10, p11, p12⟩ := hv1.out.below C6.out)
      | fail)
  clear k00 k01 k02 k10 k11 k12
  obtain ⟨k00, k01, k02⟩ := hv0.out.below C6.out
  obtain ⟨k10, k11, k12⟩ := hv1.out.below C6.out
  go_wp2
  go_region_held3 (fun W' => W'.cell? ⟨w.heap.size, 0, none⟩ = some (.int .i64 x1) ∧ W'.cell? ⟨w.heap.size, 1, none⟩ = some (.int .i64 x2) ∧ W'.cell? ⟨w.heap.size, 2, none⟩ = some (.int .i64 x3) ∧ W'.cell? ⟨w.heap.size + 1, 0, none⟩ = some (.int .i64 x1) ∧ W'.cell? ⟨w.heap.size + 1, 1, none⟩ = some (.int .i64 x2) ∧ W'.cell? ⟨w.heap.size + 1, 2, none⟩ = some (.int .i64 x3)) (go_keep)
    (first
      | (go_at_call 55; (with_reducible refine (X1.out _).mono ?_); rintro e w7 ⟨rfl, b7⟩; (try (have b7 := undrew b7)); have C7 := Lib.hid (chain C6.out b7); clear b7; obtain ⟨p00, p01, p02⟩ := hv0.out.below C7.out; obtain ⟨p10, p11, p12⟩ := hv1.out.below C7.out)
      | (go_at_call 55; (with_reducible refine (Y1.out _).mono ?_); rintro e w8 ⟨rfl, b8⟩; (try (have b8 := undrew b8)); have C8 := Lib.hid (chain C7.out b8); clear b8; obtain ⟨p00, p01, p02⟩ := hv0.out.below C8.out; obtain ⟨p10, p11, p12⟩ := hv1.out.below C8.out)
      | fail)
  clear k00 k01 k02 k10 k11 k12
  obtain ⟨k00, k01, k02⟩ := hv0.out.below C8.out
  obtain ⟨k10, k11, k12⟩ := hv1.out.below C8.out
  go_wp2
  rw [rounds_succ]
  go_wp2
  go_region_held3 (fun W' => W'.cell? ⟨w.heap.size, 0, none⟩ = some (.int .i64 x1) ∧ W'.cell? ⟨w.heap.size, 1, none⟩ = some (.int .i64 x2) ∧ W'.cell? ⟨w.heap.size, 2, none⟩ = some (.int .i64 x3) ∧ W'.cell? ⟨w.heap.size + 1, 0, none⟩ = some (.int .i64 x1) ∧ W'.cell? ⟨w.heap.size + 1, 1, none⟩ = some (.int .i64 x2) ∧ W'.cell? ⟨w.heap.size + 1, 2, none⟩ = some (.int .i64 x3)) (go_keep)
    (first
      | (go_at_call 55; (with_reducible refine (X2.out _).mono ?_); rintro e w9 ⟨rfl, b9⟩; (try (have b9 := undrew b9)); have C9 := Lib.hid (chain C8.out b9); clear b9; obtain ⟨p00, p01, p02⟩ := hv0.out.below C9.out; obtain ⟨p10, p11, p12⟩ := hv1.out.below C9.out)
      | (go_at_call 55; (with_reducible refine (Y2.out _).mono ?_); rintro e w10 ⟨rfl, b10⟩; (try (have b10 := undrew b10)); have C10 := Lib.hid (chain C9.out b10); clear b10; obtain ⟨p00, p01, p02⟩ := hv0.out.below C10.out; obtain ⟨p10, p11, p12⟩ := hv1.out.below C10.out)
      | fail)
  clear k00 k01 k02 k10 k11 k12
  obtain ⟨k00, k01, k02⟩ := hv0.out.below C10.out
  obtain ⟨k10, k11, k12⟩ := hv1.out.below C10.out
  go_wp2
  go_region_held3 (fun W' => W'.cell? ⟨w.heap.size, 0, none⟩ = some (.int .i64 x1) ∧ W'.cell? ⟨w.heap.size, 1, none⟩ = some (.int .i64 x2) ∧ W'.cell? ⟨w.heap.size, 2, none⟩ = some (.int .i64 x3) ∧ W'.cell? ⟨w.heap.size + 1, 0, none⟩ = some (.int .i64 x1) ∧ W'.cell? ⟨w.heap.size + 1, 1, none⟩ = some (.int .i64 x2) ∧ W'.cell? ⟨w.heap.size + 1, 2, none⟩ = some (.int .i64 x3)) (go_keep)
    (first
      | (go_at_call 55; (with_reducible refine (X2.out _).mono ?_); rintro e w11 ⟨rfl, b11⟩; (try (have b11 := undrew b11)); have C11 := Lib.hid (chain C10.out b11); clear b11; obtain ⟨p00, p01, p02⟩ := hv0.out.below C11.out; obtain ⟨p10, p11, p12⟩ := hv1.out.below C11.out)
      | (go_at_call 55; (with_reducible refine (Y2.out _).mono ?_); rintro e w12 ⟨rfl, b12⟩; (try (have b12 := undrew b12)); have C12 := Lib.hid (chain C11.out b12); clear b12; obtain ⟨p00, p01, p02⟩ := hv0.out.below C12.out; obtain ⟨p10, p11, p12⟩ := hv1.out.below C12.out)
      | fail)
  clear k00 k01 k02 k10 k11 k12
  obtain ⟨k00, k01, k02⟩ := hv0.out.below C12.out
  obtain ⟨k10, k11, k12⟩ := hv1.out.below C12.out
  go_wp2
  rw [rounds_succ]
  go_wp2
  go_ret
  have HB := Lib.hid (chain hb0.out C12.out)
  exact ⟨rfl, by first | exact HB.out | exact HB.out.drew⟩
end Go.Proofs.Ytpkfngfenkcjoaa

/- Vectors that are compared. -/
set_option linter.all false
namespace Go.Proofs.Ytpkfngfenkcjoaa
open Go.RowKit

/-- Two vectors are the same. -/
def vE (x1 x2 x3 y1 y2 y3 : Int) : Bool := decide (x1 = y1 ∧ x2 = y2 ∧ x3 = y3)
theorem vE_iff {x1 x2 x3 y1 y2 y3 : Int} : vE x1 x2 x3 y1 y2 y3 = true ↔ x1 = y1 ∧ x2 = y2 ∧ x3 = y3 := by unfold vE; rw [decide_eq_true_iff]
theorem vE_refl (x y z : Int) : vE x y z x y z = true := vE_iff.2 ⟨rfl, rfl, rfl⟩
theorem eq_vec (w : World) (x1 x2 x3 y1 y2 y3 : Int) : (binOp .eql 24 (vv x1 x2 x3) (vv y1 y2 y3)).run Try.prog w = .ok (.bool (vE x1 x2 x3 y1 y2 y3)) w := by
  have hu := Try.underlying24
  have hs : Try.prog.stoodInHeld 24 = false := by kernel_rfl
  rw [run_eql_struct, show (10000 : Nat) = 9999 + 1 from rfl, run_equalIn_agg w 9999 _ _ _ (by simp only [Program.fieldsOf, hu]) hs]
  simp only [Program.fieldsOf, hu]
  unfold vE
  by_cases h1 : x1 = y1 <;> by_cases h2 : x2 = y2 <;> by_cases h3 : x3 = y3 <;> simp [Op.eqFields, go_sem, part, Try.underlying3, h1, h2, h3]
theorem neq_vec (w : World) (x1 x2 x3 y1 y2 y3 : Int) : (binOp .neq 24 (vv x1 x2 x3) (vv y1 y2 y3)).run Try.prog w = .ok (.bool (!vE x1 x2 x3 y1 y2 y3)) w := by
  have hu := Try.underlying24
  have hs : Try.prog.stoodInHeld 24 = false := by kernel_rfl
  rw [run_neq_struct, show (10000 : Nat) = 9999 + 1 from rfl, run_equalIn_agg w 9999 _ _ _ (by simp only [Program.fieldsOf, hu]) hs]
  simp only [Program.fieldsOf, hu]
  unfold vE
  by_cases h1 : x1 = y1 <;> by_cases h2 : x2 = y2 <;> by_cases h3 : x3 = y3 <;> simp [Op.eqFields, go_sem, part, Try.underlying3, h1, h2, h3]
end Go.Proofs.Ytpkfngfenkcjoaa

/- The reference's Scale. -/
set_option linter.all false
namespace Go.Proofs.Ytpkfngfenkcjoaa
open Go.RowKit

end Go.Proofs.Ytpkfngfenkcjoaa

/- vector's functions and the reference's, with what they give for valid vectors. -/
set_option linter.all false
namespace Go.Proofs.Ytpkfngfenkcjoaa
open Go.RowKit

theorem mul_bd {x y M N : Int} (hx : -M ≤ x ∧ x ≤ M) (hy : -N ≤ y ∧ y ≤ N) : -(M * N) ≤ x * y ∧ x * y ≤ M * N := by
  have hM : 0 ≤ M := by omega
  have hN : 0 ≤ N := by omega
  have a1 : 0 ≤ (M - x) * (N - y) := Int.mul_nonneg (by omega) (by omega)
  have a2 : 0 ≤ (M + x) * (N + y) := Int.mul_nonneg (by omega) (by omega)
  have a3 : 0 ≤ (M - x) * (N + y) := Int.mul_nonneg (by omega) (by omega)
  have a4 : 0 ≤ (M + x) * (N - y) := Int.mul_nonneg (by omega) (by omega)
  constructor <;> grind

/-- Parts of a limited magnitude. -/
def BV (m x y z : Int) : Prop := (-m ≤ x ∧ x ≤ m) ∧ (-m ≤ y ∧ y ≤ m) ∧ (-m ≤ z ∧ z ≤ m)
theorem bv_of {m x y z : Int} (h : inV m x y z = true) : BV m x y z := inV_iff.1 h
theorem inL2 {x1 x2 x3 y1 y2 y3 : Int} {m : Int} (hx : inV m x1 x2 x3 = true) (hy : inV m y1 y2 y3 = true) : inL m [(x1, x2, x3), (y1, y2, y3)] = true := by simp [inL, hx, hy]
theorem inL3 {x1 x2 x3 y1 y2 y3 z1 z2 z3 : Int} {m : Int} (hx : inV m x1 x2 x3 = true) (hy : inV m y1 y2 y3 = true) (hz : inV m z1 z2 z3 = true) : inL m [(x1, x2, x3), (y1, y2, y3), (z1, z2, z3)] = true := by simp [inL, hx, hy, hz]

/-- A vector if it is valid, or the error for a result that is none. -/
def ckd (x y z : Int) : T3 × Int := if inV 16777216 x y z = true then ((x, y, z), 0) else ((0, 0, 0), 3)
theorem checked_any (x y z : Int) (w : World) : Calls Try.prog 74 #[vv x y z] w (Ret (.tuple #[vv (ckd x y z).1.1 (ckd x y z).1.2.1 (ckd x y z).1.2.2, .int .i64 (ckd x y z).2]) w) := by
  unfold ckd
  by_cases h : inV 16777216 x y z = true
  · rw [if_pos h]; exact checked_ok x y z h w
  · rw [if_neg h]; exact checked_bad x y z (by simpa using h) w

section
variable {x1 x2 x3 y1 y2 y3 z1 z2 z3 : Int}
theorem Sub_any (hx : inV 16777216 x1 x2 x3 = true) (hy : inV 16777216 y1 y2 y3 = true) (w : World) :
    Calls Try.prog 67 #[vv x1 x2 x3, vv y1 y2 y3] w (Ret (.tuple #[vv (ckd (x1 - y1) (x2 - y2) (x3 - y3)).1.1 (ckd (x1 - y1) (x2 - y2) (x3 - y3)).1.2.1 (ckd (x1 - y1) (x2 - y2) (x3 - y3)).1.2.2, .int .i64 (ckd (x1 - y1) (x2 - y2) (x3 - y3)).2]) w) := by
  obtain ⟨a1, a2, a3⟩ := bv_of hx
  obtain ⟨b1, b2, b3⟩ := bv_of hy
  exact Sub_way _ _ _ _ _ _ _ _ _ _ _ _ _ (inL2 hx hy) (fun w => difference_any _ _ _ _ _ _ _ _ _ (wrap_in (by omega)) (wrap_in (by omega)) (wrap_in (by omega)) w) (fun w => checked_any _ _ _ w) w

/-- The scalar product. -/
def dt (x1 x2 x3 y1 y2 y3 : Int) : Int := x1 * y1 + x2 * y2 + x3 * y3
theorem dot_ok {M : Int} (hM : 0 ≤ M ∧ M ≤ 33554432) (hx : BV M x1 x2 x3) (hy : BV M y1 y2 y3) (w : World) :
    Calls Try.prog 69 #[vv x1 x2 x3, vv y1 y2 y3] w (Ret (.int .i64 (dt x1 x2 x3 y1 y2 y3)) w) := by
  obtain ⟨a1, a2, a3⟩ := hx
  obtain ⟨b1, b2, b3⟩ := hy
  have hq : M * M ≤ 33554432 * 33554432 := (mul_bd (M := 33554432) (N := 33554432) (by omega) (by omega)).2
  have c1 := mul_bd a1 b1
  have c2 := mul_bd a2 b2
  have c3 := mul_bd a3 b3
  refine dot_any x1 x2 x3 y1 y2 y3 (x1 * y1) (x2 * y2) (x3 * y3) (x1 * y1 + x2 * y2) _ (wrap_in (by omega)) (wrap_in (by omega)) (wrap_in (by omega)) (wrap_in (by omega)) (wrap_in (by omega)) w
theorem Dot_any (hx : inV 16777216 x1 x2 x3 = true) (hy : inV 16777216 y1 y2 y3 = true) (w : World) :
    Calls Try.prog 49 #[vv x1 x2 x3, vv y1 y2 y3] w (Ret (.tuple #[.int .i64 (dt x1 x2 x3 y1 y2 y3), .int .i64 0]) w) :=
  Dot_way _ _ _ _ _ _ _ (inL2 hx hy) (fun w => dot_ok (by omega) (bv_of hx) (bv_of hy) w) w
theorem diff_ok {M : Int} (hM : 0 ≤ M ∧ M ≤ 16777216) (hx : BV M x1 x2 x3) (hy : BV M y1 y2 y3) (w : World) :
    Calls Try.prog 68 #[vv x1 x2 x3, vv y1 y2 y3] w (Ret (vv (x1 - y1) (x2 - y2) (x3 - y3)) w) := by
  obtain ⟨a1, a2, a3⟩ := hx
  obtain ⟨b1, b2, b3⟩ := hy
  exact difference_any _ _ _ _ _ _ _ _ _ (wrap_in (by omega)) (wrap_in (by omega)) (wrap_in (by omega)) w
theorem bv_diff {M : Int} (hx : BV M x1 x2 x3) (hy : BV M y1 y2 y3) : BV (2 * M) (x1 - y1) (x2 - y2) (x3 - y3) := by
  obtain ⟨a1, a2, a3⟩ := hx
  obtain ⟨b1, b2, b3⟩ := hy
  exact ⟨by omega, by omega, by omega⟩
theorem Distance2_any (hx : inV 16777216 x1 x2 x3 = true) (hy : inV 16777216 y1 y2 y3 = true) (w : World) :
    Calls Try.prog 47 #[vv x1 x2 x3, vv y1 y2 y3] w (Ret (.tuple #[.int .i64 (dt (x1 - y1) (x2 - y2) (x3 - y3) (x1 - y1) (x2 - y2) (x3 - y3)), .int .i64 0]) w) := by
  have hd := bv_diff (bv_of hx) (bv_of hy)
  exact Distance2_way _ _ _ _ _ _ _ _ _ _ (inL2 hx hy) (fun w => diff_ok (by omega) (bv_of hx) (bv_of hy) w) (fun w => dot_ok (by omega) hd hd w) w
theorem cross_ok {M N : Int} (hM : 0 ≤ M ∧ M ≤ 33554432) (hN : 0 ≤ N ∧ N ≤ 33554432) (hx : BV M x1 x2 x3) (hy : BV N y1 y2 y3) (w : World) :
    Calls Try.prog 66 #[vv x1 x2 x3, vv y1 y2 y3] w (Ret (vv (x2 * y3 - x3 * y2) (x3 * y1 - x1 * y3) (x1 * y2 - x2 * y1)) w) := by
  obtain ⟨a1, a2, a3⟩ := hx
  obtain ⟨b1, b2, b3⟩ := hy
  have hq : M * N ≤ 33554432 * 33554432 := (mul_bd (M := 33554432) (N := 33554432) (by omega) (by omega)).2
  have c1 := mul_bd a2 b3
  have c2 := mul_bd a3 b2
  have c3 := mul_bd a3 b1
  have c4 := mul_bd a1 b3
  have c5 := mul_bd a1 b2
  have c6 := mul_bd a2 b1
  exact cross_any x1 x2 x3 y1 y2 y3 _ _ _ _ _ _ _ _ _ (wrap_in (by omega)) (wrap_in (by omega)) (wrap_in (by omega)) (wrap_in (by omega)) (wrap_in (by omega)) (wrap_in (by omega)) (wrap_in (by omega)) (wrap_in (by omega)) (wrap_in (by omega)) w
theorem Cross_any (hx : inV 16777216 x1 x2 x3 = true) (hy : inV 16777216 y1 y2 y3 = true) (w : World) :
    Calls Try.prog 44 #[vv x1 x2 x3, vv y1 y2 y3] w (Ret (.tuple #[vv (x2 * y3 - x3 * y2) (x3 * y1 - x1 * y3) (x1 * y2 - x2 * y1), .int .i64 0]) w) :=
  Cross_way _ _ _ _ _ _ _ _ _ (inL2 hx hy) (fun w => cross_ok (by omega) (by omega) (bv_of hx) (bv_of hy) w) w
/-- Twice the area of the triangle, seen from above. -/
def tz (x1 x2 y1 y2 z1 z2 : Int) : Int := (y1 - x1) * (z2 - x2) - (y2 - x2) * (z1 - x1)
theorem Turn_any (hx : inV 16777216 x1 x2 x3 = true) (hy : inV 16777216 y1 y2 y3 = true) (hz : inV 16777216 z1 z2 z3 = true) (w : World) :
    Calls Try.prog 63 #[vv x1 x2 x3, vv y1 y2 y3, vv z1 z2 z3] w (Ret (.tuple #[.int .i64 (cmpI (tz x1 x2 y1 y2 z1 z2) 0), .int .i64 0]) w) :=
  Turn_way _ _ _ _ _ _ _ _ _ _ _ _ _ _ _ _ _ _ (inL3 hx hy hz) (fun w => diff_ok (by omega) (bv_of hy) (bv_of hx) w) (fun w => diff_ok (by omega) (bv_of hz) (bv_of hx) w)
    (fun w => cross_ok (by omega) (by omega) (bv_diff (bv_of hy) (bv_of hx)) (bv_diff (bv_of hz) (bv_of hx)) w) w

/-- A part of the point between. -/
def bt (x y num den : Int) : Int := x + nr ((y - x) * num) den
theorem nr_le {n d k : Int} (hd : 0 < d) (h : n ≤ k * d) : nr n d ≤ k := by
  unfold nr
  have e : (k + 1) * (2 * d) = 2 * (k * d) + 2 * d := by rw [Int.add_mul, Int.one_mul, Int.mul_left_comm]
  have : (2 * n + d) / (2 * d) < k + 1 := Int.ediv_lt_of_lt_mul (by omega) (by omega)
  omega
theorem le_nr {n d k : Int} (hd : 0 < d) (h : k * d ≤ n) : k ≤ nr n d := by
  unfold nr
  have e : k * (2 * d) = 2 * (k * d) := by rw [Int.mul_left_comm]
  exact Int.le_ediv_of_mul_le (by omega) (by omega)
theorem nr_up {a num den : Int} (hd : 0 < den) (hn : 0 ≤ num ∧ num ≤ den) (ha : 0 ≤ a) : 0 ≤ nr (a * num) den ∧ nr (a * num) den ≤ a := by
  have h1 : 0 ≤ a * num := Int.mul_nonneg ha hn.1
  have h2 : a * num ≤ a * den := Int.mul_le_mul_of_nonneg_left hn.2 ha
  exact ⟨le_nr hd (by omega), nr_le hd h2⟩
theorem nr_dn {a num den : Int} (hd : 0 < den) (hn : 0 ≤ num ∧ num ≤ den) (ha : a ≤ 0) : a ≤ nr (a * num) den ∧ nr (a * num) den ≤ 0 := by
  have h1 : 0 ≤ -a * num := Int.mul_nonneg (by omega) hn.1
  have h2 : -a * num ≤ -a * den := Int.mul_le_mul_of_nonneg_left hn.2 (by omega)
  rw [Int.neg_mul] at h1 h2
  rw [Int.neg_mul] at h2
  exact ⟨le_nr hd (by omega), nr_le hd (by omega)⟩
/-- The point between lies between. -/
theorem bt_between {x y num den : Int} (hd : 0 < den) (hn : 0 ≤ num ∧ num ≤ den) : (x ≤ bt x y num den ∧ bt x y num den ≤ y) ∨ (y ≤ bt x y num den ∧ bt x y num den ≤ x) := by
  unfold bt
  rcases Int.le_total 0 (y - x) with h | h
  · have := nr_up hd hn h; omega
  · have := nr_dn hd hn h; omega
theorem nr_zero {den : Int} (hd : 0 < den) : nr 0 den = 0 := by
  have h1 := nr_le (n := 0) (k := 0) hd (by omega)
  have h2 := le_nr (n := 0) (k := 0) hd (by omega)
  omega
theorem nr_self {a den : Int} (hd : 0 < den) : nr (a * den) den = a := by
  have h1 := nr_le (n := a * den) (k := a) hd (Int.le_refl _)
  have h2 := le_nr (n := a * den) (k := a) hd (Int.le_refl _)
  omega
theorem bt_zero {x y den : Int} (hd : 0 < den) : bt x y 0 den = x := by unfold bt; rw [Int.mul_zero, nr_zero hd]; omega
theorem bt_den {x y den : Int} (hd : 0 < den) : bt x y den den = y := by unfold bt; rw [nr_self hd]; omega

/-! The reference. -/
theorem rAdd_ok {M : Int} (hM : 0 ≤ M ∧ M ≤ 1099511627776) (hx : BV M x1 x2 x3) (hy : BV M y1 y2 y3) (w : World) :
    Calls Try.prog 56 #[vv x1 x2 x3, vv y1 y2 y3] w (Ret (vv (x1 + y1) (x2 + y2) (x3 + y3)) w) := by
  obtain ⟨a1, a2, a3⟩ := hx
  obtain ⟨b1, b2, b3⟩ := hy
  exact rAdd_any _ _ _ _ _ _ _ _ _ (wrap_in (by omega)) (wrap_in (by omega)) (wrap_in (by omega)) w
theorem rSub_ok {M : Int} (hM : 0 ≤ M ∧ M ≤ 1099511627776) (hx : BV M x1 x2 x3) (hy : BV M y1 y2 y3) (w : World) :
    Calls Try.prog 30 #[vv x1 x2 x3, vv y1 y2 y3] w (Ret (vv (x1 - y1) (x2 - y2) (x3 - y3)) w) := by
  obtain ⟨a1, a2, a3⟩ := hx
  obtain ⟨b1, b2, b3⟩ := hy
  refine rSub_way _ _ _ _ _ _ (-y1) (-y2) (-y3) _ _ _ (fun w => rNeg_any _ _ _ _ _ _ (wrap_in (by omega)) (wrap_in (by omega)) (wrap_in (by omega)) w) (fun w => rAdd_any _ _ _ _ _ _ _ _ _ ?_ ?_ ?_ w) w
  · rw [← Int.sub_eq_add_neg]; exact wrap_in (by omega)
  · rw [← Int.sub_eq_add_neg]; exact wrap_in (by omega)
  · rw [← Int.sub_eq_add_neg]; exact wrap_in (by omega)
theorem rDot_ok {M : Int} (hM : 0 ≤ M ∧ M ≤ 33554432) (hx : BV M x1 x2 x3) (hy : BV M y1 y2 y3) (w : World) :
    Calls Try.prog 54 #[vv x1 x2 x3, vv y1 y2 y3] w (Ret (.int .i64 (dt x1 x2 x3 y1 y2 y3)) w) := by
  obtain ⟨a1, a2, a3⟩ := hx
  obtain ⟨b1, b2, b3⟩ := hy
  have hq : M * M ≤ 33554432 * 33554432 := (mul_bd (M := 33554432) (N := 33554432) (by omega) (by omega)).2
  have c1 := mul_bd a1 b1
  have c2 := mul_bd a2 b2
  have c3 := mul_bd a3 b3
  exact rDot_any x1 x2 x3 y1 y2 y3 (x1 * y1) (x2 * y2) (x3 * y3) (x1 * y1 + x2 * y2) _ (wrap_in (by omega)) (wrap_in (by omega)) (wrap_in (by omega)) (by rw [Int.zero_add]; exact wrap_in (by omega)) (wrap_in (by omega)) (wrap_in (by omega)) w
theorem rCross_ok {M N : Int} (hM : 0 ≤ M ∧ M ≤ 33554432) (hN : 0 ≤ N ∧ N ≤ 33554432) (hx : BV M x1 x2 x3) (hy : BV N y1 y2 y3) (w : World) :
    Calls Try.prog 29 #[vv x1 x2 x3, vv y1 y2 y3] w (Ret (vv (x2 * y3 - x3 * y2) (x3 * y1 - x1 * y3) (x1 * y2 - x2 * y1)) w) := by
  obtain ⟨a1, a2, a3⟩ := hx
  obtain ⟨b1, b2, b3⟩ := hy
  have hq : M * N ≤ 33554432 * 33554432 := (mul_bd (M := 33554432) (N := 33554432) (by omega) (by omega)).2
  have c1 := mul_bd a2 b3
  have c2 := mul_bd a3 b2
  have c3 := mul_bd a3 b1
  have c4 := mul_bd a1 b3
  have c5 := mul_bd a1 b2
  have c6 := mul_bd a2 b1
  exact rCross_any x1 x2 x3 y1 y2 y3 _ _ _ _ _ _ _ _ _ (wrap_in (by omega)) (wrap_in (by omega)) (wrap_in (by omega)) (wrap_in (by omega)) (wrap_in (by omega)) (wrap_in (by omega)) (wrap_in (by omega)) (wrap_in (by omega)) (wrap_in (by omega)) w
theorem rDistance2_any (hx : inV 16777216 x1 x2 x3 = true) (hy : inV 16777216 y1 y2 y3 = true) (w : World) :
    Calls Try.prog 28 #[vv x1 x2 x3, vv y1 y2 y3] w (Ret (.int .i64 (dt (x1 - y1) (x2 - y2) (x3 - y3) (x1 - y1) (x2 - y2) (x3 - y3))) w) := by
  have hd := bv_diff (bv_of hx) (bv_of hy)
  exact rDistance2_way _ _ _ _ _ _ _ _ _ _ (fun w => rSub_ok (by omega) (bv_of hx) (bv_of hy) w) (fun w => rDot_ok (by omega) hd hd w) w
theorem rTurn_any (hx : inV 16777216 x1 x2 x3 = true) (hy : inV 16777216 y1 y2 y3 = true) (hz : inV 16777216 z1 z2 z3 = true) (w : World) :
    Calls Try.prog 53 #[vv x1 x2 x3, vv y1 y2 y3, vv z1 z2 z3] w (Ret (.int .i64 (cmpI (tz x1 x2 y1 y2 z1 z2) 0)) w) := by
  have H1 := fun w => rSub_ok (M := 16777216) (by omega) (bv_of hy) (bv_of hx) w
  have H2 := fun w => rSub_ok (M := 16777216) (by omega) (bv_of hz) (bv_of hx) w
  have H3 := fun w => rCross_ok (by omega) (by omega) (bv_diff (bv_of hy) (bv_of hx)) (bv_diff (bv_of hz) (bv_of hx)) w
  by_cases h : 0 < tz x1 x2 y1 y2 z1 z2
  · rw [show cmpI (tz x1 x2 y1 y2 z1 z2) 0 = 1 by unfold cmpI; rw [if_neg (by omega), if_pos h]]
    exact rTurn_p _ _ _ _ _ _ _ _ _ _ _ _ _ _ _ _ _ _ h H1 H2 H3 w
  by_cases h2 : tz x1 x2 y1 y2 z1 z2 < 0
  · rw [show cmpI (tz x1 x2 y1 y2 z1 z2) 0 = -1 by unfold cmpI; rw [if_pos h2]]
    exact rTurn_n _ _ _ _ _ _ _ _ _ _ _ _ _ _ _ _ _ _ h h2 H1 H2 H3 w
  · rw [show cmpI (tz x1 x2 y1 y2 z1 z2) 0 = 0 by unfold cmpI; rw [if_neg h2, if_neg (by omega)]]
    exact rTurn_z _ _ _ _ _ _ _ _ _ _ _ _ _ _ _ _ _ _ h h2 H1 H2 H3 w
/-- The order of vectors. -/
def vC (x1 x2 x3 y1 y2 y3 : Int) : Int := if cmpI x1 y1 ≠ 0 then cmpI x1 y1 else if cmpI x2 y2 ≠ 0 then cmpI x2 y2 else cmpI x3 y3
theorem cmpI_zero {a b : Int} : cmpI a b = 0 ↔ a = b := by unfold cmpI; split <;> (try split) <;> omega
theorem Compare_any (w : World) : Calls Try.prog 59 #[vv x1 x2 x3, vv y1 y2 y3] w (Ret (.int .i64 (vC x1 x2 x3 y1 y2 y3)) w) := by
  unfold vC
  by_cases h1 : cmpI x1 y1 = 0
  · rw [if_neg (by simpa using h1)]
    have e1 := cmpI_zero.1 h1
    by_cases h2 : cmpI x2 y2 = 0
    · rw [if_neg (by simpa using h2)]
      have e2 := cmpI_zero.1 h2
      by_cases h3 : cmpI x3 y3 = 0
      · rw [h3]
        exact Compare_3 _ _ _ _ _ _ e1 e2 (cmpI_zero.1 h3) w
      · exact Compare_2 _ _ _ _ _ _ e1 e2 h3 w
    · rw [if_pos h2]; exact Compare_1 _ _ _ _ _ _ e1 h2 w
  · rw [if_pos h1]; exact Compare_0 _ _ _ _ _ _ h1 w
theorem cmpI_lt {a b : Int} (h : a < b) : cmpI a b = -1 := by unfold cmpI; rw [if_pos h]
theorem cmpI_gt {a b : Int} (h : b < a) : cmpI a b = 1 := by unfold cmpI; rw [if_neg (by omega), if_pos h]
theorem rCompare_any (w : World) : Calls Try.prog 51 #[vv x1 x2 x3, vv y1 y2 y3] w (Ret (.int .i64 (vC x1 x2 x3 y1 y2 y3)) w) := by
  unfold vC
  rcases Int.lt_trichotomy x1 y1 with h1 | h1 | h1
  · rw [cmpI_lt h1]; exact rCompare_0lt _ _ _ _ _ _ h1 w
  · rw [cmpI_zero.2 h1, if_neg (by simp)]
    rcases Int.lt_trichotomy x2 y2 with h2 | h2 | h2
    · rw [cmpI_lt h2]; exact rCompare_1lt _ _ _ _ _ _ h1 h2 w
    · rw [cmpI_zero.2 h2, if_neg (by simp)]
      rcases Int.lt_trichotomy x3 y3 with h3 | h3 | h3
      · rw [cmpI_lt h3]; exact rCompare_2lt _ _ _ _ _ _ h1 h2 h3 w
      · rw [cmpI_zero.2 h3]; exact rCompare_3 _ _ _ _ _ _ h1 h2 h3 w
      · rw [cmpI_gt h3]; exact rCompare_2gt _ _ _ _ _ _ h1 h2 (by omega) h3 w
    · rw [cmpI_gt h2]; exact rCompare_1gt _ _ _ _ _ _ h1 (by omega) h2 w
  · rw [cmpI_gt h1]; exact rCompare_0gt _ _ _ _ _ _ (by omega) h1 w

/-- The product with a number. -/
def sc (x1 x2 x3 by_ : Int) : T3 × Int :=
  if vE x1 x2 x3 0 0 0 = true then ((x1, x2, x3), 0) else if 16777216 < by_ ∨ by_ < -16777216 then ((0, 0, 0), 3) else ckd (x1 * by_) (x2 * by_) (x3 * by_)
theorem products_ok {M N : Int} (hM : 0 ≤ M ∧ M ≤ 33554432) (hN : 0 ≤ N ∧ N ≤ 33554432) (hx : BV M x1 x2 x3) (hy : BV N y1 y2 y3) (w : World) :
    Calls Try.prog 77 #[vv x1 x2 x3, vv y1 y2 y3] w (Ret (vv (x1 * y1) (x2 * y2) (x3 * y3)) w) := by
  obtain ⟨a1, a2, a3⟩ := hx
  obtain ⟨b1, b2, b3⟩ := hy
  have hq : M * N ≤ 33554432 * 33554432 := (mul_bd (M := 33554432) (N := 33554432) (by omega) (by omega)).2
  have c1 := mul_bd a1 b1
  have c2 := mul_bd a2 b2
  have c3 := mul_bd a3 b3
  exact products_any x1 x2 x3 y1 y2 y3 _ _ _ (wrap_in (by omega)) (wrap_in (by omega)) (wrap_in (by omega)) w
theorem vE_false {x1 x2 x3 : Int} (h : vE x1 x2 x3 0 0 0 = false) : ¬ (x1 = 0 ∧ x2 = 0 ∧ x3 = 0) := fun e => by rw [vE_iff.2 e] at h; cases h
theorem far_mul {x c : Int} (hc : 16777217 ≤ c ∨ c ≤ -16777217) (h : x ≠ 0) : ¬ (-16777216 ≤ x * c ∧ x * c ≤ 16777216) := by
  intro ⟨h1, h2⟩
  rcases Int.lt_trichotomy x 0 with hx | hx | hx
  · rcases hc with hc | hc
    · have := Int.mul_le_mul_of_nonneg_right (show x ≤ -1 by omega) (show 0 ≤ c by omega); omega
    · have := Int.mul_nonneg (show 0 ≤ -x - 1 by omega) (show 0 ≤ -c by omega)
      have e : (-x - 1) * -c = x * c + c := by grind
      omega
  · exact h hx
  · rcases hc with hc | hc
    · have := Int.mul_le_mul_of_nonneg_right (show 1 ≤ x by omega) (show 0 ≤ c by omega); omega
    · have := Int.mul_nonneg (show 0 ≤ x - 1 by omega) (show 0 ≤ -c by omega)
      have e : (x - 1) * -c = c - x * c := by grind
      omega
theorem ckd_far {c : Int} (hc : 16777217 ≤ c ∨ c ≤ -16777217) (h : vE x1 x2 x3 0 0 0 = false) : ckd (x1 * c) (x2 * c) (x3 * c) = ((0, 0, 0), 3) := by
  unfold ckd
  rw [if_neg]
  intro hv
  obtain ⟨h1, h2, h3⟩ := inV_iff.1 hv
  apply vE_false h
  refine ⟨?_, ?_, ?_⟩
  · exact Classical.byContradiction fun e => far_mul hc e h1
  · exact Classical.byContradiction fun e => far_mul hc e h2
  · exact Classical.byContradiction fun e => far_mul hc e h3
theorem ckd_zero : ckd 0 0 0 = ((0, 0, 0), 0) := rfl
end
end Go.Proofs.Ytpkfngfenkcjoaa

/- Points of the plane, turns, and what it is to be a convex hull: plain facts. No function is spoken of here. -/
set_option linter.all false
namespace Go.Proofs.Ytpkfngfenkcjoaa
namespace Hl

abbrev P2 := Int × Int
/-- Twice the area of the triangle: greater than 0 where the way turns left. -/
def tn (a b c : P2) : Int := (b.1 - a.1) * (c.2 - a.2) - (b.2 - a.2) * (c.1 - a.1)
/-- The order by X, then by Y. -/
def lt (a b : P2) : Prop := a.1 < b.1 ∨ (a.1 = b.1 ∧ a.2 < b.2)
/-- On the line between two points, ends included. -/
def on (a b p : P2) : Prop := tn a b p = 0 ∧ min a.1 b.1 ≤ p.1 ∧ p.1 ≤ max a.1 b.1 ∧ min a.2 b.2 ≤ p.2 ∧ p.2 ≤ max a.2 b.2
/-- In a triangle, border included. -/
def inT (a b c p : P2) : Prop := on a b p ∨ on b c p ∨ on c a p ∨ (0 < tn a b p ∧ 0 < tn b c p ∧ 0 < tn c a p) ∨ (tn a b p < 0 ∧ tn b c p < 0 ∧ tn c a p < 0)

theorem tn_rot (a b c : P2) : tn b c a = tn a b c := by unfold tn; grind
theorem tn_swap (a b c : P2) : tn b a c = -tn a b c := by unfold tn; grind
theorem tn_swap2 (a b c : P2) : tn a c b = -tn a b c := by unfold tn; grind
theorem tn_aa (a b : P2) : tn a a b = 0 := by unfold tn; grind
theorem tn_aba (a b : P2) : tn a b a = 0 := by unfold tn; grind
theorem tn_abb (a b : P2) : tn a b b = 0 := by unfold tn; grind
theorem tn_four (a b c d : P2) : tn a b c + tn a c d = tn a b d + tn b c d := by unfold tn; grind
theorem ext2 {a b : P2} (h1 : a.1 = b.1) (h2 : a.2 = b.2) : a = b := Prod.ext h1 h2
theorem lt_irrefl (a : P2) : ¬ lt a a := by unfold lt; omega
theorem lt_trans {a b c : P2} (h : lt a b) (k : lt b c) : lt a c := by unfold lt at *; omega
theorem lt_asymm {a b : P2} (h : lt a b) : ¬ lt b a := fun k => lt_irrefl _ (lt_trans h k)
theorem lt_tri (a b : P2) : lt a b ∨ a = b ∨ lt b a := by
  obtain ⟨x, y⟩ := a; obtain ⟨u, v⟩ := b
  simp only [lt, Prod.mk.injEq]; omega

/-- An affine function that is 0 at p and greater than 0 at a and b: p is not on the line between them. -/
theorem aff_on {A B C : Int} {a b p : P2} (ha : 0 < A * a.1 + B * a.2 + C) (hb : 0 < A * b.1 + B * b.2 + C) (hp : A * p.1 + B * p.2 + C = 0) (h : on a b p) : False := by
  obtain ⟨h0, h1, h2, h3, h4⟩ := h
  unfold tn at h0
  have e1 : (b.1 - a.1) * (A * p.1 + B * p.2 + C) = (b.1 - p.1) * (A * a.1 + B * a.2 + C) + (p.1 - a.1) * (A * b.1 + B * b.2 + C) := by grind
  have e2 : (b.2 - a.2) * (A * p.1 + B * p.2 + C) = (b.2 - p.2) * (A * a.1 + B * a.2 + C) + (p.2 - a.2) * (A * b.1 + B * b.2 + C) := by grind
  rw [hp, Int.mul_zero] at e1 e2
  obtain ⟨ga, hga⟩ : ∃ g, g = A * a.1 + B * a.2 + C := ⟨_, rfl⟩
  obtain ⟨gb, hgb⟩ : ∃ g, g = A * b.1 + B * b.2 + C := ⟨_, rfl⟩
  rw [← hga, ← hgb] at e1 e2
  rw [← hga] at ha
  rw [← hgb] at hb
  have key : ∀ u v : Int, u * ga + v * gb = 0 → 0 ≤ u → 0 ≤ v → u = 0 ∧ v = 0 := by
    intro u v e hu hv
    have m1 := Int.mul_nonneg hu (Int.le_of_lt ha)
    have m2 := Int.mul_nonneg hv (Int.le_of_lt hb)
    have z1 : u * ga = 0 := by omega
    have z2 : v * gb = 0 := by omega
    refine ⟨(Int.mul_eq_zero.1 z1).resolve_right (by omega), (Int.mul_eq_zero.1 z2).resolve_right (by omega)⟩
  have key2 : ∀ u v : Int, 0 = u * ga + v * gb → (0 ≤ u ∧ 0 ≤ v) ∨ (u ≤ 0 ∧ v ≤ 0) → u = 0 ∧ v = 0 := by
    intro u v e h
    rcases h with ⟨h1, h2⟩ | ⟨h1, h2⟩
    · exact key u v e.symm h1 h2
    · have := key (-u) (-v) (by rw [Int.neg_mul, Int.neg_mul]; omega) (by omega) (by omega)
      omega
  have f1 := key2 _ _ e1 (by omega)
  have f2 := key2 _ _ e2 (by omega)
  have : a = p := ext2 (by omega) (by omega)
  subst this
  rw [hp] at hga
  omega
theorem aff_in {A B C : Int} {a b c p : P2} (ha : 0 < A * a.1 + B * a.2 + C) (hb : 0 < A * b.1 + B * b.2 + C) (hc : 0 < A * c.1 + B * c.2 + C) (hp : A * p.1 + B * p.2 + C = 0) (h : inT a b c p) : False := by
  have e : (tn a b p + tn b c p + tn c a p) * (A * p.1 + B * p.2 + C) = tn b c p * (A * a.1 + B * a.2 + C) + tn c a p * (A * b.1 + B * b.2 + C) + tn a b p * (A * c.1 + B * c.2 + C) := by unfold tn; grind
  rcases h with h | h | h | ⟨h1, h2, h3⟩ | ⟨h1, h2, h3⟩
  · exact aff_on ha hb hp h
  · exact aff_on hb hc hp h
  · exact aff_on hc ha hp h
  · rw [hp, Int.mul_zero] at e
    have m1 := Int.mul_pos h2 ha
    have m2 := Int.mul_pos h3 hb
    have m3 := Int.mul_pos h1 hc
    omega
  · rw [hp, Int.mul_zero] at e
    have m1 := Int.mul_pos (show 0 < -tn b c p by omega) ha
    have m2 := Int.mul_pos (show 0 < -tn c a p by omega) hb
    have m3 := Int.mul_pos (show 0 < -tn a b p by omega) hc
    rw [Int.neg_mul] at m1 m2 m3
    omega
/-- A point in a closed triangle that turns left is in it in the reference's sense. -/
theorem on_of {a b c p : P2} (hW : 0 < tn a b c) (h0 : tn a b p = 0) (h1 : 0 ≤ tn b c p) (h2 : 0 ≤ tn c a p) : on a b p := by
  have s : tn a b p + tn b c p + tn c a p = tn a b c := by unfold tn; grind
  have e1 : tn a b c * p.1 = tn b c p * a.1 + tn c a p * b.1 + tn a b p * c.1 := by unfold tn; grind
  have e2 : tn a b c * p.2 = tn b c p * a.2 + tn c a p * b.2 + tn a b p * c.2 := by unfold tn; grind
  rw [h0, Int.zero_mul, Int.add_zero] at e1 e2
  rw [h0, Int.zero_add] at s
  generalize tn a b c = W at *
  generalize tn b c p = u at *
  generalize tn c a p = v at *
  subst s
  have key : ∀ x y z : Int, (u + v) * z = u * x + v * y → min x y ≤ z ∧ z ≤ max x y := by
    intro x y z e
    constructor
    · apply Classical.byContradiction
      intro hn
      have a1 : 0 ≤ u * (x - z - 1) := Int.mul_nonneg h1 (by omega)
      have a2 : 0 ≤ v * (y - z - 1) := Int.mul_nonneg h2 (by omega)
      have : u * (x - z - 1) + v * (y - z - 1) = u * x + v * y - (u + v) * z - (u + v) := by grind
      omega
    · apply Classical.byContradiction
      intro hn
      have a1 : 0 ≤ u * (z - x - 1) := Int.mul_nonneg h1 (by omega)
      have a2 : 0 ≤ v * (z - y - 1) := Int.mul_nonneg h2 (by omega)
      have : u * (z - x - 1) + v * (z - y - 1) = (u + v) * z - (u * x + v * y) - (u + v) := by grind
      omega
  exact ⟨h0, (key _ _ _ e1).1, (key _ _ _ e1).2, (key _ _ _ e2).1, (key _ _ _ e2).2⟩
theorem inT_of {a b c p : P2} (hW : 0 < tn a b c) (h0 : 0 ≤ tn a b p) (h1 : 0 ≤ tn b c p) (h2 : 0 ≤ tn c a p) : inT a b c p := by
  by_cases z0 : tn a b p = 0
  · exact .inl (on_of hW z0 h1 h2)
  by_cases z1 : tn b c p = 0
  · exact .inr (.inl (on_of (by rw [tn_rot]; exact hW) z1 h2 h0))
  by_cases z2 : tn c a p = 0
  · exact .inr (.inr (.inl (on_of (by rw [tn_rot, tn_rot]; exact hW) z2 h0 h1)))
  · exact .inr (.inr (.inr (.inl ⟨by omega, by omega, by omega⟩)))
end Hl
end Go.Proofs.Ytpkfngfenkcjoaa

/- Convex hulls: the corners are the points that no triangle of other points has. Plain facts. -/
set_option linter.all false
namespace Go.Proofs.Ytpkfngfenkcjoaa
namespace Hl

def cov (S : List P2) (p : P2) : Prop := ∃ a ∈ S, ∃ b ∈ S, ∃ c ∈ S, a ≠ p ∧ b ≠ p ∧ c ≠ p ∧ inT a b c p
/-- h is the hull of S. -/
structure IsH (S h : List P2) : Prop where
  sub : ∀ p ∈ h, p ∈ S
  pos : 0 < h.length
  first : ∀ p ∈ S, p = h[0] ∨ lt h[0] p
  one : h.length = 1 → ∀ p ∈ S, p = h[0]
  two : ∀ (e : h.length = 2), ∀ p ∈ S, on h[0] h[1] p
  ne2 : ∀ (e : h.length = 2), h[0] ≠ h[1]
  left : 3 ≤ h.length → ∀ p ∈ S, ∀ i (hi : i + 1 < h.length), 0 ≤ tn h[i] h[i + 1] p
  last : 3 ≤ h.length → ∀ p ∈ S, 0 ≤ tn h[h.length - 1] h[0] p
  turn : 3 ≤ h.length → ∀ i (hi : i + 1 < h.length), ∀ k (hk : k < h.length), k ≠ i → k ≠ i + 1 → 0 < tn h[i] h[i + 1] h[k]
  turn0 : 3 ≤ h.length → ∀ k (hk : k < h.length), k ≠ h.length - 1 → k ≠ 0 → 0 < tn h[h.length - 1] h[0] h[k]

def Aff (g : P2 → Int) : Prop := ∃ A B C : Int, ∀ p : P2, g p = A * p.1 + B * p.2 + C
theorem aff_tn (u v : P2) : Aff (tn u v) := ⟨-(v.2 - u.2), v.1 - u.1, (v.2 - u.2) * u.1 - (v.1 - u.1) * u.2, fun p => by unfold tn; grind⟩
theorem Aff.add {f g : P2 → Int} (hf : Aff f) (hg : Aff g) : Aff (fun p => f p + g p) := by
  obtain ⟨A, B, C, h⟩ := hf
  obtain ⟨D, E, F, k⟩ := hg
  exact ⟨A + D, B + E, C + F, fun p => by show f p + g p = _; rw [h, k]; grind⟩
theorem not_cov {S : List P2} {g : P2 → Int} (hg : Aff g) {q : P2} (h0 : g q = 0) (hp : ∀ p ∈ S, p ≠ q → 0 < g p) : ¬ cov S q := by
  rintro ⟨a, ha, b, hb, c, hc, na, nb, nc, h⟩
  obtain ⟨A, B, C, k⟩ := hg
  have ga := hp a ha na
  have gb := hp b hb nb
  have gc := hp c hc nc
  rw [k] at ga gb gc h0
  exact aff_in ga gb gc h0 h
theorem cramer {u v w p : P2} (h : 0 < tn u v w) (h1 : tn u v p = 0) (h2 : tn v w p = 0) : p = v := by
  have e1 : tn u v w * (p.1 - v.1) = tn v w p * (u.1 - v.1) + tn u v p * (w.1 - v.1) := by unfold tn; grind
  have e2 : tn u v w * (p.2 - v.2) = tn v w p * (u.2 - v.2) + tn u v p * (w.2 - v.2) := by unfold tn; grind
  rw [h1, h2, Int.zero_mul, Int.zero_mul, Int.add_zero] at e1 e2
  have f1 := (Int.mul_eq_zero.1 e1).resolve_left (by omega)
  have f2 := (Int.mul_eq_zero.1 e2).resolve_left (by omega)
  exact ext2 (by omega) (by omega)
/-- A vertex between two edges. -/
theorem vertex {S : List P2} {u v w : P2} (h : 0 < tn u v w) (h1 : ∀ p ∈ S, 0 ≤ tn u v p) (h2 : ∀ p ∈ S, 0 ≤ tn v w p) : ¬ cov S v := by
  refine not_cov ((aff_tn u v).add (aff_tn v w)) (by show tn u v v + tn v w v = 0; rw [tn_abb, tn_aba]; rfl) fun p hp hn => ?_
  show 0 < tn u v p + tn v w p
  have a := h1 p hp
  have b := h2 p hp
  apply Classical.byContradiction
  intro hc
  exact hn (cramer h (by omega) (by omega))
/-- An end of a line. -/
theorem line_end {S : List P2} {a b : P2} (h : ∀ p ∈ S, on a b p) : ¬ cov S a := by
  refine not_cov (g := fun p => (b.1 - a.1) * (p.1 - a.1) + (b.2 - a.2) * (p.2 - a.2)) ⟨b.1 - a.1, b.2 - a.2, -((b.1 - a.1) * a.1 + (b.2 - a.2) * a.2), fun p => by show _ = _; grind⟩ (by show _ = _; grind) fun p hp hn => ?_
  show 0 < (b.1 - a.1) * (p.1 - a.1) + (b.2 - a.2) * (p.2 - a.2)
  obtain ⟨h0, h1, h2, h3, h4⟩ := h p hp
  have m1 : 0 ≤ (b.1 - a.1) * (p.1 - a.1) := by
    rcases Int.le_total a.1 b.1 with c | c
    · exact Int.mul_nonneg (by omega) (by omega)
    · have := Int.mul_nonneg (show 0 ≤ -(b.1 - a.1) by omega) (show 0 ≤ -(p.1 - a.1) by omega)
      rwa [Int.neg_mul_neg] at this
  have m2 : 0 ≤ (b.2 - a.2) * (p.2 - a.2) := by
    rcases Int.le_total a.2 b.2 with c | c
    · exact Int.mul_nonneg (by omega) (by omega)
    · have := Int.mul_nonneg (show 0 ≤ -(b.2 - a.2) by omega) (show 0 ≤ -(p.2 - a.2) by omega)
      rwa [Int.neg_mul_neg] at this
  apply Classical.byContradiction
  intro hc
  have z1 : (b.1 - a.1) * (p.1 - a.1) = 0 := by omega
  have z2 : (b.2 - a.2) * (p.2 - a.2) = 0 := by omega
  unfold tn at h0
  apply hn
  rcases Int.mul_eq_zero.1 z1 with c1 | c1 <;> rcases Int.mul_eq_zero.1 z2 with c2 | c2
  · exact ext2 (by omega) (by omega)
  · exact ext2 (by omega) (by omega)
  · exact ext2 (by omega) (by omega)
  · exact ext2 (by omega) (by omega)
theorem on_symm {a b p : P2} (h : on a b p) : on b a p := by
  obtain ⟨h0, h1, h2, h3, h4⟩ := h
  refine ⟨?_, by omega, by omega, by omega, by omega⟩
  rw [tn_swap, h0]; rfl
/-- No corner is covered. -/
theorem IsH.corner {S h : List P2} (H : IsH S h) : ∀ q ∈ h, ¬ cov S q := by
  intro q hq
  obtain ⟨i, hi, rfl⟩ := List.mem_iff_getElem.1 hq
  rcases Nat.lt_or_ge h.length 3 with hl | hl
  · rcases (by have := H.pos; omega : h.length = 1 ∨ h.length = 2) with e | e
    · rintro ⟨a, ha, b, hb, c, hc, na, -⟩
      obtain rfl : i = 0 := by omega
      exact na (H.one e a ha)
    · rcases (by omega : i = 0 ∨ i = 1) with rfl | rfl
      · exact line_end (H.two e)
      · exact line_end fun p hp => on_symm (H.two e p hp)
  · rcases Nat.eq_zero_or_pos i with rfl | h0
    · exact vertex (H.turn0 hl 1 (by omega) (by omega) (by omega)) (H.last hl) (fun p hp => H.left hl p hp 0 (by omega))
    · obtain ⟨j, rfl⟩ : ∃ j, i = j + 1 := ⟨i - 1, by omega⟩
      rcases Nat.lt_or_ge (j + 2) h.length with hj | hj
      · exact vertex (H.turn hl j (by omega) (j + 2) hj (by omega) (by omega)) (fun p hp => H.left hl p hp j (by omega)) (fun p hp => H.left hl p hp (j + 1) (by omega))
      · have e : h.length - 1 = j + 1 := by omega
        have l := H.last hl
        simp only [e] at l
        exact vertex (H.turn hl j (by omega) 0 (by omega) (by omega) (by omega)) (fun p hp => H.left hl p hp j (by omega)) l
theorem sign_change {s : Nat → Int} : ∀ (n i : Nat), 0 ≤ s i → s (i + n) ≤ 0 → 0 < n → ∃ k, i ≤ k ∧ k < i + n ∧ 0 ≤ s k ∧ s (k + 1) ≤ 0
  | 0, i, _, _, h => absurd h (Nat.lt_irrefl _)
  | n + 1, i, h0, h1, _ => by
    by_cases c : s (i + 1) ≤ 0
    · exact ⟨i, Nat.le_refl _, by omega, h0, c⟩
    · rcases Nat.eq_zero_or_pos n with rfl | hn
      · exact absurd h1 c
      · obtain ⟨k, k1, k2, k3, k4⟩ := sign_change (s := s) n (i + 1) (by omega) (by rw [show i + 1 + n = i + (n + 1) by omega]; exact h1) hn
        exact ⟨k, by omega, by omega, k3, k4⟩
/-- All other points are covered. -/
theorem IsH.other {S h : List P2} (H : IsH S h) {p : P2} (hp : p ∈ S) (hn : p ∉ h) : cov S p := by
  have ne : ∀ i (hi : i < h.length), h[i] ≠ p := fun i hi e => hn (e ▸ List.getElem_mem hi)
  have mem : ∀ i (hi : i < h.length), h[i] ∈ S := fun i hi => H.sub _ (List.getElem_mem hi)
  rcases Nat.lt_or_ge h.length 3 with hl | hl
  · rcases (by have := H.pos; omega : h.length = 1 ∨ h.length = 2) with e | e
    · exact absurd (H.one e p hp).symm (ne 0 H.pos)
    · exact ⟨h[0], mem 0 _, h[1], mem 1 _, h[1], mem 1 _, ne 0 _, ne 1 _, ne 1 _, .inl (H.two e p hp)⟩
  · have d := h[0]
    obtain ⟨k, k1, k2, k3, k4⟩ := sign_change (s := fun i => if hi : i < h.length then tn h[0] h[i] p else 0) (h.length - 2) 1
      (by show 0 ≤ dite _ _ _; rw [dif_pos (by omega)]; exact H.left hl p hp 0 (by omega))
      (by
        show dite _ _ _ ≤ 0
        rw [dif_pos (by omega)]
        have := H.last hl p hp
        simp only [show 1 + (h.length - 2) = h.length - 1 by omega]
        rw [tn_swap] at this
        omega) (by omega)
    rw [dif_pos (by omega)] at k3 k4
    refine ⟨h[0], mem 0 _, h[k], mem k _, h[k + 1], mem (k + 1) _, ne 0 _, ne k _, ne (k + 1) _, inT_of ?_ k3 (H.left hl p hp k (by omega)) ?_⟩
    · rw [← tn_rot]
      exact H.turn hl k (by omega) 0 (by omega) (by omega) (by omega)
    · rw [tn_swap]; omega
/-- From a corner to the next one: the only one that has no other one on the right. -/
theorem IsH.next {S h : List P2} (H : IsH S h) {j : Nat} (hj : j + 1 < h.length) : h[j] ≠ h[j + 1] ∧ (∀ c ∈ h, 0 ≤ tn h[j] h[j + 1] c) := by
  rcases Nat.lt_or_ge h.length 3 with hl | hl
  · have e : h.length = 2 := by omega
    obtain rfl : j = 0 := by omega
    refine ⟨H.ne2 e, fun c hc => ?_⟩
    obtain ⟨i, hi, rfl⟩ := List.mem_iff_getElem.1 hc
    rcases (by omega : i = 0 ∨ i = 1) with rfl | rfl
    · rw [tn_aba]; omega
    · rw [tn_abb]; omega
  · refine ⟨fun he => ?_, fun c hc => H.left hl c (H.sub c hc) j hj⟩
    obtain ⟨k, hk, k1, k2⟩ : ∃ k, ∃ hk : k < h.length, k ≠ j ∧ k ≠ j + 1 := by
      rcases Nat.eq_zero_or_pos j with rfl | h0
      · exact ⟨2, by omega, by omega, by omega⟩
      · exact ⟨0, by omega, by omega, by omega⟩
    have := H.turn hl j hj k hk k1 k2
    rw [he, tn_aa] at this
    omega
theorem IsH.only {S h : List P2} (H : IsH S h) {j : Nat} (hj : j + 1 < h.length) {b : P2} (hb : b ∈ h) (hne : h[j] ≠ b) (hf : ∀ c ∈ h, 0 ≤ tn h[j] b c) : b = h[j + 1] := by
  obtain ⟨i, hi, rfl⟩ := List.mem_iff_getElem.1 hb
  by_cases e1 : i = j
  · subst e1; exact absurd rfl hne
  by_cases e2 : i = j + 1
  · subst e2; rfl
  have hl : 3 ≤ h.length := by omega
  have t := H.turn hl j hj i hi e1 e2
  have := hf h[j + 1] (List.getElem_mem _)
  rw [tn_swap2] at this
  omega
end Hl
end Go.Proofs.Ytpkfngfenkcjoaa

/- Sorted lists of points of the plane, and the way from corner to corner. Plain facts. -/
set_option linter.all false
namespace Go.Proofs.Ytpkfngfenkcjoaa
namespace Hl

abbrev Srt (F : List P2) : Prop := F.Pairwise lt
/-- One more point, in its place. -/
theorem Srt.insert {F : List P2} (h : Srt F) {p : P2} {at_ : Nat} (ha : at_ ≤ F.length) (h1 : ∀ i (hi : i < F.length), i < at_ → lt F[i] p) (h2 : ∀ (hi : at_ < F.length), ¬ lt F[at_] p) (h3 : ∀ (hi : at_ < F.length), F[at_] ≠ p) :
    Srt (F.take at_ ++ p :: F.drop at_) := by
  have hd : ∀ q ∈ F.drop at_, lt p q := by
    intro q hq
    obtain ⟨i, hi, rfl⟩ := List.mem_iff_getElem.1 hq
    rw [List.getElem_drop]
    have hl : at_ + i < F.length := by simp at hi; omega
    have hb : lt p F[at_] := by
      rcases lt_tri F[at_] p with g | g | g
      · exact absurd g (h2 (by omega))
      · exact absurd g (h3 (by omega))
      · exact g
    rcases Nat.eq_zero_or_pos i with rfl | h0
    · exact hb
    · exact lt_trans hb (List.pairwise_iff_getElem.1 h at_ (at_ + i) (by omega) hl (by omega))
  rw [Srt, List.pairwise_append]
  refine ⟨h.sublist (List.take_sublist _ _), List.pairwise_cons.2 ⟨hd, h.sublist (List.drop_sublist _ _)⟩, ?_⟩
  intro a ha' b hb
  obtain ⟨i, hi, rfl⟩ := List.mem_iff_getElem.1 ha'
  rw [List.getElem_take]
  have hi2 : i < at_ := by simp at hi; omega
  have hap := h1 i (by omega) hi2
  rcases List.mem_cons.1 hb with rfl | hb
  · exact hap
  · exact lt_trans hap (hd b hb)
theorem insert_mem {F : List P2} {p q : P2} {at_ : Nat} : q ∈ F.take at_ ++ p :: F.drop at_ ↔ q = p ∨ q ∈ F := by
  rw [List.mem_append, List.mem_cons]
  constructor
  · rintro (h | h | h)
    · exact .inr (List.mem_of_mem_take h)
    · exact .inl h
    · exact .inr (List.mem_of_mem_drop h)
  · rintro (h | h)
    · exact .inr (.inl h)
    · rw [← List.take_append_drop at_ F, List.mem_append] at h
      rcases h with h | h
      · exact .inl h
      · exact .inr (.inr h)
/-- The first one of a sorted list is the least. -/
theorem Srt.least {F : List P2} (h : Srt F) {a : P2} (ha : a ∈ F) (hm : ∀ p ∈ F, p = a ∨ lt a p) (hp : 0 < F.length) : F[0] = a := by
  obtain ⟨i, hi, rfl⟩ := List.mem_iff_getElem.1 ha
  rcases Nat.eq_zero_or_pos i with rfl | h0
  · rfl
  · rcases hm F[0] (List.getElem_mem _) with g | g
    · exact g
    · exact absurd g (lt_asymm (List.pairwise_iff_getElem.1 h 0 i hp hi h0))
theorem Srt.nodup {F : List P2} (h : Srt F) : F.Nodup := by
  refine List.Pairwise.imp ?_ h
  intro a b hab e
  subst e
  exact lt_irrefl _ hab
/-- Two sorted lists with the same points have as many. -/
theorem same_length {A B : List P2} (ha : A.Nodup) (hb : B.Nodup) (h : ∀ p, p ∈ A ↔ p ∈ B) : A.length = B.length :=
  (List.perm_ext_iff_of_nodup ha hb |>.2 h).length_eq
end Hl
end Go.Proofs.Ytpkfngfenkcjoaa
