/- The reference's Dot. -/
import Derived.Test.YtdicbeaocedkmaaVn
set_option linter.all false
namespace Go.Proofs.Ytdicbeaocedkmaa
open Go.RowKit

set_option maxRecDepth 100000 in
set_option maxHeartbeats 4000000 in
theorem rDot_any (x1 x2 x3 y1 y2 y3 r1 r2 r3 s t : Int) (h1 : IntKind.i64.wrap (x1 * y1) = r1) (h2 : IntKind.i64.wrap (x2 * y2) = r2) (h3 : IntKind.i64.wrap (x3 * y3) = r3) (h0 : IntKind.i64.wrap (0 + r1) = r1) (h4 : IntKind.i64.wrap (r1 + r2) = s) (h5 : IntKind.i64.wrap (s + r3) = t) (w : World) :
    Calls Try.prog 28 #[vv x1 x2 x3, vv y1 y2 y3] w (Ret (.int .i64 t) w) := by
  have h0b : IntKind.i64.wrap r1 = r1 := by rw [Int.zero_add] at h0; exact h0
  have X0 := Lib.hid (fun w => rpart0 x1 x2 x3 w)
  have Y0 := Lib.hid (fun w => rpart0 y1 y2 y3 w)
  have X1 := Lib.hid (fun w => rpart1 x1 x2 x3 w)
  have Y1 := Lib.hid (fun w => rpart1 y1 y2 y3 w)
  have X2 := Lib.hid (fun w => rpart2 x1 x2 x3 w)
  have Y2 := Lib.hid (fun w => rpart2 y1 y2 y3 w)
  go_enter Try.func28, Try.ntmps28
  go_upto_region 1 with (fail)
  obtain ⟨w0, hw0⟩ : ∃ w0 : World, w0 = (w.alloc (.cells #[.int .i64 x1, .int .i64 x2, .int .i64 x3] 23)).alloc (.cells #[.int .i64 y1, .int .i64 y2, .int .i64 y3] 23) := ⟨_, rfl⟩
  have hb0 : Hid (Below w.heap.size w w0) := by rw [hw0]; exact (below_one w _).alloc (by simp) _
  have hv0 : Hid (V3 w0 w.heap.size x1 x2 x3) := by rw [hw0]; exact ⟨by simp [go_sem], by simp [go_sem], by simp [go_sem]⟩
  have hv1 : Hid (V3 w0 (w.heap.size + 1) y1 y2 y3) := by rw [hw0]; exact ⟨by simp [go_sem], by simp [go_sem], by simp [go_sem]⟩
  rw [← hw0]
  clear hw0
  obtain ⟨k00, k01, k02⟩ := hv0.out.below (Below.refl _ _)
  obtain ⟨k10, k11, k12⟩ := hv1.out.below (Below.refl _ _)
  have C0 := Lib.hid (Below.refl w0.heap.size w0)
  go_wp2
  refine wp_loop_rounds 4 ?_
  rw [rounds_succ]
  go_wp2
  go_region_held3 (fun W' => W'.cell? ⟨w.heap.size, 0, none⟩ = some (.int .i64 x1) ∧ W'.cell? ⟨w.heap.size, 1, none⟩ = some (.int .i64 x2) ∧ W'.cell? ⟨w.heap.size, 2, none⟩ = some (.int .i64 x3) ∧ W'.cell? ⟨w.heap.size + 1, 0, none⟩ = some (.int .i64 y1) ∧ W'.cell? ⟨w.heap.size + 1, 1, none⟩ = some (.int .i64 y2) ∧ W'.cell? ⟨w.heap.size + 1, 2, none⟩ = some (.int .i64 y3)) (go_keep)
    (first
      | (go_at_call 41; (with_reducible refine (X0.out _).mono ?_); rintro e w1 ⟨rfl, b1⟩; (try (have b1 := undrew b1)); have C1 := Lib.hid (chain C0.out b1); clear b1; obtain ⟨p00, p01, p02⟩ := hv0.out.below C1.out; obtain ⟨p10, p11, p12⟩ := hv1.out.below C1.out)
      | (go_at_call 41; (with_reducible refine (Y0.out _).mono ?_); rintro e w2 ⟨rfl, b2⟩; (try (have b2 := undrew b2)); have C2 := Lib.hid (chain C1.out b2); clear b2; obtain ⟨p00, p01, p02⟩ := hv0.out.below C2.out; obtain ⟨p10, p11, p12⟩ := hv1.out.below C2.out)
      | fail)
  clear k00 k01 k02 k10 k11 k12
  obtain ⟨k00, k01, k02⟩ := hv0.out.below C2.out
  obtain ⟨k10, k11, k12⟩ := hv1.out.below C2.out
  go_wp2
  rw [rounds_succ]
  go_wp2
  go_region_held3 (fun W' => W'.cell? ⟨w.heap.size, 0, none⟩ = some (.int .i64 x1) ∧ W'.cell? ⟨w.heap.size, 1, none⟩ = some (.int .i64 x2) ∧ W'.cell? ⟨w.heap.size, 2, none⟩ = some (.int .i64 x3) ∧ W'.cell? ⟨w.heap.size + 1, 0, none⟩ = some (.int .i64 y1) ∧ W'.cell? ⟨w.heap.size + 1, 1, none⟩ = some (.int .i64 y2) ∧ W'.cell? ⟨w.heap.size + 1, 2, none⟩ = some (.int .i64 y3)) (go_keep)
    (first
      | (go_at_call 41; (with_reducible refine (X1.out _).mono ?_); rintro e w3 ⟨rfl, b3⟩; (try (have b3 := undrew b3)); have C3 := Lib.hid (chain C2.out b3); clear b3; obtain ⟨p00, p01, p02⟩ := hv0.out.below C3.out; obtain ⟨p10, p11, p12⟩ := hv1.out.below C3.out)
      | (go_at_call 41; (with_reducible refine (Y1.out _).mono ?_); rintro e w4 ⟨rfl, b4⟩; (try (have b4 := undrew b4)); have C4 := Lib.hid (chain C3.out b4); clear b4; obtain ⟨p00, p01, p02⟩ := hv0.out.below C4.out; obtain ⟨p10, p11, p12⟩ := hv1.out.below C4.out)
      | fail)
  clear k00 k01 k02 k10 k11 k12
  obtain ⟨k00, k01, k02⟩ := hv0.out.below C4.out
  obtain ⟨k10, k11, k12⟩ := hv1.out.below C4.out
  go_wp2
  rw [rounds_succ]
  go_wp2
  go_region_held3 (fun W' => W'.cell? ⟨w.heap.size, 0, none⟩ = some (.int .i64 x1) ∧ W'.cell? ⟨w.heap.size, 1, none⟩ = some (.int .i64 x2) ∧ W'.cell? ⟨w.heap.size, 2, none⟩ = some (.int .i64 x3) ∧ W'.cell? ⟨w.heap.size + 1, 0, none⟩ = some (.int .i64 y1) ∧ W'.cell? ⟨w.heap.size + 1, 1, none⟩ = some (.int .i64 y2) ∧ W'.cell? ⟨w.heap.size + 1, 2, none⟩ = some (.int .i64 y3)) (go_keep)
    (first
      | (go_at_call 41; (with_reducible refine (X2.out _).mono ?_); rintro e w5 ⟨rfl, b5⟩; (try (have b5 := undrew b5)); have C5 := Lib.hid (chain C4.out b5); clear b5; obtain ⟨p00, p01, p02⟩ := hv0.out.below C5.out; obtain ⟨p10, p11, p12⟩ := hv1.out.below C5.out)
      | (go_at_call 41; (with_reducible refine (Y2.out _).mono ?_); rintro e w6 ⟨rfl, b6⟩; (try (have b6 := undrew b6)); have C6 := Lib.hid (chain C5.out b6); clear b6; obtain ⟨p00, p01, p02⟩ := hv0.out.below C6.out; obtain ⟨p10, p11, p12⟩ := hv1.out.below C6.out)
      | fail)
  go_wp2
  rw [rounds_succ]
  go_wp2
  go_ret
  have HB := Lib.hid (chain hb0.out C6.out)
  exact ⟨rfl, by first | exact HB.out | exact HB.out.drew⟩
end Go.Proofs.Ytdicbeaocedkmaa
