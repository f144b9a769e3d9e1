/- The reference's Distance2 and Turn. -/
import Derived.Test.YtdicbeaocedkmaaVn
set_option linter.all false
namespace Go.Proofs.Ytdicbeaocedkmaa
open Go.RowKit

set_option maxRecDepth 100000 in
set_option maxHeartbeats 4000000 in
theorem rDistance2_way (x1 x2 x3 y1 y2 y3 d1 d2 d3 r : Int) (H1 : ∀ w, Calls Try.prog 23 #[vv x1 x2 x3, vv y1 y2 y3] w (Ret (vv d1 d2 d3) w)) (H2 : ∀ w, Calls Try.prog 28 #[vv d1 d2 d3, vv d1 d2 d3] w (Ret (.int .i64 r) w)) (w : World) :
    Calls Try.prog 30 #[vv x1 x2 x3, vv y1 y2 y3] w (Ret (.int .i64 r) w) := by
  have H1 := Lib.hid H1
  have H2 := Lib.hid H2
  go_enter Try.func30, Try.ntmps30
  go_upto_region 1 with (fail)
  obtain ⟨w0, hw0⟩ : ∃ w0 : World, w0 = (w.alloc (.cells #[.int .i64 x1, .int .i64 x2, .int .i64 x3] 23)).alloc (.cells #[.int .i64 y1, .int .i64 y2, .int .i64 y3] 23) := ⟨_, rfl⟩
  have hb0 : Hid (Below w.heap.size w w0) := by rw [hw0]; exact (below_one w _).alloc (by simp) _
  have hv0 : Hid (V3 w0 w.heap.size x1 x2 x3) := by rw [hw0]; exact ⟨by simp [go_sem], by simp [go_sem], by simp [go_sem]⟩
  have hv1 : Hid (V3 w0 (w.heap.size + 1) y1 y2 y3) := by rw [hw0]; exact ⟨by simp [go_sem], by simp [go_sem], by simp [go_sem]⟩
  rw [← hw0]
  clear hw0
  obtain ⟨k00, k01, k02⟩ := hv0.out.below (Below.refl _ _)
  obtain ⟨k10, k11, k12⟩ := hv1.out.below (Below.refl _ _)
  have C0 := Lib.hid (Below.refl w0.heap.size w0)
  go_region_held3 (fun W' => W'.cell? ⟨w.heap.size, 0, none⟩ = some (.int .i64 x1) ∧ W'.cell? ⟨w.heap.size, 1, none⟩ = some (.int .i64 x2) ∧ W'.cell? ⟨w.heap.size, 2, none⟩ = some (.int .i64 x3) ∧ W'.cell? ⟨w.heap.size + 1, 0, none⟩ = some (.int .i64 y1) ∧ W'.cell? ⟨w.heap.size + 1, 1, none⟩ = some (.int .i64 y2) ∧ W'.cell? ⟨w.heap.size + 1, 2, none⟩ = some (.int .i64 y3)) (go_keep)
    (first
      | (go_at_call 23; (with_reducible refine (H1.out _).mono ?_); rintro e w1 ⟨rfl, b1⟩; (try (have b1 := undrew b1)); first | (have C2 := Lib.hid (chain C1.out b1); clear b1; obtain ⟨p00, p01, p02⟩ := hv0.out.below C2.out; obtain ⟨p10, p11, p12⟩ := hv1.out.below C2.out) | (have C1 := Lib.hid (chain C0.out b1); clear b1; obtain ⟨p00, p01, p02⟩ := hv0.out.below C1.out; obtain ⟨p10, p11, p12⟩ := hv1.out.below C1.out))
      | (go_at_call 28; (with_reducible refine (H2.out _).mono ?_); rintro e w3 ⟨rfl, b3⟩; (try (have b3 := undrew b3)); have C3 := Lib.hid (chain C2.out b3); clear b3; obtain ⟨p00, p01, p02⟩ := hv0.out.below C3.out; obtain ⟨p10, p11, p12⟩ := hv1.out.below C3.out)
      | fail)
  have HB := Lib.hid (chain hb0.out C3.out)
  go_wp2
  go_ret
  exact ⟨rfl, by first | exact HB.out | exact HB.out.drew⟩

set_option maxRecDepth 100000 in
set_option maxHeartbeats 4000000 in
theorem rTurn_p (x1 x2 x3 y1 y2 y3 z1 z2 z3 a1 a2 a3 b1_ b2_ b3_ r1 r2 r3 : Int) (h : 0 < r3)
    (H1 : ∀ w, Calls Try.prog 23 #[vv y1 y2 y3, vv x1 x2 x3] w (Ret (vv a1 a2 a3) w)) (H2 : ∀ w, Calls Try.prog 23 #[vv z1 z2 z3, vv x1 x2 x3] w (Ret (vv b1_ b2_ b3_) w)) (H3 : ∀ w, Calls Try.prog 29 #[vv a1 a2 a3, vv b1_ b2_ b3_] w (Ret (.agg #[.int .i64 r1, .int .i64 r2, .int .i64 r3]) w)) (w : World) :
    Calls Try.prog 34 #[vv x1 x2 x3, vv y1 y2 y3, vv z1 z2 z3] w (Ret (.int .i64 1) w) := by
  have H1 := Lib.hid H1
  have H2 := Lib.hid H2
  have H3 := Lib.hid H3
  have hf2 : ∀ w, (Instr.field 23 (.agg #[.int .i64 r1, .int .i64 r2, .int .i64 r3]) 2).run Try.prog w = .ok (.int .i64 r3) w := fun _ => by kernel_rfl
  go_enter Try.func34, Try.ntmps34
  go_upto_region 1 with (fail)
  obtain ⟨w0, hw0⟩ : ∃ w0 : World, w0 = ((w.alloc (.cells #[.int .i64 x1, .int .i64 x2, .int .i64 x3] 23)).alloc (.cells #[.int .i64 y1, .int .i64 y2, .int .i64 y3] 23)).alloc (.cells #[.int .i64 z1, .int .i64 z2, .int .i64 z3] 23) := ⟨_, rfl⟩
  have hb0 : Hid (Below w.heap.size w w0) := by rw [hw0]; exact ((below_one w _).alloc (by simp) _).alloc (by simp; omega) _
  have hv0 : Hid (V3 w0 w.heap.size x1 x2 x3) := by rw [hw0]; exact ⟨by simp [go_sem], by simp [go_sem], by simp [go_sem]⟩
  have hv1 : Hid (V3 w0 (w.heap.size + 1) y1 y2 y3) := by rw [hw0]; exact ⟨by simp [go_sem], by simp [go_sem], by simp [go_sem]⟩
  have hv2 : Hid (V3 w0 (w.heap.size + 1 + 1) z1 z2 z3) := by rw [hw0]; exact ⟨by simp [go_sem], by simp [go_sem], by simp [go_sem]⟩
  rw [← hw0]
  clear hw0
  obtain ⟨k00, k01, k02⟩ := hv0.out.below (Below.refl _ _)
  obtain ⟨k10, k11, k12⟩ := hv1.out.below (Below.refl _ _)
  obtain ⟨k20, k21, k22⟩ := hv2.out.below (Below.refl _ _)
  have C0 := Lib.hid (Below.refl w0.heap.size w0)
  go_region_held3 (fun W' => W'.cell? ⟨w.heap.size, 0, none⟩ = some (.int .i64 x1) ∧ W'.cell? ⟨w.heap.size, 1, none⟩ = some (.int .i64 x2) ∧ W'.cell? ⟨w.heap.size, 2, none⟩ = some (.int .i64 x3) ∧ W'.cell? ⟨w.heap.size + 1, 0, none⟩ = some (.int .i64 y1) ∧ W'.cell? ⟨w.heap.size + 1, 1, none⟩ = some (.int .i64 y2) ∧ W'.cell? ⟨w.heap.size + 1, 2, none⟩ = some (.int .i64 y3) ∧ W'.cell? ⟨w.heap.size + 1 + 1, 0, none⟩ = some (.int .i64 z1) ∧ W'.cell? ⟨w.heap.size + 1 + 1, 1, none⟩ = some (.int .i64 z2) ∧ W'.cell? ⟨w.heap.size + 1 + 1, 2, none⟩ = some (.int .i64 z3)) (go_keep)
    (first
      | (go_at_call 23; (with_reducible refine (H1.out _).mono ?_); rintro e w1 ⟨rfl, b1⟩; (try (have b1 := undrew b1)); have C1 := Lib.hid (chain C0.out b1); clear b1; obtain ⟨p00, p01, p02⟩ := hv0.out.below C1.out; obtain ⟨p10, p11, p12⟩ := hv1.out.below C1.out; obtain ⟨p20, p21, p22⟩ := hv2.out.below C1.out)
      | (go_at_call 23; (with_reducible refine (H2.out _).mono ?_); rintro e w2 ⟨rfl, b2⟩; (try (have b2 := undrew b2)); have C2 := Lib.hid (chain C1.out b2); clear b2; obtain ⟨p00, p01, p02⟩ := hv0.out.below C2.out; obtain ⟨p10, p11, p12⟩ := hv1.out.below C2.out; obtain ⟨p20, p21, p22⟩ := hv2.out.below C2.out)
      | (go_at_call 29; (with_reducible refine (H3.out _).mono ?_); rintro e w3 ⟨rfl, b3⟩; (try (have b3 := undrew b3)); have C3 := Lib.hid (chain C2.out b3); clear b3; obtain ⟨p00, p01, p02⟩ := hv0.out.below C3.out; obtain ⟨p10, p11, p12⟩ := hv1.out.below C3.out; obtain ⟨p20, p21, p22⟩ := hv2.out.below C3.out)
      | fail)
  have HB := Lib.hid (chain hb0.out C3.out)
  go_wp2
  go_ret
  exact ⟨rfl, by first | exact HB.out | exact HB.out.drew⟩

set_option maxRecDepth 100000 in
set_option maxHeartbeats 4000000 in
theorem rTurn_n (x1 x2 x3 y1 y2 y3 z1 z2 z3 a1 a2 a3 b1_ b2_ b3_ r1 r2 r3 : Int) (h : ¬ 0 < r3) (h2 : r3 < 0)
    (H1 : ∀ w, Calls Try.prog 23 #[vv y1 y2 y3, vv x1 x2 x3] w (Ret (vv a1 a2 a3) w)) (H2 : ∀ w, Calls Try.prog 23 #[vv z1 z2 z3, vv x1 x2 x3] w (Ret (vv b1_ b2_ b3_) w)) (H3 : ∀ w, Calls Try.prog 29 #[vv a1 a2 a3, vv b1_ b2_ b3_] w (Ret (.agg #[.int .i64 r1, .int .i64 r2, .int .i64 r3]) w)) (w : World) :
    Calls Try.prog 34 #[vv x1 x2 x3, vv y1 y2 y3, vv z1 z2 z3] w (Ret (.int .i64 (-1)) w) := by
  have H1 := Lib.hid H1
  have H2 := Lib.hid H2
  have H3 := Lib.hid H3
  have hf2 : ∀ w, (Instr.field 23 (.agg #[.int .i64 r1, .int .i64 r2, .int .i64 r3]) 2).run Try.prog w = .ok (.int .i64 r3) w := fun _ => by kernel_rfl
  go_enter Try.func34, Try.ntmps34
  go_upto_region 1 with (fail)
  obtain ⟨w0, hw0⟩ : ∃ w0 : World, w0 = ((w.alloc (.cells #[.int .i64 x1, .int .i64 x2, .int .i64 x3] 23)).alloc (.cells #[.int .i64 y1, .int .i64 y2, .int .i64 y3] 23)).alloc (.cells #[.int .i64 z1, .int .i64 z2, .int .i64 z3] 23) := ⟨_, rfl⟩
  have hb0 : Hid (Below w.heap.size w w0) := by rw [hw0]; exact ((below_one w _).alloc (by simp) _).alloc (by simp; omega) _
  have hv0 : Hid (V3 w0 w.heap.size x1 x2 x3) := by rw [hw0]; exact ⟨by simp [go_sem], by simp [go_sem], by simp [go_sem]⟩
  have hv1 : Hid (V3 w0 (w.heap.size + 1) y1 y2 y3) := by rw [hw0]; exact ⟨by simp [go_sem], by simp [go_sem], by simp [go_sem]⟩
  have hv2 : Hid (V3 w0 (w.heap.size + 1 + 1) z1 z2 z3) := by rw [hw0]; exact ⟨by simp [go_sem], by simp [go_sem], by simp [go_sem]⟩
  rw [← hw0]
  clear hw0
  obtain ⟨k00, k01, k02⟩ := hv0.out.below (Below.refl _ _)
  obtain ⟨k10, k11, k12⟩ := hv1.out.below (Below.refl _ _)
  obtain ⟨k20, k21, k22⟩ := hv2.out.below (Below.refl _ _)
  have C0 := Lib.hid (Below.refl w0.heap.size w0)
  go_region_held3 (fun W' => W'.cell? ⟨w.heap.size, 0, none⟩ = some (.int .i64 x1) ∧ W'.cell? ⟨w.heap.size, 1, none⟩ = some (.int .i64 x2) ∧ W'.cell? ⟨w.heap.size, 2, none⟩ = some (.int .i64 x3) ∧ W'.cell? ⟨w.heap.size + 1, 0, none⟩ = some (.int .i64 y1) ∧ W'.cell? ⟨w.heap.size + 1, 1, none⟩ = some (.int .i64 y2) ∧ W'.cell? ⟨w.heap.size + 1, 2, none⟩ = some (.int .i64 y3) ∧ W'.cell? ⟨w.heap.size + 1 + 1, 0, none⟩ = some (.int .i64 z1) ∧ W'.cell? ⟨w.heap.size + 1 + 1, 1, none⟩ = some (.int .i64 z2) ∧ W'.cell? ⟨w.heap.size + 1 + 1, 2, none⟩ = some (.int .i64 z3)) (go_keep)
    (first
      | (go_at_call 23; (with_reducible refine (H1.out _).mono ?_); rintro e w1 ⟨rfl, b1⟩; (try (have b1 := undrew b1)); have C1 := Lib.hid (chain C0.out b1); clear b1; obtain ⟨p00, p01, p02⟩ := hv0.out.below C1.out; obtain ⟨p10, p11, p12⟩ := hv1.out.below C1.out; obtain ⟨p20, p21, p22⟩ := hv2.out.below C1.out)
      | (go_at_call 23; (with_reducible refine (H2.out _).mono ?_); rintro e w2 ⟨rfl, b2⟩; (try (have b2 := undrew b2)); have C2 := Lib.hid (chain C1.out b2); clear b2; obtain ⟨p00, p01, p02⟩ := hv0.out.below C2.out; obtain ⟨p10, p11, p12⟩ := hv1.out.below C2.out; obtain ⟨p20, p21, p22⟩ := hv2.out.below C2.out)
      | (go_at_call 29; (with_reducible refine (H3.out _).mono ?_); rintro e w3 ⟨rfl, b3⟩; (try (have b3 := undrew b3)); have C3 := Lib.hid (chain C2.out b3); clear b3; obtain ⟨p00, p01, p02⟩ := hv0.out.below C3.out; obtain ⟨p10, p11, p12⟩ := hv1.out.below C3.out; obtain ⟨p20, p21, p22⟩ := hv2.out.below C3.out)
      | fail)
  have HB := Lib.hid (chain hb0.out C3.out)
  go_wp2
  go_ret
  exact ⟨rfl, by first | exact HB.out | exact HB.out.drew⟩

set_option maxRecDepth 100000 in
set_option maxHeartbeats 4000000 in
theorem rTurn_z (x1 x2 x3 y1 y2 y3 z1 z2 z3 a1 a2 a3 b1_ b2_ b3_ r1 r2 r3 : Int) (h : ¬ 0 < r3) (h2 : ¬ r3 < 0)
    (H1 : ∀ w, Calls Try.prog 23 #[vv y1 y2 y3, vv x1 x2 x3] w (Ret (vv a1 a2 a3) w)) (H2 : ∀ w, Calls Try.prog 23 #[vv z1 z2 z3, vv x1 x2 x3] w (Ret (vv b1_ b2_ b3_) w)) (H3 : ∀ w, Calls Try.prog 29 #[vv a1 a2 a3, vv b1_ b2_ b3_] w (Ret (.agg #[.int .i64 r1, .int .i64 r2, .int .i64 r3]) w)) (w : World) :
    Calls Try.prog 34 #[vv x1 x2 x3, vv y1 y2 y3, vv z1 z2 z3] w (Ret (.int .i64 0) w) := by
  have H1 := Lib.hid H1
  have H2 := Lib.hid H2
  have H3 := Lib.hid H3
  have hf2 : ∀ w, (Instr.field 23 (.agg #[.int .i64 r1, .int .i64 r2, .int .i64 r3]) 2).run Try.prog w = .ok (.int .i64 r3) w := fun _ => by kernel_rfl
  go_enter Try.func34, Try.ntmps34
  go_upto_region 1 with (fail)
  obtain ⟨w0, hw0⟩ : ∃ w0 : World, w0 = ((w.alloc (.cells #[.int .i64 x1, .int .i64 x2, .int .i64 x3] 23)).alloc (.cells #[.int .i64 y1, .int .i64 y2, .int .i64 y3] 23)).alloc (.cells #[.int .i64 z1, .int .i64 z2, .int .i64 z3] 23) := ⟨_, rfl⟩
  have hb0 : Hid (Below w.heap.size w w0) := by rw [hw0]; exact ((below_one w _).alloc (by simp) _).alloc (by simp; omega) _
  have hv0 : Hid (V3 w0 w.heap.size x1 x2 x3) := by rw [hw0]; exact ⟨by simp [go_sem], by simp [go_sem], by simp [go_sem]⟩
  have hv1 : Hid (V3 w0 (w.heap.size + 1) y1 y2 y3) := by rw [hw0]; exact ⟨by simp [go_sem], by simp [go_sem], by simp [go_sem]⟩
  have hv2 : Hid (V3 w0 (w.heap.size + 1 + 1) z1 z2 z3) := by rw [hw0]; exact ⟨by simp [go_sem], by simp [go_sem], by simp [go_sem]⟩
  rw [← hw0]
  clear hw0
  obtain ⟨k00, k01, k02⟩ := hv0.out.below (Below.refl _ _)
  obtain ⟨k10, k11, k12⟩ := hv1.out.below (Below.refl _ _)
  obtain ⟨k20, k21, k22⟩ := hv2.out.below (Below.refl _ _)
  have C0 := Lib.hid (Below.refl w0.heap.size w0)
  go_region_held3 (fun W' => W'.cell? ⟨w.heap.size, 0, none⟩ = some (.int .i64 x1) ∧ W'.cell? ⟨w.heap.size, 1, none⟩ = some (.int .i64 x2) ∧ W'.cell? ⟨w.heap.size, 2, none⟩ = some (.int .i64 x3) ∧ W'.cell? ⟨w.heap.size + 1, 0, none⟩ = some (.int .i64 y1) ∧ W'.cell? ⟨w.heap.size + 1, 1, none⟩ = some (.int .i64 y2) ∧ W'.cell? ⟨w.heap.size + 1, 2, none⟩ = some (.int .i64 y3) ∧ W'.cell? ⟨w.heap.size + 1 + 1, 0, none⟩ = some (.int .i64 z1) ∧ W'.cell? ⟨w.heap.size + 1 + 1, 1, none⟩ = some (.int .i64 z2) ∧ W'.cell? ⟨w.heap.size + 1 + 1, 2, none⟩ = some (.int .i64 z3)) (go_keep)
    (first
      | (go_at_call 23; (with_reducible refine (H1.out _).mono ?_); rintro e w1 ⟨rfl, b1⟩; (try (have b1 := undrew b1)); have C1 := Lib.hid (chain C0.out b1); clear b1; obtain ⟨p00, p01, p02⟩ := hv0.out.below C1.out; obtain ⟨p10, p11, p12⟩ := hv1.out.below C1.out; obtain ⟨p20, p21, p22⟩ := hv2.out.below C1.out)
      | (go_at_call 23; (with_reducible refine (H2.out _).mono ?_); rintro e w2 ⟨rfl, b2⟩; (try (have b2 := undrew b2)); have C2 := Lib.hid (chain C1.out b2); clear b2; obtain ⟨p00, p01, p02⟩ := hv0.out.below C2.out; obtain ⟨p10, p11, p12⟩ := hv1.out.below C2.out; obtain ⟨p20, p21, p22⟩ := hv2.out.below C2.out)
      | (go_at_call 29; (with_reducible refine (H3.out _).mono ?_); rintro e w3 ⟨rfl, b3⟩; (try (have b3 := undrew b3)); have C3 := Lib.hid (chain C2.out b3); clear b3; obtain ⟨p00, p01, p02⟩ := hv0.out.below C3.out; obtain ⟨p10, p11, p12⟩ := hv1.out.below C3.out; obtain ⟨p20, p21, p22⟩ := hv2.out.below C3.out)
      | fail)
  have HB := Lib.hid (chain hb0.out C3.out)
  go_wp2
  go_ret
  exact ⟨rfl, by first | exact HB.out | exact HB.out.drew⟩
end Go.Proofs.Ytdicbeaocedkmaa
