/- The reference's Cross. -/
import Derived.Test.YtdicbeaocedkmaaVn
import Derived.Test.YtdicbeaocedkmaaVk
set_option linter.all false
namespace Go.Proofs.Ytdicbeaocedkmaa
open Go.RowKit

theorem V3.o1 {w : World} {g g' : Nat} {a b c : Int} (h : V3 w g a b c) (hn : ¬ g = g') (j : Nat) (v : Value) : V3 (w.setCell ⟨g', j, none⟩ v) g a b c := by
  obtain ⟨h1, h2, h3⟩ := h
  have hn2 : ¬ g' = g := fun e => hn e.symm
  refine ⟨?_, ?_, ?_⟩ <;> simp [go_sem, h1, h2, h3, hn, hn2]
theorem VF.o1 {w : World} {g g' : Nat} {a : T3} (h : VF w g a) (hn : ¬ g = g') (j : Nat) (v : Value) : VF (w.setCell ⟨g', j, none⟩ v) g a := by
  obtain ⟨⟨h1, h2, h3⟩, h4, h5, h6⟩ := h
  have hn2 : ¬ g' = g := fun e => hn e.symm
  refine ⟨⟨?_, ?_, ?_⟩, ?_, ?_, ?_⟩ <;> simp [go_sem, h1, h2, h3, h4, h5, h6, hn, hn2]
theorem VF.s0 {w : World} {g : Nat} {a b c : Int} (h : VF w g (a, b, c)) (x : Int) : VF (w.setCell ⟨g, 0, none⟩ (.int .i64 x)) g (x, b, c) := by
  obtain ⟨⟨h1, h2, h3⟩, h4, h5, h6⟩ := h
  simp only at h1 h2 h3
  refine ⟨⟨?_, ?_, ?_⟩, ?_, ?_, ?_⟩ <;> simp [go_sem, h1, h2, h3, h4, h5, h6]
theorem VF.s1 {w : World} {g : Nat} {a b c : Int} (h : VF w g (a, b, c)) (x : Int) : VF (w.setCell ⟨g, 1, none⟩ (.int .i64 x)) g (a, x, c) := by
  obtain ⟨⟨h1, h2, h3⟩, h4, h5, h6⟩ := h
  simp only at h1 h2 h3
  refine ⟨⟨?_, ?_, ?_⟩, ?_, ?_, ?_⟩ <;> simp [go_sem, h1, h2, h3, h4, h5, h6]
theorem VF.s2 {w : World} {g : Nat} {a b c : Int} (h : VF w g (a, b, c)) (x : Int) : VF (w.setCell ⟨g, 2, none⟩ (.int .i64 x)) g (a, b, x) := by
  obtain ⟨⟨h1, h2, h3⟩, h4, h5, h6⟩ := h
  simp only at h1 h2 h3
  refine ⟨⟨?_, ?_, ?_⟩, ?_, ?_, ?_⟩ <;> simp [go_sem, h1, h2, h3, h4, h5, h6]

set_option maxRecDepth 100000 in
set_option maxHeartbeats 4000000 in
theorem rCross_any (x1 x2 x3 y1 y2 y3 a0 b0_ a1 b1_ a2 b2_ r0 r1 r2 : Int) (p0 : IntKind.i64.wrap (x2 * y3) = a0) (q0 : IntKind.i64.wrap (x3 * y2) = b0_) (s0 : IntKind.i64.wrap (a0 - b0_) = r0) (p1 : IntKind.i64.wrap (x3 * y1) = a1) (q1 : IntKind.i64.wrap (x1 * y3) = b1_) (s1 : IntKind.i64.wrap (a1 - b1_) = r1) (p2 : IntKind.i64.wrap (x1 * y2) = a2) (q2 : IntKind.i64.wrap (x2 * y1) = b2_) (s2 : IntKind.i64.wrap (a2 - b2_) = r2) (w : World) :
    Calls Try.prog 29 #[vv x1 x2 x3, vv y1 y2 y3] w (Ret (vv r0 r1 r2) w) := by
  have X0 := Lib.hid (fun w => rpart0 x1 x2 x3 w)
  have Y0 := Lib.hid (fun w => rpart0 y1 y2 y3 w)
  have X1 := Lib.hid (fun w => rpart1 x1 x2 x3 w)
  have Y1 := Lib.hid (fun w => rpart1 y1 y2 y3 w)
  have X2 := Lib.hid (fun w => rpart2 x1 x2 x3 w)
  have Y2 := Lib.hid (fun w => rpart2 y1 y2 y3 w)
  have hw1 : IntKind.i64.wrap 1 = 1 := by decide
  have ht1 : (1 : Int).tmod 3 = 1 := by decide
  have hw2 : IntKind.i64.wrap 2 = 2 := by decide
  have ht2 : (2 : Int).tmod 3 = 2 := by decide
  have hw3 : IntKind.i64.wrap 3 = 3 := by decide
  have ht3 : (3 : Int).tmod 3 = 0 := by decide
  have hw4 : IntKind.i64.wrap 4 = 4 := by decide
  have ht4 : (4 : Int).tmod 3 = 1 := by decide
  go_enter Try.func29, Try.ntmps29
  go_upto_region 2 with (fail)
  obtain ⟨w0, hw0⟩ : ∃ w0 : World, w0 = (((w.alloc (.cells #[.int .i64 x1, .int .i64 x2, .int .i64 x3] 23)).alloc (.cells #[.int .i64 y1, .int .i64 y2, .int .i64 y3] 23)).alloc (.cells #[.int .i64 0, .int .i64 0, .int .i64 0] 23)).alloc (.cells #[.int .i64 0, .int .i64 0, .int .i64 0] 65) := ⟨_, rfl⟩
  have hb0 : Hid (Below w.heap.size w w0) := by rw [hw0]; exact (((below_one w _).alloc (by simp) _).alloc (by simp; omega) _).alloc (by simp; omega) _
  have hv0 : Hid (V3 w0 w.heap.size x1 x2 x3) := by rw [hw0]; exact ⟨by simp [go_sem], by simp [go_sem], by simp [go_sem]⟩
  have hv1 : Hid (V3 w0 (w.heap.size + 1) y1 y2 y3) := by rw [hw0]; exact ⟨by simp [go_sem], by simp [go_sem], by simp [go_sem]⟩
  have I0 : Hid (VF w0 (w.heap.size + 1 + 1) (0, 0, 0)) := by rw [hw0]; exact ⟨⟨by simp [go_sem], by simp [go_sem], by simp [go_sem]⟩, by simp [go_sem], by simp [go_sem], by simp [go_sem]⟩
  have I1 : Hid (VF w0 (w.heap.size + 1 + 1 + 1) (0, 0, 0)) := by rw [hw0]; exact ⟨⟨by simp [go_sem], by simp [go_sem], by simp [go_sem]⟩, by simp [go_sem], by simp [go_sem], by simp [go_sem]⟩
  rw [← hw0]
  clear hw0
  have n03 : ¬ (w.heap.size = w.heap.size + 1 + 1 + 1) := by omega
  have n30 : ¬ (w.heap.size + 1 + 1 + 1 = w.heap.size) := by omega
  have n13 : ¬ (w.heap.size + 1 = w.heap.size + 1 + 1 + 1) := by omega
  have n31 : ¬ (w.heap.size + 1 + 1 + 1 = w.heap.size + 1) := by omega
  have n23 : ¬ (w.heap.size + 1 + 1 = w.heap.size + 1 + 1 + 1) := by omega
  have n32 : ¬ (w.heap.size + 1 + 1 + 1 = w.heap.size + 1 + 1) := by omega
  have n02 : ¬ (w.heap.size = w.heap.size + 1 + 1) := by omega
  have n20 : ¬ (w.heap.size + 1 + 1 = w.heap.size) := by omega
  have n12 : ¬ (w.heap.size + 1 = w.heap.size + 1 + 1) := by omega
  have n21 : ¬ (w.heap.size + 1 + 1 = w.heap.size + 1) := by omega
  obtain ⟨k00, k01, k02⟩ := hv0.out
  obtain ⟨k10, k11, k12⟩ := hv1.out
  obtain ⟨⟨m30, m31, m32⟩, g30, g31, g32⟩ := I1.out
  simp only at m30 m31 m32
  go_wp2
  refine wp_loop_rounds 4 ?_
  rw [rounds_succ]
  have C0 := Lib.hid (Below.refl w0.heap.size w0)
  go_wp2
  go_region_held3 (fun W' => W'.cell? ⟨w.heap.size, 0, none⟩ = some (.int .i64 x1) ∧ W'.cell? ⟨w.heap.size, 1, none⟩ = some (.int .i64 x2) ∧ W'.cell? ⟨w.heap.size, 2, none⟩ = some (.int .i64 x3) ∧ W'.cell? ⟨w.heap.size + 1, 0, none⟩ = some (.int .i64 y1) ∧ W'.cell? ⟨w.heap.size + 1, 1, none⟩ = some (.int .i64 y2) ∧ W'.cell? ⟨w.heap.size + 1, 2, none⟩ = some (.int .i64 y3)) (go_keep)
    (first
      | (go_at_call 41; (with_reducible refine (X1.out _).mono ?_); rintro e w1 ⟨rfl, b1⟩; (try (have b1 := undrew b1)); have C1 := Lib.hid (chain C0.out b1); clear b1; obtain ⟨p00, p01, p02⟩ := hv0.out.below C1.out; obtain ⟨p10, p11, p12⟩ := hv1.out.below C1.out; obtain ⟨⟨q30, q31, q32⟩, f30, f31, f32⟩ := I1.out.below C1.out; simp only at q30 q31 q32)
      | (go_at_call 41; (with_reducible refine (Y2.out _).mono ?_); rintro e w2 ⟨rfl, b2⟩; (try (have b2 := undrew b2)); have C2 := Lib.hid (chain C1.out b2); clear b2; obtain ⟨p00, p01, p02⟩ := hv0.out.below C2.out; obtain ⟨p10, p11, p12⟩ := hv1.out.below C2.out; obtain ⟨⟨q30, q31, q32⟩, f30, f31, f32⟩ := I1.out.below C2.out; simp only at q30 q31 q32)
      | (go_at_call 41; (with_reducible refine (X2.out _).mono ?_); rintro e w3 ⟨rfl, b3⟩; (try (have b3 := undrew b3)); have C3 := Lib.hid (chain C2.out b3); clear b3; obtain ⟨p00, p01, p02⟩ := hv0.out.below C3.out; obtain ⟨p10, p11, p12⟩ := hv1.out.below C3.out; obtain ⟨⟨q30, q31, q32⟩, f30, f31, f32⟩ := I1.out.below C3.out; simp only at q30 q31 q32)
      | (go_at_call 41; (with_reducible refine (Y1.out _).mono ?_); rintro e w4 ⟨rfl, b4⟩; (try (have b4 := undrew b4)); have C4 := Lib.hid (chain C3.out b4); clear b4; obtain ⟨p00, p01, p02⟩ := hv0.out.below C4.out; obtain ⟨p10, p11, p12⟩ := hv1.out.below C4.out; obtain ⟨⟨q30, q31, q32⟩, f30, f31, f32⟩ := I1.out.below C4.out; simp only at q30 q31 q32)
      | fail)
  obtain ⟨w5, hw⟩ : ∃ w5 : World, w5 = w4.setCell ⟨w.heap.size + 1 + 1 + 1, 0, none⟩ (.int .i64 r0) := ⟨_, rfl⟩
  have hv0 : Hid (V3 w5 w.heap.size x1 x2 x3) := by rw [hw]; exact (hv0.out.below C4.out).o1 n03 _ _
  have hv1 : Hid (V3 w5 (w.heap.size + 1) y1 y2 y3) := by rw [hw]; exact (hv1.out.below C4.out).o1 n13 _ _
  have I0 : Hid (VF w5 (w.heap.size + 1 + 1) (0, 0, 0)) := by rw [hw]; exact (I0.out.below C4.out).o1 n23 _ _
  have I1 : Hid (VF w5 (w.heap.size + 1 + 1 + 1) (r0, 0, 0)) := by rw [hw]; exact (I1.out.below C4.out).s0 _
  have hb0 : Hid (Below w.heap.size w w5) := by rw [hw]; exact (chain hb0.out C4.out).setCell (p := ⟨w.heap.size + 1 + 1 + 1, 0, none⟩) (by simp; omega) _
  rw [← hw]
  clear hw p00 p01 p02 p10 p11 p12 q30 q31 q32 f30 f31 f32 k00 k01 k02 k10 k11 k12 m30 m31 m32 g30 g31 g32 C0 C1 C2 C3 C4
  obtain ⟨k00, k01, k02⟩ := hv0.out
  obtain ⟨k10, k11, k12⟩ := hv1.out
  obtain ⟨⟨m30, m31, m32⟩, g30, g31, g32⟩ := I1.out
  simp only at m30 m31 m32
  go_wp2
  rw [rounds_succ]
  have C5 := Lib.hid (Below.refl w5.heap.size w5)
  go_wp2
  go_region_held3 (fun W' => W'.cell? ⟨w.heap.size, 0, none⟩ = some (.int .i64 x1) ∧ W'.cell? ⟨w.heap.size, 1, none⟩ = some (.int .i64 x2) ∧ W'.cell? ⟨w.heap.size, 2, none⟩ = some (.int .i64 x3) ∧ W'.cell? ⟨w.heap.size + 1, 0, none⟩ = some (.int .i64 y1) ∧ W'.cell? ⟨w.heap.size + 1, 1, none⟩ = some (.int .i64 y2) ∧ W'.cell? ⟨w.heap.size + 1, 2, none⟩ = some (.int .i64 y3)) (go_keep)
    (first
      | (go_at_call 41; (with_reducible refine (X2.out _).mono ?_); rintro e w6 ⟨rfl, b6⟩; (try (have b6 := undrew b6)); have C6 := Lib.hid (chain C5.out b6); clear b6; obtain ⟨p00, p01, p02⟩ := hv0.out.below C6.out; obtain ⟨p10, p11, p12⟩ := hv1.out.below C6.out; obtain ⟨⟨q30, q31, q32⟩, f30, f31, f32⟩ := I1.out.below C6.out; simp only at q30 q31 q32)
      | (go_at_call 41; (with_reducible refine (Y0.out _).mono ?_); rintro e w7 ⟨rfl, b7⟩; (try (have b7 := undrew b7)); have C7 := Lib.hid (chain C6.out b7); clear b7; obtain ⟨p00, p01, p02⟩ := hv0.out.below C7.out; obtain ⟨p10, p11, p12⟩ := hv1.out.below C7.out; obtain ⟨⟨q30, q31, q32⟩, f30, f31, f32⟩ := I1.out.below C7.out; simp only at q30 q31 q32)
      | (go_at_call 41; (with_reducible refine (X0.out _).mono ?_); rintro e w8 ⟨rfl, b8⟩; (try (have b8 := undrew b8)); have C8 := Lib.hid (chain C7.out b8); clear b8; obtain ⟨p00, p01, p02⟩ := hv0.out.below C8.out; obtain ⟨p10, p11, p12⟩ := hv1.out.below C8.out; obtain ⟨⟨q30, q31, q32⟩, f30, f31, f32⟩ := I1.out.below C8.out; simp only at q30 q31 q32)
      | (go_at_call 41; (with_reducible refine (Y2.out _).mono ?_); rintro e w9 ⟨rfl, b9⟩; (try (have b9 := undrew b9)); have C9 := Lib.hid (chain C8.out b9); clear b9; obtain ⟨p00, p01, p02⟩ := hv0.out.below C9.out; obtain ⟨p10, p11, p12⟩ := hv1.out.below C9.out; obtain ⟨⟨q30, q31, q32⟩, f30, f31, f32⟩ := I1.out.below C9.out; simp only at q30 q31 q32)
      | fail)
  obtain ⟨w10, hw⟩ : ∃ w10 : World, w10 = w9.setCell ⟨w.heap.size + 1 + 1 + 1, 1, none⟩ (.int .i64 r1) := ⟨_, rfl⟩
  have hv0 : Hid (V3 w10 w.heap.size x1 x2 x3) := by rw [hw]; exact (hv0.out.below C9.out).o1 n03 _ _
  have hv1 : Hid (V3 w10 (w.heap.size + 1) y1 y2 y3) := by rw [hw]; exact (hv1.out.below C9.out).o1 n13 _ _
  have I0 : Hid (VF w10 (w.heap.size + 1 + 1) (0, 0, 0)) := by rw [hw]; exact (I0.out.below C9.out).o1 n23 _ _
  have I1 : Hid (VF w10 (w.heap.size + 1 + 1 + 1) (r0, r1, 0)) := by rw [hw]; exact (I1.out.below C9.out).s1 _
  have hb0 : Hid (Below w.heap.size w w10) := by rw [hw]; exact (chain hb0.out C9.out).setCell (p := ⟨w.heap.size + 1 + 1 + 1, 1, none⟩) (by simp; omega) _
  rw [← hw]
  clear hw p00 p01 p02 p10 p11 p12 q30 q31 q32 f30 f31 f32 k00 k01 k02 k10 k11 k12 m30 m31 m32 g30 g31 g32 C5 C6 C7 C8 C9
  obtain ⟨k00, k01, k02⟩ := hv0.out
  obtain ⟨k10, k11, k12⟩ := hv1.out
  obtain ⟨⟨m30, m31, m32⟩, g30, g31, g32⟩ := I1.out
  simp only at m30 m31 m32
  go_wp2
  rw [rounds_succ]
  have C10 := Lib.hid (Below.refl w10.heap.size w10)
  go_wp2
  go_region_held3 (fun W' => W'.cell? ⟨w.heap.size, 0, none⟩ = some (.int .i64 x1) ∧ W'.cell? ⟨w.heap.size, 1, none⟩ = some (.int .i64 x2) ∧ W'.cell? ⟨w.heap.size, 2, none⟩ = some (.int .i64 x3) ∧ W'.cell? ⟨w.heap.size + 1, 0, none⟩ = some (.int .i64 y1) ∧ W'.cell? ⟨w.heap.size + 1, 1, none⟩ = some (.int .i64 y2) ∧ W'.cell? ⟨w.heap.size + 1, 2, none⟩ = some (.int .i64 y3)) (go_keep)
    (first
      | (go_at_call 41; (with_reducible refine (X0.out _).mono ?_); rintro e w11 ⟨rfl, b11⟩; (try (have b11 := undrew b11)); have C11 := Lib.hid (chain C10.out b11); clear b11; obtain ⟨p00, p01, p02⟩ := hv0.out.below C11.out; obtain ⟨p10, p11, p12⟩ := hv1.out.below C11.out; obtain ⟨⟨q30, q31, q32⟩, f30, f31, f32⟩ := I1.out.below C11.out; simp only at q30 q31 q32)
      | (go_at_call 41; (with_reducible refine (Y1.out _).mono ?_); rintro e w12 ⟨rfl, b12⟩; (try (have b12 := undrew b12)); have C12 := Lib.hid (chain C11.out b12); clear b12; obtain ⟨p00, p01, p02⟩ := hv0.out.below C12.out; obtain ⟨p10, p11, p12⟩ := hv1.out.below C12.out; obtain ⟨⟨q30, q31, q32⟩, f30, f31, f32⟩ := I1.out.below C12.out; simp only at q30 q31 q32)
      | (go_at_call 41; (with_reducible refine (X1.out _).mono ?_); rintro e w13 ⟨rfl, b13⟩; (try (have b13 := undrew b13)); have C13 := Lib.hid (chain C12.out b13); clear b13; obtain ⟨p00, p01, p02⟩ := hv0.out.below C13.out; obtain ⟨p10, p11, p12⟩ := hv1.out.below C13.out; obtain ⟨⟨q30, q31, q32⟩, f30, f31, f32⟩ := I1.out.below C13.out; simp only at q30 q31 q32)
      | (go_at_call 41; (with_reducible refine (Y0.out _).mono ?_); rintro e w14 ⟨rfl, b14⟩; (try (have b14 := undrew b14)); have C14 := Lib.hid (chain C13.out b14); clear b14; obtain ⟨p00, p01, p02⟩ := hv0.out.below C14.out; obtain ⟨p10, p11, p12⟩ := hv1.out.below C14.out; obtain ⟨⟨q30, q31, q32⟩, f30, f31, f32⟩ := I1.out.below C14.out; simp only at q30 q31 q32)
      | fail)
  obtain ⟨w15, hw⟩ : ∃ w15 : World, w15 = w14.setCell ⟨w.heap.size + 1 + 1 + 1, 2, none⟩ (.int .i64 r2) := ⟨_, rfl⟩
  have hv0 : Hid (V3 w15 w.heap.size x1 x2 x3) := by rw [hw]; exact (hv0.out.below C14.out).o1 n03 _ _
  have hv1 : Hid (V3 w15 (w.heap.size + 1) y1 y2 y3) := by rw [hw]; exact (hv1.out.below C14.out).o1 n13 _ _
  have I0 : Hid (VF w15 (w.heap.size + 1 + 1) (0, 0, 0)) := by rw [hw]; exact (I0.out.below C14.out).o1 n23 _ _
  have I1 : Hid (VF w15 (w.heap.size + 1 + 1 + 1) (r0, r1, r2)) := by rw [hw]; exact (I1.out.below C14.out).s2 _
  have hb0 : Hid (Below w.heap.size w w15) := by rw [hw]; exact (chain hb0.out C14.out).setCell (p := ⟨w.heap.size + 1 + 1 + 1, 2, none⟩) (by simp; omega) _
  rw [← hw]
  clear hw p00 p01 p02 p10 p11 p12 q30 q31 q32 f30 f31 f32 k00 k01 k02 k10 k11 k12 m30 m31 m32 g30 g31 g32 C10 C11 C12 C13 C14
  obtain ⟨k00, k01, k02⟩ := hv0.out
  obtain ⟨k10, k11, k12⟩ := hv1.out
  obtain ⟨⟨m30, m31, m32⟩, g30, g31, g32⟩ := I1.out
  simp only at m30 m31 m32
  go_wp2
  rw [rounds_succ]
  obtain ⟨⟨k20, k21, k22⟩, g20, g21, g22⟩ := I0.out
  simp only at k20 k21 k22
  have HZ := Lib.hid (((hb0.out.setCell (p := ⟨w.heap.size + 1 + 1, 0, none⟩) (by simp; omega) (.int .i64 r0)).setCell (p := ⟨w.heap.size + 1 + 1, 1, none⟩) (by simp; omega) (.int .i64 r1)).setCell (p := ⟨w.heap.size + 1 + 1, 2, none⟩) (by simp; omega) (.int .i64 r2))
  go_wp2
  exact bodyPost_ret (v := vv r0 r1 r2) (by simp [results, Try.results29, go_sem, k20, k21, k22]) rfl ⟨rfl, HZ.out⟩
end Go.Proofs.Ytdicbeaocedkmaa
