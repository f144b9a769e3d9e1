/- vector.combine over what is done with the parts: sums, differences, products. -/
import Derived.Test.YtdicbeaocedkmaaVb
import Derived.Deep.DeepCutAuto
set_option linter.all false
namespace Go.Proofs.Ytdicbeaocedkmaa
open Go.RowKit

set_option maxRecDepth 100000 in
set_option maxHeartbeats 4000000 in
theorem combine_add (x1 x2 x3 y1 y2 y3 r1 r2 r3 : Int) (w : World) (H1 : ∀ w', Calls Try.prog 46 #[.int .i64 x1, .int .i64 y1] w' (Qt (.int .i64 r1) w')) (H2 : ∀ w', Calls Try.prog 46 #[.int .i64 x2, .int .i64 y2] w' (Qt (.int .i64 r2) w')) (H3 : ∀ w', Calls Try.prog 46 #[.int .i64 x3, .int .i64 y3] w' (Qt (.int .i64 r3) w')) :
    Calls Try.prog 45 #[vv x1 x2 x3, vv y1 y2 y3, (.func (.func 46) #[] #[])] w (Ret (vv r1 r2 r3) w) := by
  have K1 := Lib.hid H1
  have K2 := Lib.hid H2
  have K3 := Lib.hid H3
  clear H1 H2 H3
  go_enter Try.func45, Try.ntmps45
  go_upto_region 1 with (fail)
  obtain ⟨w0, hw0⟩ : ∃ w0 : World, w0 = ((w.alloc (.cells #[.int .i64 x1, .int .i64 x2, .int .i64 x3] 23)).alloc (.cells #[.int .i64 y1, .int .i64 y2, .int .i64 y3] 23)).alloc (.cells #[.int .i64 0, .int .i64 0, .int .i64 0] 23) := ⟨_, rfl⟩
  have hb0 : Hid (Below w.heap.size w w0) := by rw [hw0]; exact ((below_one w _).alloc (by simp) _).alloc (by simp; omega) _
  have hv0 : Hid (V3 w0 w.heap.size x1 x2 x3) := by rw [hw0]; exact ⟨by simp [go_sem], by simp [go_sem], by simp [go_sem]⟩
  have hv1 : Hid (V3 w0 (w.heap.size + 1) y1 y2 y3) := by rw [hw0]; exact ⟨by simp [go_sem], by simp [go_sem], by simp [go_sem]⟩
  have hv2 : Hid (V3 w0 (w.heap.size + 1 + 1) 0 0 0) := by rw [hw0]; exact ⟨by simp [go_sem], by simp [go_sem], by simp [go_sem]⟩
  have f20 : w0.frozen? ⟨w.heap.size + 1 + 1, 0, none⟩ = false := by rw [hw0]; simp [go_sem]
  have f21 : w0.frozen? ⟨w.heap.size + 1 + 1, 1, none⟩ = false := by rw [hw0]; simp [go_sem]
  have f22 : w0.frozen? ⟨w.heap.size + 1 + 1, 2, none⟩ = false := by rw [hw0]; simp [go_sem]
  rw [← hw0]
  have hsz : w0.heap.size = w.heap.size + 3 := by rw [hw0]; simp
  have Hsz := Lib.hid hsz
  clear hw0 hsz
  obtain ⟨c00, c01, c02⟩ := hv0.out
  obtain ⟨c10, c11, c12⟩ := hv1.out
  obtain ⟨c20, c21, c22⟩ := hv2.out
  have n02 : ¬ (w.heap.size = w.heap.size + 1 + 1) := by omega
  have n20 : ¬ (w.heap.size + 1 + 1 = w.heap.size) := by omega
  have n12 : ¬ (w.heap.size + 1 = w.heap.size + 1 + 1) := by omega
  have n21 : ¬ (w.heap.size + 1 + 1 = w.heap.size + 1) := by omega
  go_region_held3 (fun W' => W'.cell? ⟨w.heap.size, 0, none⟩ = some (.int .i64 x1) ∧ W'.cell? ⟨w.heap.size, 1, none⟩ = some (.int .i64 x2) ∧ W'.cell? ⟨w.heap.size, 2, none⟩ = some (.int .i64 x3) ∧ W'.cell? ⟨w.heap.size + 1, 0, none⟩ = some (.int .i64 y1) ∧ W'.cell? ⟨w.heap.size + 1, 1, none⟩ = some (.int .i64 y2) ∧ W'.cell? ⟨w.heap.size + 1, 2, none⟩ = some (.int .i64 y3)) (go_keep)
    (first
      | (go_at_call 46; (with_reducible refine (K1.out _).mono ?_); rintro e w1 ⟨rfl, rfl⟩)
      | (go_at_call 46; (with_reducible refine (K2.out _).mono ?_); rintro e w1 ⟨rfl, rfl⟩)
      | (go_at_call 46; (with_reducible refine (K3.out _).mono ?_); rintro e w1 ⟨rfl, rfl⟩)
      | fail)
  have HZ := Lib.hid ((((hb0.out.setCell (p := ⟨w.heap.size + 1 + 1, 0, none⟩) (by simp; omega) (.int .i64 r1)).setCell (p := ⟨w.heap.size + 1 + 1, 1, none⟩) (by simp; omega) (.int .i64 r2)).setCell (p := ⟨w.heap.size + 1 + 1, 2, none⟩) (by simp; omega) (.int .i64 r3)))
  go_wp2
  exact bodyPost_ret (v := vv r1 r2 r3) (by simp [results, Try.results45, go_sem, c20, c21, c22]) rfl ⟨rfl, HZ.out.drew⟩

set_option maxRecDepth 100000 in
set_option maxHeartbeats 4000000 in
theorem combine_sub (x1 x2 x3 y1 y2 y3 r1 r2 r3 : Int) (w : World) (H1 : ∀ w', Calls Try.prog 58 #[.int .i64 x1, .int .i64 y1] w' (Qt (.int .i64 r1) w')) (H2 : ∀ w', Calls Try.prog 58 #[.int .i64 x2, .int .i64 y2] w' (Qt (.int .i64 r2) w')) (H3 : ∀ w', Calls Try.prog 58 #[.int .i64 x3, .int .i64 y3] w' (Qt (.int .i64 r3) w')) :
    Calls Try.prog 45 #[vv x1 x2 x3, vv y1 y2 y3, (.func (.func 58) #[] #[])] w (Ret (vv r1 r2 r3) w) := by
  have K1 := Lib.hid H1
  have K2 := Lib.hid H2
  have K3 := Lib.hid H3
  clear H1 H2 H3
  go_enter Try.func45, Try.ntmps45
  go_upto_region 1 with (fail)
  obtain ⟨w0, hw0⟩ : ∃ w0 : World, w0 = ((w.alloc (.cells #[.int .i64 x1, .int .i64 x2, .int .i64 x3] 23)).alloc (.cells #[.int .i64 y1, .int .i64 y2, .int .i64 y3] 23)).alloc (.cells #[.int .i64 0, .int .i64 0, .int .i64 0] 23) := ⟨_, rfl⟩
  have hb0 : Hid (Below w.heap.size w w0) := by rw [hw0]; exact ((below_one w _).alloc (by simp) _).alloc (by simp; omega) _
  have hv0 : Hid (V3 w0 w.heap.size x1 x2 x3) := by rw [hw0]; exact ⟨by simp [go_sem], by simp [go_sem], by simp [go_sem]⟩
  have hv1 : Hid (V3 w0 (w.heap.size + 1) y1 y2 y3) := by rw [hw0]; exact ⟨by simp [go_sem], by simp [go_sem], by simp [go_sem]⟩
  have hv2 : Hid (V3 w0 (w.heap.size + 1 + 1) 0 0 0) := by rw [hw0]; exact ⟨by simp [go_sem], by simp [go_sem], by simp [go_sem]⟩
  have f20 : w0.frozen? ⟨w.heap.size + 1 + 1, 0, none⟩ = false := by rw [hw0]; simp [go_sem]
  have f21 : w0.frozen? ⟨w.heap.size + 1 + 1, 1, none⟩ = false := by rw [hw0]; simp [go_sem]
  have f22 : w0.frozen? ⟨w.heap.size + 1 + 1, 2, none⟩ = false := by rw [hw0]; simp [go_sem]
  rw [← hw0]
  have hsz : w0.heap.size = w.heap.size + 3 := by rw [hw0]; simp
  have Hsz := Lib.hid hsz
  clear hw0 hsz
  obtain ⟨c00, c01, c02⟩ := hv0.out
  obtain ⟨c10, c11, c12⟩ := hv1.out
  obtain ⟨c20, c21, c22⟩ := hv2.out
  have n02 : ¬ (w.heap.size = w.heap.size + 1 + 1) := by omega
  have n20 : ¬ (w.heap.size + 1 + 1 = w.heap.size) := by omega
  have n12 : ¬ (w.heap.size + 1 = w.heap.size + 1 + 1) := by omega
  have n21 : ¬ (w.heap.size + 1 + 1 = w.heap.size + 1) := by omega
  go_region_held3 (fun W' => W'.cell? ⟨w.heap.size, 0, none⟩ = some (.int .i64 x1) ∧ W'.cell? ⟨w.heap.size, 1, none⟩ = some (.int .i64 x2) ∧ W'.cell? ⟨w.heap.size, 2, none⟩ = some (.int .i64 x3) ∧ W'.cell? ⟨w.heap.size + 1, 0, none⟩ = some (.int .i64 y1) ∧ W'.cell? ⟨w.heap.size + 1, 1, none⟩ = some (.int .i64 y2) ∧ W'.cell? ⟨w.heap.size + 1, 2, none⟩ = some (.int .i64 y3)) (go_keep)
    (first
      | (go_at_call 58; (with_reducible refine (K1.out _).mono ?_); rintro e w1 ⟨rfl, rfl⟩)
      | (go_at_call 58; (with_reducible refine (K2.out _).mono ?_); rintro e w1 ⟨rfl, rfl⟩)
      | (go_at_call 58; (with_reducible refine (K3.out _).mono ?_); rintro e w1 ⟨rfl, rfl⟩)
      | fail)
  have HZ := Lib.hid ((((hb0.out.setCell (p := ⟨w.heap.size + 1 + 1, 0, none⟩) (by simp; omega) (.int .i64 r1)).setCell (p := ⟨w.heap.size + 1 + 1, 1, none⟩) (by simp; omega) (.int .i64 r2)).setCell (p := ⟨w.heap.size + 1 + 1, 2, none⟩) (by simp; omega) (.int .i64 r3)))
  go_wp2
  exact bodyPost_ret (v := vv r1 r2 r3) (by simp [results, Try.results45, go_sem, c20, c21, c22]) rfl ⟨rfl, HZ.out.drew⟩

set_option maxRecDepth 100000 in
set_option maxHeartbeats 4000000 in
theorem combine_mul (x1 x2 x3 y1 y2 y3 r1 r2 r3 : Int) (w : World) (H1 : ∀ w', Calls Try.prog 59 #[.int .i64 x1, .int .i64 y1] w' (Qt (.int .i64 r1) w')) (H2 : ∀ w', Calls Try.prog 59 #[.int .i64 x2, .int .i64 y2] w' (Qt (.int .i64 r2) w')) (H3 : ∀ w', Calls Try.prog 59 #[.int .i64 x3, .int .i64 y3] w' (Qt (.int .i64 r3) w')) :
    Calls Try.prog 45 #[vv x1 x2 x3, vv y1 y2 y3, (.func (.func 59) #[] #[])] w (Ret (vv r1 r2 r3) w) := by
  have K1 := Lib.hid H1
  have K2 := Lib.hid H2
  have K3 := Lib.hid H3
  clear H1 H2 H3
  go_enter Try.func45, Try.ntmps45
  go_upto_region 1 with (fail)
  obtain ⟨w0, hw0⟩ : ∃ w0 : World, w0 = ((w.alloc (.cells #[.int .i64 x1, .int .i64 x2, .int .i64 x3] 23)).alloc (.cells #[.int .i64 y1, .int .i64 y2, .int .i64 y3] 23)).alloc (.cells #[.int .i64 0, .int .i64 0, .int .i64 0] 23) := ⟨_, rfl⟩
  have hb0 : Hid (Below w.heap.size w w0) := by rw [hw0]; exact ((below_one w _).alloc (by simp) _).alloc (by simp; omega) _
  have hv0 : Hid (V3 w0 w.heap.size x1 x2 x3) := by rw [hw0]; exact ⟨by simp [go_sem], by simp [go_sem], by simp [go_sem]⟩
  have hv1 : Hid (V3 w0 (w.heap.size + 1) y1 y2 y3) := by rw [hw0]; exact ⟨by simp [go_sem], by simp [go_sem], by simp [go_sem]⟩
  have hv2 : Hid (V3 w0 (w.heap.size + 1 + 1) 0 0 0) := by rw [hw0]; exact ⟨by simp [go_sem], by simp [go_sem], by simp [go_sem]⟩
  have f20 : w0.frozen? ⟨w.heap.size + 1 + 1, 0, none⟩ = false := by rw [hw0]; simp [go_sem]
  have f21 : w0.frozen? ⟨w.heap.size + 1 + 1, 1, none⟩ = false := by rw [hw0]; simp [go_sem]
  have f22 : w0.frozen? ⟨w.heap.size + 1 + 1, 2, none⟩ = false := by rw [hw0]; simp [go_sem]
  rw [← hw0]
  have hsz : w0.heap.size = w.heap.size + 3 := by rw [hw0]; simp
  have Hsz := Lib.hid hsz
  clear hw0 hsz
  obtain ⟨c00, c01, c02⟩ := hv0.out
  obtain ⟨c10, c11, c12⟩ := hv1.out
  obtain ⟨c20, c21, c22⟩ := hv2.out
  have n02 : ¬ (w.heap.size = w.heap.size + 1 + 1) := by omega
  have n20 : ¬ (w.heap.size + 1 + 1 = w.heap.size) := by omega
  have n12 : ¬ (w.heap.size + 1 = w.heap.size + 1 + 1) := by omega
  have n21 : ¬ (w.heap.size + 1 + 1 = w.heap.size + 1) := by omega
  go_region_held3 (fun W' => W'.cell? ⟨w.heap.size, 0, none⟩ = some (.int .i64 x1) ∧ W'.cell? ⟨w.heap.size, 1, none⟩ = some (.int .i64 x2) ∧ W'.cell? ⟨w.heap.size, 2, none⟩ = some (.int .i64 x3) ∧ W'.cell? ⟨w.heap.size + 1, 0, none⟩ = some (.int .i64 y1) ∧ W'.cell? ⟨w.heap.size + 1, 1, none⟩ = some (.int .i64 y2) ∧ W'.cell? ⟨w.heap.size + 1, 2, none⟩ = some (.int .i64 y3)) (go_keep)
    (first
      | (go_at_call 59; (with_reducible refine (K1.out _).mono ?_); rintro e w1 ⟨rfl, rfl⟩)
      | (go_at_call 59; (with_reducible refine (K2.out _).mono ?_); rintro e w1 ⟨rfl, rfl⟩)
      | (go_at_call 59; (with_reducible refine (K3.out _).mono ?_); rintro e w1 ⟨rfl, rfl⟩)
      | fail)
  have HZ := Lib.hid ((((hb0.out.setCell (p := ⟨w.heap.size + 1 + 1, 0, none⟩) (by simp; omega) (.int .i64 r1)).setCell (p := ⟨w.heap.size + 1 + 1, 1, none⟩) (by simp; omega) (.int .i64 r2)).setCell (p := ⟨w.heap.size + 1 + 1, 2, none⟩) (by simp; omega) (.int .i64 r3)))
  go_wp2
  exact bodyPost_ret (v := vv r1 r2 r3) (by simp [results, Try.results45, go_sem, c20, c21, c22]) rfl ⟨rfl, HZ.out.drew⟩
end Go.Proofs.Ytdicbeaocedkmaa
