/- vector.Add, Sub, Dot, Cross, Distance2 as walks over what their calls give. -/
import Derived.Test.YtdicbeaocedkmaaVc
import Derived.Test.YtdicbeaocedkmaaVf
set_option linter.all false
namespace Go.Proofs.Ytdicbeaocedkmaa
open Go.RowKit

theorem rv2 {w : World} {g : Nat} {x1 x2 x3 y1 y2 y3 : Int} (h : w.cell? ⟨g, 0, none⟩ = some (.int .i64 x1) ∧ w.cell? ⟨g, 1, none⟩ = some (.int .i64 x2) ∧ w.cell? ⟨g, 2, none⟩ = some (.int .i64 x3) ∧ w.cell? ⟨g, 3, none⟩ = some (.int .i64 y1) ∧ w.cell? ⟨g, 4, none⟩ = some (.int .i64 y2) ∧ w.cell? ⟨g, 5, none⟩ = some (.int .i64 y3)) :
    Rv w (.slice (some ⟨g, 0, none⟩) 2 2) [(x1, x2, x3), (y1, y2, y3)] := by
  obtain ⟨h0, h1, h2, h3, h4, h5⟩ := h
  refine ⟨_, g, 0, 2, rfl, Nat.le_refl _, by decide, fun _ => rfl, fun k hk => ?_⟩
  simp only [List.length_cons, List.length_nil] at hk
  obtain rfl | rfl : k = 0 ∨ k = 1 := by omega
  · exact ⟨h0, h1, h2⟩
  · exact ⟨h3, h4, h5⟩
theorem rv3 {w : World} {g : Nat} {x1 x2 x3 y1 y2 y3 z1 z2 z3 : Int} (h : w.cell? ⟨g, 0, none⟩ = some (.int .i64 x1) ∧ w.cell? ⟨g, 1, none⟩ = some (.int .i64 x2) ∧ w.cell? ⟨g, 2, none⟩ = some (.int .i64 x3) ∧ w.cell? ⟨g, 3, none⟩ = some (.int .i64 y1) ∧ w.cell? ⟨g, 4, none⟩ = some (.int .i64 y2) ∧ w.cell? ⟨g, 5, none⟩ = some (.int .i64 y3) ∧ w.cell? ⟨g, 6, none⟩ = some (.int .i64 z1) ∧ w.cell? ⟨g, 7, none⟩ = some (.int .i64 z2) ∧ w.cell? ⟨g, 8, none⟩ = some (.int .i64 z3)) :
    Rv w (.slice (some ⟨g, 0, none⟩) 3 3) [(x1, x2, x3), (y1, y2, y3), (z1, z2, z3)] := by
  obtain ⟨h0, h1, h2, h3, h4, h5, h6, h7, h8⟩ := h
  refine ⟨_, g, 0, 3, rfl, Nat.le_refl _, by decide, fun _ => rfl, fun k hk => ?_⟩
  simp only [List.length_cons, List.length_nil] at hk
  obtain rfl | rfl | rfl : k = 0 ∨ k = 1 ∨ k = 2 := by omega
  · exact ⟨h0, h1, h2⟩
  · exact ⟨h3, h4, h5⟩
  · exact ⟨h6, h7, h8⟩

set_option maxRecDepth 100000 in
set_option maxHeartbeats 4000000 in
theorem Add_bad (x1 x2 x3 y1 y2 y3 : Int) (h : inL 16777216 [(x1, x2, x3), (y1, y2, y3)] = false) (w : World) :
    Calls Try.prog 17 #[vv x1 x2 x3, vv y1 y2 y3] w (Ret (.tuple #[vv 0 0 0, .int .i64 2]) w) := by
  have HA := Lib.hid (fun v w h => allValid_any [(x1, x2, x3), (y1, y2, y3)] v w h)
  rw [h] at HA
  clear h
  go_enter Try.func17, Try.ntmps17
  go_wp2_with fail
  obtain ⟨w0, hw0⟩ : ∃ w0 : World, w0 = (((w.alloc (.cells #[.int .i64 x1, .int .i64 x2, .int .i64 x3] 23)).alloc (.cells #[.int .i64 y1, .int .i64 y2, .int .i64 y3] 23)).alloc (.cells #[.int .i64 0, .int .i64 0, .int .i64 0] 23)).alloc (.cells #[.int .i64 x1, .int .i64 x2, .int .i64 x3, .int .i64 y1, .int .i64 y2, .int .i64 y3] 23) := ⟨_, rfl⟩
  have hb0 : Hid (Below w.heap.size w w0) := by rw [hw0]; exact (((below_one w _).alloc (by simp) _).alloc (by simp; omega) _).alloc (by simp; omega) _
  have hv0 : Hid (V3 w0 w.heap.size x1 x2 x3) := by rw [hw0]; exact ⟨by simp [go_sem], by simp [go_sem], by simp [go_sem]⟩
  have hv1 : Hid (V3 w0 (w.heap.size + 1) y1 y2 y3) := by rw [hw0]; exact ⟨by simp [go_sem], by simp [go_sem], by simp [go_sem]⟩
  have hv2 : Hid (V3 w0 (w.heap.size + 1 + 1) 0 0 0) := by rw [hw0]; exact ⟨by simp [go_sem], by simp [go_sem], by simp [go_sem]⟩
  have hv3 : Hid (Rv w0 (.slice (some ⟨w.heap.size + 1 + 1 + 1, 0, none⟩) 2 2) [(x1, x2, x3), (y1, y2, y3)]) := by rw [hw0]; exact rv2 (by simp [go_sem])
  have f20 : w0.frozen? ⟨w.heap.size + 1 + 1, 0, none⟩ = false := by rw [hw0]; simp [go_sem]
  have f21 : w0.frozen? ⟨w.heap.size + 1 + 1, 1, none⟩ = false := by rw [hw0]; simp [go_sem]
  have f22 : w0.frozen? ⟨w.heap.size + 1 + 1, 2, none⟩ = false := by rw [hw0]; simp [go_sem]
  have F2 := Lib.hid (And.intro f20 (And.intro f21 f22))
  clear f20 f21 f22
  rw [← hw0]
  clear hw0
  refine (HA.out _ _ hv3.out).mono ?_
  rintro e wa ⟨rfl, ba⟩
  obtain ⟨k20, k21, k22⟩ := hv2.out.below ba
  have g20 := keepf ba hv2.out.1 F2.out.1
  have g21 := keepf ba hv2.out.2.1 F2.out.2.1
  have g22 := keepf ba hv2.out.2.2 F2.out.2.2
  have HB := Lib.hid (chain hb0.out ba)
  clear ba
  have HZ := Lib.hid (((HB.out.setCell (p := ⟨w.heap.size + 1 + 1, 0, none⟩) (by simp; omega) (.int .i64 0)).setCell (p := ⟨w.heap.size + 1 + 1, 1, none⟩) (by simp; omega) (.int .i64 0)).setCell (p := ⟨w.heap.size + 1 + 1, 2, none⟩) (by simp; omega) (.int .i64 0))
  go_wp2
  exact bodyPost_ret (v := .tuple #[vv 0 0 0, .int .i64 2]) (by simp [results, Try.results17, go_sem, k20, k21, k22]) rfl ⟨rfl, HZ.out⟩

set_option maxRecDepth 100000 in
set_option maxHeartbeats 4000000 in
theorem Sub_bad (x1 x2 x3 y1 y2 y3 : Int) (h : inL 16777216 [(x1, x2, x3), (y1, y2, y3)] = false) (w : World) :
    Calls Try.prog 18 #[vv x1 x2 x3, vv y1 y2 y3] w (Ret (.tuple #[vv 0 0 0, .int .i64 2]) w) := by
  have HA := Lib.hid (fun v w h => allValid_any [(x1, x2, x3), (y1, y2, y3)] v w h)
  rw [h] at HA
  clear h
  go_enter Try.func18, Try.ntmps18
  go_wp2_with fail
  obtain ⟨w0, hw0⟩ : ∃ w0 : World, w0 = (((w.alloc (.cells #[.int .i64 x1, .int .i64 x2, .int .i64 x3] 23)).alloc (.cells #[.int .i64 y1, .int .i64 y2, .int .i64 y3] 23)).alloc (.cells #[.int .i64 0, .int .i64 0, .int .i64 0] 23)).alloc (.cells #[.int .i64 x1, .int .i64 x2, .int .i64 x3, .int .i64 y1, .int .i64 y2, .int .i64 y3] 23) := ⟨_, rfl⟩
  have hb0 : Hid (Below w.heap.size w w0) := by rw [hw0]; exact (((below_one w _).alloc (by simp) _).alloc (by simp; omega) _).alloc (by simp; omega) _
  have hv0 : Hid (V3 w0 w.heap.size x1 x2 x3) := by rw [hw0]; exact ⟨by simp [go_sem], by simp [go_sem], by simp [go_sem]⟩
  have hv1 : Hid (V3 w0 (w.heap.size + 1) y1 y2 y3) := by rw [hw0]; exact ⟨by simp [go_sem], by simp [go_sem], by simp [go_sem]⟩
  have hv2 : Hid (V3 w0 (w.heap.size + 1 + 1) 0 0 0) := by rw [hw0]; exact ⟨by simp [go_sem], by simp [go_sem], by simp [go_sem]⟩
  have hv3 : Hid (Rv w0 (.slice (some ⟨w.heap.size + 1 + 1 + 1, 0, none⟩) 2 2) [(x1, x2, x3), (y1, y2, y3)]) := by rw [hw0]; exact rv2 (by simp [go_sem])
  have f20 : w0.frozen? ⟨w.heap.size + 1 + 1, 0, none⟩ = false := by rw [hw0]; simp [go_sem]
  have f21 : w0.frozen? ⟨w.heap.size + 1 + 1, 1, none⟩ = false := by rw [hw0]; simp [go_sem]
  have f22 : w0.frozen? ⟨w.heap.size + 1 + 1, 2, none⟩ = false := by rw [hw0]; simp [go_sem]
  have F2 := Lib.hid (And.intro f20 (And.intro f21 f22))
  clear f20 f21 f22
  rw [← hw0]
  clear hw0
  refine (HA.out _ _ hv3.out).mono ?_
  rintro e wa ⟨rfl, ba⟩
  obtain ⟨k20, k21, k22⟩ := hv2.out.below ba
  have g20 := keepf ba hv2.out.1 F2.out.1
  have g21 := keepf ba hv2.out.2.1 F2.out.2.1
  have g22 := keepf ba hv2.out.2.2 F2.out.2.2
  have HB := Lib.hid (chain hb0.out ba)
  clear ba
  have HZ := Lib.hid (((HB.out.setCell (p := ⟨w.heap.size + 1 + 1, 0, none⟩) (by simp; omega) (.int .i64 0)).setCell (p := ⟨w.heap.size + 1 + 1, 1, none⟩) (by simp; omega) (.int .i64 0)).setCell (p := ⟨w.heap.size + 1 + 1, 2, none⟩) (by simp; omega) (.int .i64 0))
  go_wp2
  exact bodyPost_ret (v := .tuple #[vv 0 0 0, .int .i64 2]) (by simp [results, Try.results18, go_sem, k20, k21, k22]) rfl ⟨rfl, HZ.out⟩

set_option maxRecDepth 100000 in
set_option maxHeartbeats 4000000 in
theorem Cross_bad (x1 x2 x3 y1 y2 y3 : Int) (h : inL 16777216 [(x1, x2, x3), (y1, y2, y3)] = false) (w : World) :
    Calls Try.prog 25 #[vv x1 x2 x3, vv y1 y2 y3] w (Ret (.tuple #[vv 0 0 0, .int .i64 2]) w) := by
  have HA := Lib.hid (fun v w h => allValid_any [(x1, x2, x3), (y1, y2, y3)] v w h)
  rw [h] at HA
  clear h
  go_enter Try.func25, Try.ntmps25
  go_wp2_with fail
  obtain ⟨w0, hw0⟩ : ∃ w0 : World, w0 = (((w.alloc (.cells #[.int .i64 x1, .int .i64 x2, .int .i64 x3] 23)).alloc (.cells #[.int .i64 y1, .int .i64 y2, .int .i64 y3] 23)).alloc (.cells #[.int .i64 0, .int .i64 0, .int .i64 0] 23)).alloc (.cells #[.int .i64 x1, .int .i64 x2, .int .i64 x3, .int .i64 y1, .int .i64 y2, .int .i64 y3] 23) := ⟨_, rfl⟩
  have hb0 : Hid (Below w.heap.size w w0) := by rw [hw0]; exact (((below_one w _).alloc (by simp) _).alloc (by simp; omega) _).alloc (by simp; omega) _
  have hv0 : Hid (V3 w0 w.heap.size x1 x2 x3) := by rw [hw0]; exact ⟨by simp [go_sem], by simp [go_sem], by simp [go_sem]⟩
  have hv1 : Hid (V3 w0 (w.heap.size + 1) y1 y2 y3) := by rw [hw0]; exact ⟨by simp [go_sem], by simp [go_sem], by simp [go_sem]⟩
  have hv2 : Hid (V3 w0 (w.heap.size + 1 + 1) 0 0 0) := by rw [hw0]; exact ⟨by simp [go_sem], by simp [go_sem], by simp [go_sem]⟩
  have hv3 : Hid (Rv w0 (.slice (some ⟨w.heap.size + 1 + 1 + 1, 0, none⟩) 2 2) [(x1, x2, x3), (y1, y2, y3)]) := by rw [hw0]; exact rv2 (by simp [go_sem])
  have f20 : w0.frozen? ⟨w.heap.size + 1 + 1, 0, none⟩ = false := by rw [hw0]; simp [go_sem]
  have f21 : w0.frozen? ⟨w.heap.size + 1 + 1, 1, none⟩ = false := by rw [hw0]; simp [go_sem]
  have f22 : w0.frozen? ⟨w.heap.size + 1 + 1, 2, none⟩ = false := by rw [hw0]; simp [go_sem]
  have F2 := Lib.hid (And.intro f20 (And.intro f21 f22))
  clear f20 f21 f22
  rw [← hw0]
  clear hw0
  refine (HA.out _ _ hv3.out).mono ?_
  rintro e wa ⟨rfl, ba⟩
  obtain ⟨k20, k21, k22⟩ := hv2.out.below ba
  have g20 := keepf ba hv2.out.1 F2.out.1
  have g21 := keepf ba hv2.out.2.1 F2.out.2.1
  have g22 := keepf ba hv2.out.2.2 F2.out.2.2
  have HB := Lib.hid (chain hb0.out ba)
  clear ba
  have HZ := Lib.hid (((HB.out.setCell (p := ⟨w.heap.size + 1 + 1, 0, none⟩) (by simp; omega) (.int .i64 0)).setCell (p := ⟨w.heap.size + 1 + 1, 1, none⟩) (by simp; omega) (.int .i64 0)).setCell (p := ⟨w.heap.size + 1 + 1, 2, none⟩) (by simp; omega) (.int .i64 0))
  go_wp2
  exact bodyPost_ret (v := .tuple #[vv 0 0 0, .int .i64 2]) (by simp [results, Try.results25, go_sem, k20, k21, k22]) rfl ⟨rfl, HZ.out⟩

set_option maxRecDepth 100000 in
set_option maxHeartbeats 4000000 in
theorem Dot_bad (x1 x2 x3 y1 y2 y3 : Int) (h : inL 16777216 [(x1, x2, x3), (y1, y2, y3)] = false) (w : World) :
    Calls Try.prog 24 #[vv x1 x2 x3, vv y1 y2 y3] w (Ret (.tuple #[.int .i64 0, .int .i64 2]) w) := by
  have HA := Lib.hid (fun v w h => allValid_any [(x1, x2, x3), (y1, y2, y3)] v w h)
  rw [h] at HA
  clear h
  go_enter Try.func24, Try.ntmps24
  go_wp2_with fail
  obtain ⟨w0, hw0⟩ : ∃ w0 : World, w0 = ((w.alloc (.cells #[.int .i64 x1, .int .i64 x2, .int .i64 x3] 23)).alloc (.cells #[.int .i64 y1, .int .i64 y2, .int .i64 y3] 23)).alloc (.cells #[.int .i64 x1, .int .i64 x2, .int .i64 x3, .int .i64 y1, .int .i64 y2, .int .i64 y3] 23) := ⟨_, rfl⟩
  have hb0 : Hid (Below w.heap.size w w0) := by rw [hw0]; exact ((below_one w _).alloc (by simp) _).alloc (by simp; omega) _
  have hv0 : Hid (V3 w0 w.heap.size x1 x2 x3) := by rw [hw0]; exact ⟨by simp [go_sem], by simp [go_sem], by simp [go_sem]⟩
  have hv1 : Hid (V3 w0 (w.heap.size + 1) y1 y2 y3) := by rw [hw0]; exact ⟨by simp [go_sem], by simp [go_sem], by simp [go_sem]⟩
  have hv2 : Hid (Rv w0 (.slice (some ⟨w.heap.size + 1 + 1, 0, none⟩) 2 2) [(x1, x2, x3), (y1, y2, y3)]) := by rw [hw0]; exact rv2 (by simp [go_sem])
  rw [← hw0]
  clear hw0
  refine (HA.out _ _ hv2.out).mono ?_
  rintro e wa ⟨rfl, ba⟩
  have HB := Lib.hid (chain hb0.out ba)
  clear ba
  go_wp2
  go_ret2
  exact ⟨rfl, HB.out⟩

set_option maxRecDepth 100000 in
set_option maxHeartbeats 4000000 in
theorem Distance2_bad (x1 x2 x3 y1 y2 y3 : Int) (h : inL 16777216 [(x1, x2, x3), (y1, y2, y3)] = false) (w : World) :
    Calls Try.prog 27 #[vv x1 x2 x3, vv y1 y2 y3] w (Ret (.tuple #[.int .i64 0, .int .i64 2]) w) := by
  have HA := Lib.hid (fun v w h => allValid_any [(x1, x2, x3), (y1, y2, y3)] v w h)
  rw [h] at HA
  clear h
  go_enter Try.func27, Try.ntmps27
  go_wp2_with fail
  obtain ⟨w0, hw0⟩ : ∃ w0 : World, w0 = ((w.alloc (.cells #[.int .i64 x1, .int .i64 x2, .int .i64 x3] 23)).alloc (.cells #[.int .i64 y1, .int .i64 y2, .int .i64 y3] 23)).alloc (.cells #[.int .i64 x1, .int .i64 x2, .int .i64 x3, .int .i64 y1, .int .i64 y2, .int .i64 y3] 23) := ⟨_, rfl⟩
  have hb0 : Hid (Below w.heap.size w w0) := by rw [hw0]; exact ((below_one w _).alloc (by simp) _).alloc (by simp; omega) _
  have hv0 : Hid (V3 w0 w.heap.size x1 x2 x3) := by rw [hw0]; exact ⟨by simp [go_sem], by simp [go_sem], by simp [go_sem]⟩
  have hv1 : Hid (V3 w0 (w.heap.size + 1) y1 y2 y3) := by rw [hw0]; exact ⟨by simp [go_sem], by simp [go_sem], by simp [go_sem]⟩
  have hv2 : Hid (Rv w0 (.slice (some ⟨w.heap.size + 1 + 1, 0, none⟩) 2 2) [(x1, x2, x3), (y1, y2, y3)]) := by rw [hw0]; exact rv2 (by simp [go_sem])
  rw [← hw0]
  clear hw0
  refine (HA.out _ _ hv2.out).mono ?_
  rintro e wa ⟨rfl, ba⟩
  have HB := Lib.hid (chain hb0.out ba)
  clear ba
  go_wp2
  go_ret2
  exact ⟨rfl, HB.out⟩

set_option maxRecDepth 100000 in
set_option maxHeartbeats 4000000 in
theorem Add_way (x1 x2 x3 y1 y2 y3 r1 r2 r3 o1 o2 o3 er : Int) (h : inL 16777216 [(x1, x2, x3), (y1, y2, y3)] = true) (H1 : ∀ w, Calls Try.prog 45 #[vv x1 x2 x3, vv y1 y2 y3, .func (.func 46) #[] #[]] w (Ret (vv r1 r2 r3) w)) (H2 : ∀ w, Calls Try.prog 44 #[vv r1 r2 r3] w (Ret (.tuple #[vv o1 o2 o3, .int .i64 er]) w)) (w : World) :
    Calls Try.prog 17 #[vv x1 x2 x3, vv y1 y2 y3] w (Ret (.tuple #[vv o1 o2 o3, .int .i64 er]) w) := by
  have HA := Lib.hid (fun v w h => allValid_any [(x1, x2, x3), (y1, y2, y3)] v w h)
  rw [h] at HA
  have H1 := Lib.hid H1
  have H2 := Lib.hid H2
  clear h
  go_enter Try.func17, Try.ntmps17
  go_wp2_with fail
  obtain ⟨w0, hw0⟩ : ∃ w0 : World, w0 = (((w.alloc (.cells #[.int .i64 x1, .int .i64 x2, .int .i64 x3] 23)).alloc (.cells #[.int .i64 y1, .int .i64 y2, .int .i64 y3] 23)).alloc (.cells #[.int .i64 0, .int .i64 0, .int .i64 0] 23)).alloc (.cells #[.int .i64 x1, .int .i64 x2, .int .i64 x3, .int .i64 y1, .int .i64 y2, .int .i64 y3] 23) := ⟨_, rfl⟩
  have hb0 : Hid (Below w.heap.size w w0) := by rw [hw0]; exact (((below_one w _).alloc (by simp) _).alloc (by simp; omega) _).alloc (by simp; omega) _
  have hv0 : Hid (V3 w0 w.heap.size x1 x2 x3) := by rw [hw0]; exact ⟨by simp [go_sem], by simp [go_sem], by simp [go_sem]⟩
  have hv1 : Hid (V3 w0 (w.heap.size + 1) y1 y2 y3) := by rw [hw0]; exact ⟨by simp [go_sem], by simp [go_sem], by simp [go_sem]⟩
  have hv2 : Hid (V3 w0 (w.heap.size + 1 + 1) 0 0 0) := by rw [hw0]; exact ⟨by simp [go_sem], by simp [go_sem], by simp [go_sem]⟩
  have hv3 : Hid (Rv w0 (.slice (some ⟨w.heap.size + 1 + 1 + 1, 0, none⟩) 2 2) [(x1, x2, x3), (y1, y2, y3)]) := by rw [hw0]; exact rv2 (by simp [go_sem])
  have f20 : w0.frozen? ⟨w.heap.size + 1 + 1, 0, none⟩ = false := by rw [hw0]; simp [go_sem]
  have f21 : w0.frozen? ⟨w.heap.size + 1 + 1, 1, none⟩ = false := by rw [hw0]; simp [go_sem]
  have f22 : w0.frozen? ⟨w.heap.size + 1 + 1, 2, none⟩ = false := by rw [hw0]; simp [go_sem]
  have F2 := Lib.hid (And.intro f20 (And.intro f21 f22))
  clear f20 f21 f22
  rw [← hw0]
  clear hw0
  refine (HA.out _ _ hv3.out).mono ?_
  rintro e wa ⟨rfl, ba⟩
  have C0 := Lib.hid ba
  clear ba
  obtain ⟨k00, k01, k02⟩ := hv0.out.below C0.out
  obtain ⟨k10, k11, k12⟩ := hv1.out.below C0.out
  go_wp2_with fail
  refine (H1.out _).mono ?_
  rintro e wb0 ⟨rfl, bb⟩
  have C1 := Lib.hid (chain C0.out bb)
  clear bb
  clear k00 k01 k02 k10 k11 k12
  obtain ⟨k00, k01, k02⟩ := hv0.out.below C1.out
  obtain ⟨k10, k11, k12⟩ := hv1.out.below C1.out
  go_wp2_with fail
  refine (H2.out _).mono ?_
  rintro e wb1 ⟨rfl, bb⟩
  have C2 := Lib.hid (chain C1.out bb)
  clear bb
  clear k00 k01 k02 k10 k11 k12
  have HB := Lib.hid (chain hb0.out C2.out)
  obtain ⟨k20, k21, k22⟩ := hv2.out.below C2.out
  have g20 := keepf C2.out hv2.out.1 F2.out.1
  have g21 := keepf C2.out hv2.out.2.1 F2.out.2.1
  have g22 := keepf C2.out hv2.out.2.2 F2.out.2.2
  have HZ := Lib.hid (((HB.out.setCell (p := ⟨w.heap.size + 1 + 1, 0, none⟩) (by simp; omega) (.int .i64 o1)).setCell (p := ⟨w.heap.size + 1 + 1, 1, none⟩) (by simp; omega) (.int .i64 o2)).setCell (p := ⟨w.heap.size + 1 + 1, 2, none⟩) (by simp; omega) (.int .i64 o3))
  go_wp2
  exact bodyPost_ret (v := .tuple #[vv o1 o2 o3, .int .i64 er]) (by simp [results, Try.results17, go_sem, k20, k21, k22]) rfl ⟨rfl, HZ.out⟩

set_option maxRecDepth 100000 in
set_option maxHeartbeats 4000000 in
theorem Sub_way (x1 x2 x3 y1 y2 y3 r1 r2 r3 o1 o2 o3 er : Int) (h : inL 16777216 [(x1, x2, x3), (y1, y2, y3)] = true) (H1 : ∀ w, Calls Try.prog 47 #[vv x1 x2 x3, vv y1 y2 y3] w (Ret (vv r1 r2 r3) w)) (H2 : ∀ w, Calls Try.prog 44 #[vv r1 r2 r3] w (Ret (.tuple #[vv o1 o2 o3, .int .i64 er]) w)) (w : World) :
    Calls Try.prog 18 #[vv x1 x2 x3, vv y1 y2 y3] w (Ret (.tuple #[vv o1 o2 o3, .int .i64 er]) w) := by
  have HA := Lib.hid (fun v w h => allValid_any [(x1, x2, x3), (y1, y2, y3)] v w h)
  rw [h] at HA
  have H1 := Lib.hid H1
  have H2 := Lib.hid H2
  clear h
  go_enter Try.func18, Try.ntmps18
  go_wp2_with fail
  obtain ⟨w0, hw0⟩ : ∃ w0 : World, w0 = (((w.alloc (.cells #[.int .i64 x1, .int .i64 x2, .int .i64 x3] 23)).alloc (.cells #[.int .i64 y1, .int .i64 y2, .int .i64 y3] 23)).alloc (.cells #[.int .i64 0, .int .i64 0, .int .i64 0] 23)).alloc (.cells #[.int .i64 x1, .int .i64 x2, .int .i64 x3, .int .i64 y1, .int .i64 y2, .int .i64 y3] 23) := ⟨_, rfl⟩
  have hb0 : Hid (Below w.heap.size w w0) := by rw [hw0]; exact (((below_one w _).alloc (by simp) _).alloc (by simp; omega) _).alloc (by simp; omega) _
  have hv0 : Hid (V3 w0 w.heap.size x1 x2 x3) := by rw [hw0]; exact ⟨by simp [go_sem], by simp [go_sem], by simp [go_sem]⟩
  have hv1 : Hid (V3 w0 (w.heap.size + 1) y1 y2 y3) := by rw [hw0]; exact ⟨by simp [go_sem], by simp [go_sem], by simp [go_sem]⟩
  have hv2 : Hid (V3 w0 (w.heap.size + 1 + 1) 0 0 0) := by rw [hw0]; exact ⟨by simp [go_sem], by simp [go_sem], by simp [go_sem]⟩
  have hv3 : Hid (Rv w0 (.slice (some ⟨w.heap.size + 1 + 1 + 1, 0, none⟩) 2 2) [(x1, x2, x3), (y1, y2, y3)]) := by rw [hw0]; exact rv2 (by simp [go_sem])
  have f20 : w0.frozen? ⟨w.heap.size + 1 + 1, 0, none⟩ = false := by rw [hw0]; simp [go_sem]
  have f21 : w0.frozen? ⟨w.heap.size + 1 + 1, 1, none⟩ = false := by rw [hw0]; simp [go_sem]
  have f22 : w0.frozen? ⟨w.heap.size + 1 + 1, 2, none⟩ = false := by rw [hw0]; simp [go_sem]
  have F2 := Lib.hid (And.intro f20 (And.intro f21 f22))
  clear f20 f21 f22
  rw [← hw0]
  clear hw0
  refine (HA.out _ _ hv3.out).mono ?_
  rintro e wa ⟨rfl, ba⟩
  have C0 := Lib.hid ba
  clear ba
  obtain ⟨k00, k01, k02⟩ := hv0.out.below C0.out
  obtain ⟨k10, k11, k12⟩ := hv1.out.below C0.out
  go_wp2_with fail
  refine (H1.out _).mono ?_
  rintro e wb0 ⟨rfl, bb⟩
  have C1 := Lib.hid (chain C0.out bb)
  clear bb
  clear k00 k01 k02 k10 k11 k12
  obtain ⟨k00, k01, k02⟩ := hv0.out.below C1.out
  obtain ⟨k10, k11, k12⟩ := hv1.out.below C1.out
  go_wp2_with fail
  refine (H2.out _).mono ?_
  rintro e wb1 ⟨rfl, bb⟩
  have C2 := Lib.hid (chain C1.out bb)
  clear bb
  clear k00 k01 k02 k10 k11 k12
  have HB := Lib.hid (chain hb0.out C2.out)
  obtain ⟨k20, k21, k22⟩ := hv2.out.below C2.out
  have g20 := keepf C2.out hv2.out.1 F2.out.1
  have g21 := keepf C2.out hv2.out.2.1 F2.out.2.1
  have g22 := keepf C2.out hv2.out.2.2 F2.out.2.2
  have HZ := Lib.hid (((HB.out.setCell (p := ⟨w.heap.size + 1 + 1, 0, none⟩) (by simp; omega) (.int .i64 o1)).setCell (p := ⟨w.heap.size + 1 + 1, 1, none⟩) (by simp; omega) (.int .i64 o2)).setCell (p := ⟨w.heap.size + 1 + 1, 2, none⟩) (by simp; omega) (.int .i64 o3))
  go_wp2
  exact bodyPost_ret (v := .tuple #[vv o1 o2 o3, .int .i64 er]) (by simp [results, Try.results18, go_sem, k20, k21, k22]) rfl ⟨rfl, HZ.out⟩

set_option maxRecDepth 100000 in
set_option maxHeartbeats 4000000 in
theorem Cross_way (x1 x2 x3 y1 y2 y3 r1 r2 r3 : Int) (h : inL 16777216 [(x1, x2, x3), (y1, y2, y3)] = true) (H1 : ∀ w, Calls Try.prog 51 #[vv x1 x2 x3, vv y1 y2 y3] w (Ret (vv r1 r2 r3) w)) (w : World) :
    Calls Try.prog 25 #[vv x1 x2 x3, vv y1 y2 y3] w (Ret (.tuple #[vv r1 r2 r3, .int .i64 0]) w) := by
  have HA := Lib.hid (fun v w h => allValid_any [(x1, x2, x3), (y1, y2, y3)] v w h)
  rw [h] at HA
  have H1 := Lib.hid H1
  clear h
  go_enter Try.func25, Try.ntmps25
  go_wp2_with fail
  obtain ⟨w0, hw0⟩ : ∃ w0 : World, w0 = (((w.alloc (.cells #[.int .i64 x1, .int .i64 x2, .int .i64 x3] 23)).alloc (.cells #[.int .i64 y1, .int .i64 y2, .int .i64 y3] 23)).alloc (.cells #[.int .i64 0, .int .i64 0, .int .i64 0] 23)).alloc (.cells #[.int .i64 x1, .int .i64 x2, .int .i64 x3, .int .i64 y1, .int .i64 y2, .int .i64 y3] 23) := ⟨_, rfl⟩
  have hb0 : Hid (Below w.heap.size w w0) := by rw [hw0]; exact (((below_one w _).alloc (by simp) _).alloc (by simp; omega) _).alloc (by simp; omega) _
  have hv0 : Hid (V3 w0 w.heap.size x1 x2 x3) := by rw [hw0]; exact ⟨by simp [go_sem], by simp [go_sem], by simp [go_sem]⟩
  have hv1 : Hid (V3 w0 (w.heap.size + 1) y1 y2 y3) := by rw [hw0]; exact ⟨by simp [go_sem], by simp [go_sem], by simp [go_sem]⟩
  have hv2 : Hid (V3 w0 (w.heap.size + 1 + 1) 0 0 0) := by rw [hw0]; exact ⟨by simp [go_sem], by simp [go_sem], by simp [go_sem]⟩
  have hv3 : Hid (Rv w0 (.slice (some ⟨w.heap.size + 1 + 1 + 1, 0, none⟩) 2 2) [(x1, x2, x3), (y1, y2, y3)]) := by rw [hw0]; exact rv2 (by simp [go_sem])
  have f20 : w0.frozen? ⟨w.heap.size + 1 + 1, 0, none⟩ = false := by rw [hw0]; simp [go_sem]
  have f21 : w0.frozen? ⟨w.heap.size + 1 + 1, 1, none⟩ = false := by rw [hw0]; simp [go_sem]
  have f22 : w0.frozen? ⟨w.heap.size + 1 + 1, 2, none⟩ = false := by rw [hw0]; simp [go_sem]
  have F2 := Lib.hid (And.intro f20 (And.intro f21 f22))
  clear f20 f21 f22
  rw [← hw0]
  clear hw0
  refine (HA.out _ _ hv3.out).mono ?_
  rintro e wa ⟨rfl, ba⟩
  have C0 := Lib.hid ba
  clear ba
  obtain ⟨k00, k01, k02⟩ := hv0.out.below C0.out
  obtain ⟨k10, k11, k12⟩ := hv1.out.below C0.out
  go_wp2_with fail
  refine (H1.out _).mono ?_
  rintro e wb0 ⟨rfl, bb⟩
  have C1 := Lib.hid (chain C0.out bb)
  clear bb
  clear k00 k01 k02 k10 k11 k12
  have HB := Lib.hid (chain hb0.out C1.out)
  obtain ⟨k20, k21, k22⟩ := hv2.out.below C1.out
  have g20 := keepf C1.out hv2.out.1 F2.out.1
  have g21 := keepf C1.out hv2.out.2.1 F2.out.2.1
  have g22 := keepf C1.out hv2.out.2.2 F2.out.2.2
  have HZ := Lib.hid (((HB.out.setCell (p := ⟨w.heap.size + 1 + 1, 0, none⟩) (by simp; omega) (.int .i64 r1)).setCell (p := ⟨w.heap.size + 1 + 1, 1, none⟩) (by simp; omega) (.int .i64 r2)).setCell (p := ⟨w.heap.size + 1 + 1, 2, none⟩) (by simp; omega) (.int .i64 r3))
  go_wp2
  exact bodyPost_ret (v := .tuple #[vv r1 r2 r3, .int .i64 0]) (by simp [results, Try.results25, go_sem, k20, k21, k22]) rfl ⟨rfl, HZ.out⟩

set_option maxRecDepth 100000 in
set_option maxHeartbeats 4000000 in
theorem Dot_way (x1 x2 x3 y1 y2 y3 r : Int) (h : inL 16777216 [(x1, x2, x3), (y1, y2, y3)] = true) (H1 : ∀ w, Calls Try.prog 50 #[vv x1 x2 x3, vv y1 y2 y3] w (Ret (.int .i64 r) w)) (w : World) :
    Calls Try.prog 24 #[vv x1 x2 x3, vv y1 y2 y3] w (Ret (.tuple #[.int .i64 r, .int .i64 0]) w) := by
  have HA := Lib.hid (fun v w h => allValid_any [(x1, x2, x3), (y1, y2, y3)] v w h)
  rw [h] at HA
  have H1 := Lib.hid H1
  clear h
  go_enter Try.func24, Try.ntmps24
  go_wp2_with fail
  obtain ⟨w0, hw0⟩ : ∃ w0 : World, w0 = ((w.alloc (.cells #[.int .i64 x1, .int .i64 x2, .int .i64 x3] 23)).alloc (.cells #[.int .i64 y1, .int .i64 y2, .int .i64 y3] 23)).alloc (.cells #[.int .i64 x1, .int .i64 x2, .int .i64 x3, .int .i64 y1, .int .i64 y2, .int .i64 y3] 23) := ⟨_, rfl⟩
  have hb0 : Hid (Below w.heap.size w w0) := by rw [hw0]; exact ((below_one w _).alloc (by simp) _).alloc (by simp; omega) _
  have hv0 : Hid (V3 w0 w.heap.size x1 x2 x3) := by rw [hw0]; exact ⟨by simp [go_sem], by simp [go_sem], by simp [go_sem]⟩
  have hv1 : Hid (V3 w0 (w.heap.size + 1) y1 y2 y3) := by rw [hw0]; exact ⟨by simp [go_sem], by simp [go_sem], by simp [go_sem]⟩
  have hv2 : Hid (Rv w0 (.slice (some ⟨w.heap.size + 1 + 1, 0, none⟩) 2 2) [(x1, x2, x3), (y1, y2, y3)]) := by rw [hw0]; exact rv2 (by simp [go_sem])
  rw [← hw0]
  clear hw0
  refine (HA.out _ _ hv2.out).mono ?_
  rintro e wa ⟨rfl, ba⟩
  have C0 := Lib.hid ba
  clear ba
  obtain ⟨k00, k01, k02⟩ := hv0.out.below C0.out
  obtain ⟨k10, k11, k12⟩ := hv1.out.below C0.out
  go_wp2_with fail
  refine (H1.out _).mono ?_
  rintro e wb0 ⟨rfl, bb⟩
  have C1 := Lib.hid (chain C0.out bb)
  clear bb
  clear k00 k01 k02 k10 k11 k12
  have HB := Lib.hid (chain hb0.out C1.out)
  go_wp2
  go_ret2
  exact ⟨rfl, HB.out⟩

set_option maxRecDepth 100000 in
set_option maxHeartbeats 4000000 in
theorem Distance2_way (x1 x2 x3 y1 y2 y3 r1 r2 r3 r : Int) (h : inL 16777216 [(x1, x2, x3), (y1, y2, y3)] = true) (H1 : ∀ w, Calls Try.prog 47 #[vv x1 x2 x3, vv y1 y2 y3] w (Ret (vv r1 r2 r3) w)) (H2 : ∀ w, Calls Try.prog 50 #[vv r1 r2 r3, vv r1 r2 r3] w (Ret (.int .i64 r) w)) (w : World) :
    Calls Try.prog 27 #[vv x1 x2 x3, vv y1 y2 y3] w (Ret (.tuple #[.int .i64 r, .int .i64 0]) w) := by
  have HA := Lib.hid (fun v w h => allValid_any [(x1, x2, x3), (y1, y2, y3)] v w h)
  rw [h] at HA
  have H1 := Lib.hid H1
  have H2 := Lib.hid H2
  clear h
  go_enter Try.func27, Try.ntmps27
  go_wp2_with fail
  obtain ⟨w0, hw0⟩ : ∃ w0 : World, w0 = ((w.alloc (.cells #[.int .i64 x1, .int .i64 x2, .int .i64 x3] 23)).alloc (.cells #[.int .i64 y1, .int .i64 y2, .int .i64 y3] 23)).alloc (.cells #[.int .i64 x1, .int .i64 x2, .int .i64 x3, .int .i64 y1, .int .i64 y2, .int .i64 y3] 23) := ⟨_, rfl⟩
  have hb0 : Hid (Below w.heap.size w w0) := by rw [hw0]; exact ((below_one w _).alloc (by simp) _).alloc (by simp; omega) _
  have hv0 : Hid (V3 w0 w.heap.size x1 x2 x3) := by rw [hw0]; exact ⟨by simp [go_sem], by simp [go_sem], by simp [go_sem]⟩
  have hv1 : Hid (V3 w0 (w.heap.size + 1) y1 y2 y3) := by rw [hw0]; exact ⟨by simp [go_sem], by simp [go_sem], by simp [go_sem]⟩
  have hv2 : Hid (Rv w0 (.slice (some ⟨w.heap.size + 1 + 1, 0, none⟩) 2 2) [(x1, x2, x3), (y1, y2, y3)]) := by rw [hw0]; exact rv2 (by simp [go_sem])
  rw [← hw0]
  clear hw0
  refine (HA.out _ _ hv2.out).mono ?_
  rintro e wa ⟨rfl, ba⟩
  have C0 := Lib.hid ba
  clear ba
  obtain ⟨k00, k01, k02⟩ := hv0.out.below C0.out
  obtain ⟨k10, k11, k12⟩ := hv1.out.below C0.out
  go_wp2_with fail
  refine (H1.out _).mono ?_
  rintro e wb0 ⟨rfl, bb⟩
  have C1 := Lib.hid (chain C0.out bb)
  clear bb
  clear k00 k01 k02 k10 k11 k12
  obtain ⟨k00, k01, k02⟩ := hv0.out.below C1.out
  obtain ⟨k10, k11, k12⟩ := hv1.out.below C1.out
  go_wp2_with fail
  refine (H2.out _).mono ?_
  rintro e wb1 ⟨rfl, bb⟩
  have C2 := Lib.hid (chain C1.out (chain (below_one _ _) bb))
  clear bb
  clear k00 k01 k02 k10 k11 k12
  have HB := Lib.hid (chain hb0.out C2.out)
  go_wp2
  go_ret2
  exact ⟨rfl, HB.out⟩
end Go.Proofs.Ytdicbeaocedkmaa
