/- vector.Between as a walk over what its calls give. -/
import Derived.Test.YtdicbeaocedkmaaVh
import Derived.Test.YtdicbeaocedkmaaVe
import Derived.Test.YtdicbeaocedkmaaVg
set_option linter.all false
namespace Go.Proofs.Ytdicbeaocedkmaa
open Go.RowKit

set_option maxRecDepth 100000 in
set_option maxHeartbeats 4000000 in
theorem Between_l (x1 x2 x3 y1 y2 y3 num den : Int) (h : inL 16777216 [(x1, x2, x3), (y1, y2, y3)] = false) (w : World) :
    Calls Try.prog 31 #[vv x1 x2 x3, vv y1 y2 y3, .int .i64 num, .int .i64 den] w (Ret (.tuple #[vv 0 0 0, .int .i64 2]) w) := by
  have HA := Lib.hid (fun v w h => allValid_any [(x1, x2, x3), (y1, y2, y3)] v w h)
  rw [h] at HA
  clear h
  go_enter Try.func31, Try.ntmps31
  go_wp2_with fail
  obtain ⟨w0, hw0⟩ : ∃ w0 : World, w0 = (((((w.alloc (.cells #[.int .i64 x1, .int .i64 x2, .int .i64 x3] 23)).alloc (.cells #[.int .i64 y1, .int .i64 y2, .int .i64 y3] 23)).alloc (.cells #[.int .i64 num] 3)).alloc (.cells #[.int .i64 den] 3)).alloc (.cells #[.int .i64 0, .int .i64 0, .int .i64 0] 23)).alloc (.cells #[.int .i64 x1, .int .i64 x2, .int .i64 x3, .int .i64 y1, .int .i64 y2, .int .i64 y3] 23) := ⟨_, rfl⟩
  have hb0 : Hid (Below w.heap.size w w0) := by rw [hw0]; exact (((((below_one w _).alloc (by simp) _).alloc (by simp; omega) _).alloc (by simp; omega) _).alloc (by simp; omega) _).alloc (by simp; omega) _
  have hv0 : Hid (V3 w0 w.heap.size x1 x2 x3) := by rw [hw0]; exact ⟨by simp [go_sem], by simp [go_sem], by simp [go_sem]⟩
  have hv1 : Hid (V3 w0 (w.heap.size + 1) y1 y2 y3) := by rw [hw0]; exact ⟨by simp [go_sem], by simp [go_sem], by simp [go_sem]⟩
  have hv2 : Hid (w0.cell? ⟨w.heap.size + 1 + 1, 0, none⟩ = some (.int .i64 num)) := by show _ = _; rw [hw0]; simp [go_sem]
  have hv3 : Hid (w0.cell? ⟨w.heap.size + 1 + 1 + 1, 0, none⟩ = some (.int .i64 den)) := by show _ = _; rw [hw0]; simp [go_sem]
  have hv4 : Hid (V3 w0 (w.heap.size + 1 + 1 + 1 + 1) 0 0 0) := by rw [hw0]; exact ⟨by simp [go_sem], by simp [go_sem], by simp [go_sem]⟩
  have hv5 : Hid (Rv w0 (.slice (some ⟨w.heap.size + 1 + 1 + 1 + 1 + 1, 0, none⟩) 2 2) [(x1, x2, x3), (y1, y2, y3)]) := by rw [hw0]; exact rv2 (by simp [go_sem])
  have f40 : w0.frozen? ⟨w.heap.size + 1 + 1 + 1 + 1, 0, none⟩ = false := by rw [hw0]; simp [go_sem]
  have f41 : w0.frozen? ⟨w.heap.size + 1 + 1 + 1 + 1, 1, none⟩ = false := by rw [hw0]; simp [go_sem]
  have f42 : w0.frozen? ⟨w.heap.size + 1 + 1 + 1 + 1, 2, none⟩ = false := by rw [hw0]; simp [go_sem]
  have F4 := Lib.hid (And.intro f40 (And.intro f41 f42))
  clear f40 f41 f42
  rw [← hw0]
  clear hw0
  refine (HA.out _ _ hv5.out).mono ?_
  rintro e wa ⟨rfl, ba⟩
  have C0 := Lib.hid ba
  clear ba
  have kn := keep1 C0.out hv2.out
  have kd := keep1 C0.out hv3.out
  obtain ⟨k40, k41, k42⟩ := hv4.out.below C0.out
  have g40 := keepf C0.out hv4.out.1 F4.out.1
  have g41 := keepf C0.out hv4.out.2.1 F4.out.2.1
  have g42 := keepf C0.out hv4.out.2.2 F4.out.2.2
  have HB := Lib.hid (chain hb0.out C0.out)
  have HZ := Lib.hid (((HB.out.setCell (p := ⟨w.heap.size + 1 + 1 + 1 + 1, 0, none⟩) (by simp; omega) (.int .i64 0)).setCell (p := ⟨w.heap.size + 1 + 1 + 1 + 1, 1, none⟩) (by simp; omega) (.int .i64 0)).setCell (p := ⟨w.heap.size + 1 + 1 + 1 + 1, 2, none⟩) (by simp; omega) (.int .i64 0))
  go_wp2
  exact bodyPost_ret (v := .tuple #[vv 0 0 0, .int .i64 2]) (by simp [results, Try.results31, go_sem, k40, k41, k42]) rfl ⟨rfl, HZ.out⟩

set_option maxRecDepth 100000 in
set_option maxHeartbeats 4000000 in
theorem Between_d0 (x1 x2 x3 y1 y2 y3 num den : Int) (h : inL 16777216 [(x1, x2, x3), (y1, y2, y3)] = true) (h1 : den < 1) (w : World) :
    Calls Try.prog 31 #[vv x1 x2 x3, vv y1 y2 y3, .int .i64 num, .int .i64 den] w (Ret (.tuple #[vv 0 0 0, .int .i64 2]) w) := by
  have HA := Lib.hid (fun v w h => allValid_any [(x1, x2, x3), (y1, y2, y3)] v w h)
  rw [h] at HA
  clear h
  go_enter Try.func31, Try.ntmps31
  go_wp2_with fail
  obtain ⟨w0, hw0⟩ : ∃ w0 : World, w0 = (((((w.alloc (.cells #[.int .i64 x1, .int .i64 x2, .int .i64 x3] 23)).alloc (.cells #[.int .i64 y1, .int .i64 y2, .int .i64 y3] 23)).alloc (.cells #[.int .i64 num] 3)).alloc (.cells #[.int .i64 den] 3)).alloc (.cells #[.int .i64 0, .int .i64 0, .int .i64 0] 23)).alloc (.cells #[.int .i64 x1, .int .i64 x2, .int .i64 x3, .int .i64 y1, .int .i64 y2, .int .i64 y3] 23) := ⟨_, rfl⟩
  have hb0 : Hid (Below w.heap.size w w0) := by rw [hw0]; exact (((((below_one w _).alloc (by simp) _).alloc (by simp; omega) _).alloc (by simp; omega) _).alloc (by simp; omega) _).alloc (by simp; omega) _
  have hv0 : Hid (V3 w0 w.heap.size x1 x2 x3) := by rw [hw0]; exact ⟨by simp [go_sem], by simp [go_sem], by simp [go_sem]⟩
  have hv1 : Hid (V3 w0 (w.heap.size + 1) y1 y2 y3) := by rw [hw0]; exact ⟨by simp [go_sem], by simp [go_sem], by simp [go_sem]⟩
  have hv2 : Hid (w0.cell? ⟨w.heap.size + 1 + 1, 0, none⟩ = some (.int .i64 num)) := by show _ = _; rw [hw0]; simp [go_sem]
  have hv3 : Hid (w0.cell? ⟨w.heap.size + 1 + 1 + 1, 0, none⟩ = some (.int .i64 den)) := by show _ = _; rw [hw0]; simp [go_sem]
  have hv4 : Hid (V3 w0 (w.heap.size + 1 + 1 + 1 + 1) 0 0 0) := by rw [hw0]; exact ⟨by simp [go_sem], by simp [go_sem], by simp [go_sem]⟩
  have hv5 : Hid (Rv w0 (.slice (some ⟨w.heap.size + 1 + 1 + 1 + 1 + 1, 0, none⟩) 2 2) [(x1, x2, x3), (y1, y2, y3)]) := by rw [hw0]; exact rv2 (by simp [go_sem])
  have f40 : w0.frozen? ⟨w.heap.size + 1 + 1 + 1 + 1, 0, none⟩ = false := by rw [hw0]; simp [go_sem]
  have f41 : w0.frozen? ⟨w.heap.size + 1 + 1 + 1 + 1, 1, none⟩ = false := by rw [hw0]; simp [go_sem]
  have f42 : w0.frozen? ⟨w.heap.size + 1 + 1 + 1 + 1, 2, none⟩ = false := by rw [hw0]; simp [go_sem]
  have F4 := Lib.hid (And.intro f40 (And.intro f41 f42))
  clear f40 f41 f42
  rw [← hw0]
  clear hw0
  refine (HA.out _ _ hv5.out).mono ?_
  rintro e wa ⟨rfl, ba⟩
  have C0 := Lib.hid ba
  clear ba
  have kn := keep1 C0.out hv2.out
  have kd := keep1 C0.out hv3.out
  obtain ⟨k40, k41, k42⟩ := hv4.out.below C0.out
  have g40 := keepf C0.out hv4.out.1 F4.out.1
  have g41 := keepf C0.out hv4.out.2.1 F4.out.2.1
  have g42 := keepf C0.out hv4.out.2.2 F4.out.2.2
  have HB := Lib.hid (chain hb0.out C0.out)
  have HZ := Lib.hid (((HB.out.setCell (p := ⟨w.heap.size + 1 + 1 + 1 + 1, 0, none⟩) (by simp; omega) (.int .i64 0)).setCell (p := ⟨w.heap.size + 1 + 1 + 1 + 1, 1, none⟩) (by simp; omega) (.int .i64 0)).setCell (p := ⟨w.heap.size + 1 + 1 + 1 + 1, 2, none⟩) (by simp; omega) (.int .i64 0))
  go_wp2
  exact bodyPost_ret (v := .tuple #[vv 0 0 0, .int .i64 2]) (by simp [results, Try.results31, go_sem, k40, k41, k42]) rfl ⟨rfl, HZ.out⟩

set_option maxRecDepth 100000 in
set_option maxHeartbeats 4000000 in
theorem Between_d1 (x1 x2 x3 y1 y2 y3 num den : Int) (h : inL 16777216 [(x1, x2, x3), (y1, y2, y3)] = true) (h1 : ¬ den < 1) (h2 : 4294967296 < den) (w : World) :
    Calls Try.prog 31 #[vv x1 x2 x3, vv y1 y2 y3, .int .i64 num, .int .i64 den] w (Ret (.tuple #[vv 0 0 0, .int .i64 2]) w) := by
  have HA := Lib.hid (fun v w h => allValid_any [(x1, x2, x3), (y1, y2, y3)] v w h)
  rw [h] at HA
  clear h
  go_enter Try.func31, Try.ntmps31
  go_wp2_with fail
  obtain ⟨w0, hw0⟩ : ∃ w0 : World, w0 = (((((w.alloc (.cells #[.int .i64 x1, .int .i64 x2, .int .i64 x3] 23)).alloc (.cells #[.int .i64 y1, .int .i64 y2, .int .i64 y3] 23)).alloc (.cells #[.int .i64 num] 3)).alloc (.cells #[.int .i64 den] 3)).alloc (.cells #[.int .i64 0, .int .i64 0, .int .i64 0] 23)).alloc (.cells #[.int .i64 x1, .int .i64 x2, .int .i64 x3, .int .i64 y1, .int .i64 y2, .int .i64 y3] 23) := ⟨_, rfl⟩
  have hb0 : Hid (Below w.heap.size w w0) := by rw [hw0]; exact (((((below_one w _).alloc (by simp) _).alloc (by simp; omega) _).alloc (by simp; omega) _).alloc (by simp; omega) _).alloc (by simp; omega) _
  have hv0 : Hid (V3 w0 w.heap.size x1 x2 x3) := by rw [hw0]; exact ⟨by simp [go_sem], by simp [go_sem], by simp [go_sem]⟩
  have hv1 : Hid (V3 w0 (w.heap.size + 1) y1 y2 y3) := by rw [hw0]; exact ⟨by simp [go_sem], by simp [go_sem], by simp [go_sem]⟩
  have hv2 : Hid (w0.cell? ⟨w.heap.size + 1 + 1, 0, none⟩ = some (.int .i64 num)) := by show _ = _; rw [hw0]; simp [go_sem]
  have hv3 : Hid (w0.cell? ⟨w.heap.size + 1 + 1 + 1, 0, none⟩ = some (.int .i64 den)) := by show _ = _; rw [hw0]; simp [go_sem]
  have hv4 : Hid (V3 w0 (w.heap.size + 1 + 1 + 1 + 1) 0 0 0) := by rw [hw0]; exact ⟨by simp [go_sem], by simp [go_sem], by simp [go_sem]⟩
  have hv5 : Hid (Rv w0 (.slice (some ⟨w.heap.size + 1 + 1 + 1 + 1 + 1, 0, none⟩) 2 2) [(x1, x2, x3), (y1, y2, y3)]) := by rw [hw0]; exact rv2 (by simp [go_sem])
  have f40 : w0.frozen? ⟨w.heap.size + 1 + 1 + 1 + 1, 0, none⟩ = false := by rw [hw0]; simp [go_sem]
  have f41 : w0.frozen? ⟨w.heap.size + 1 + 1 + 1 + 1, 1, none⟩ = false := by rw [hw0]; simp [go_sem]
  have f42 : w0.frozen? ⟨w.heap.size + 1 + 1 + 1 + 1, 2, none⟩ = false := by rw [hw0]; simp [go_sem]
  have F4 := Lib.hid (And.intro f40 (And.intro f41 f42))
  clear f40 f41 f42
  rw [← hw0]
  clear hw0
  refine (HA.out _ _ hv5.out).mono ?_
  rintro e wa ⟨rfl, ba⟩
  have C0 := Lib.hid ba
  clear ba
  have kn := keep1 C0.out hv2.out
  have kd := keep1 C0.out hv3.out
  obtain ⟨k40, k41, k42⟩ := hv4.out.below C0.out
  have g40 := keepf C0.out hv4.out.1 F4.out.1
  have g41 := keepf C0.out hv4.out.2.1 F4.out.2.1
  have g42 := keepf C0.out hv4.out.2.2 F4.out.2.2
  have HB := Lib.hid (chain hb0.out C0.out)
  have HZ := Lib.hid (((HB.out.setCell (p := ⟨w.heap.size + 1 + 1 + 1 + 1, 0, none⟩) (by simp; omega) (.int .i64 0)).setCell (p := ⟨w.heap.size + 1 + 1 + 1 + 1, 1, none⟩) (by simp; omega) (.int .i64 0)).setCell (p := ⟨w.heap.size + 1 + 1 + 1 + 1, 2, none⟩) (by simp; omega) (.int .i64 0))
  go_wp2
  exact bodyPost_ret (v := .tuple #[vv 0 0 0, .int .i64 2]) (by simp [results, Try.results31, go_sem, k40, k41, k42]) rfl ⟨rfl, HZ.out⟩

set_option maxRecDepth 100000 in
set_option maxHeartbeats 4000000 in
theorem Between_n0 (x1 x2 x3 y1 y2 y3 num den : Int) (h : inL 16777216 [(x1, x2, x3), (y1, y2, y3)] = true) (h1 : ¬ den < 1) (h2 : ¬ 4294967296 < den) (h3 : num < 0) (w : World) :
    Calls Try.prog 31 #[vv x1 x2 x3, vv y1 y2 y3, .int .i64 num, .int .i64 den] w (Ret (.tuple #[vv 0 0 0, .int .i64 2]) w) := by
  have HA := Lib.hid (fun v w h => allValid_any [(x1, x2, x3), (y1, y2, y3)] v w h)
  rw [h] at HA
  clear h
  go_enter Try.func31, Try.ntmps31
  go_wp2_with fail
  obtain ⟨w0, hw0⟩ : ∃ w0 : World, w0 = (((((w.alloc (.cells #[.int .i64 x1, .int .i64 x2, .int .i64 x3] 23)).alloc (.cells #[.int .i64 y1, .int .i64 y2, .int .i64 y3] 23)).alloc (.cells #[.int .i64 num] 3)).alloc (.cells #[.int .i64 den] 3)).alloc (.cells #[.int .i64 0, .int .i64 0, .int .i64 0] 23)).alloc (.cells #[.int .i64 x1, .int .i64 x2, .int .i64 x3, .int .i64 y1, .int .i64 y2, .int .i64 y3] 23) := ⟨_, rfl⟩
  have hb0 : Hid (Below w.heap.size w w0) := by rw [hw0]; exact (((((below_one w _).alloc (by simp) _).alloc (by simp; omega) _).alloc (by simp; omega) _).alloc (by simp; omega) _).alloc (by simp; omega) _
  have hv0 : Hid (V3 w0 w.heap.size x1 x2 x3) := by rw [hw0]; exact ⟨by simp [go_sem], by simp [go_sem], by simp [go_sem]⟩
  have hv1 : Hid (V3 w0 (w.heap.size + 1) y1 y2 y3) := by rw [hw0]; exact ⟨by simp [go_sem], by simp [go_sem], by simp [go_sem]⟩
  have hv2 : Hid (w0.cell? ⟨w.heap.size + 1 + 1, 0, none⟩ = some (.int .i64 num)) := by show _ = _; rw [hw0]; simp [go_sem]
  have hv3 : Hid (w0.cell? ⟨w.heap.size + 1 + 1 + 1, 0, none⟩ = some (.int .i64 den)) := by show _ = _; rw [hw0]; simp [go_sem]
  have hv4 : Hid (V3 w0 (w.heap.size + 1 + 1 + 1 + 1) 0 0 0) := by rw [hw0]; exact ⟨by simp [go_sem], by simp [go_sem], by simp [go_sem]⟩
  have hv5 : Hid (Rv w0 (.slice (some ⟨w.heap.size + 1 + 1 + 1 + 1 + 1, 0, none⟩) 2 2) [(x1, x2, x3), (y1, y2, y3)]) := by rw [hw0]; exact rv2 (by simp [go_sem])
  have f40 : w0.frozen? ⟨w.heap.size + 1 + 1 + 1 + 1, 0, none⟩ = false := by rw [hw0]; simp [go_sem]
  have f41 : w0.frozen? ⟨w.heap.size + 1 + 1 + 1 + 1, 1, none⟩ = false := by rw [hw0]; simp [go_sem]
  have f42 : w0.frozen? ⟨w.heap.size + 1 + 1 + 1 + 1, 2, none⟩ = false := by rw [hw0]; simp [go_sem]
  have F4 := Lib.hid (And.intro f40 (And.intro f41 f42))
  clear f40 f41 f42
  rw [← hw0]
  clear hw0
  refine (HA.out _ _ hv5.out).mono ?_
  rintro e wa ⟨rfl, ba⟩
  have C0 := Lib.hid ba
  clear ba
  have kn := keep1 C0.out hv2.out
  have kd := keep1 C0.out hv3.out
  obtain ⟨k40, k41, k42⟩ := hv4.out.below C0.out
  have g40 := keepf C0.out hv4.out.1 F4.out.1
  have g41 := keepf C0.out hv4.out.2.1 F4.out.2.1
  have g42 := keepf C0.out hv4.out.2.2 F4.out.2.2
  have HB := Lib.hid (chain hb0.out C0.out)
  have HZ := Lib.hid (((HB.out.setCell (p := ⟨w.heap.size + 1 + 1 + 1 + 1, 0, none⟩) (by simp; omega) (.int .i64 0)).setCell (p := ⟨w.heap.size + 1 + 1 + 1 + 1, 1, none⟩) (by simp; omega) (.int .i64 0)).setCell (p := ⟨w.heap.size + 1 + 1 + 1 + 1, 2, none⟩) (by simp; omega) (.int .i64 0))
  go_wp2
  exact bodyPost_ret (v := .tuple #[vv 0 0 0, .int .i64 2]) (by simp [results, Try.results31, go_sem, k40, k41, k42]) rfl ⟨rfl, HZ.out⟩

set_option maxRecDepth 100000 in
set_option maxHeartbeats 4000000 in
theorem Between_n1 (x1 x2 x3 y1 y2 y3 num den : Int) (h : inL 16777216 [(x1, x2, x3), (y1, y2, y3)] = true) (h1 : ¬ den < 1) (h2 : ¬ 4294967296 < den) (h3 : ¬ num < 0) (h4 : den < num) (w : World) :
    Calls Try.prog 31 #[vv x1 x2 x3, vv y1 y2 y3, .int .i64 num, .int .i64 den] w (Ret (.tuple #[vv 0 0 0, .int .i64 2]) w) := by
  have HA := Lib.hid (fun v w h => allValid_any [(x1, x2, x3), (y1, y2, y3)] v w h)
  rw [h] at HA
  clear h
  go_enter Try.func31, Try.ntmps31
  go_wp2_with fail
  obtain ⟨w0, hw0⟩ : ∃ w0 : World, w0 = (((((w.alloc (.cells #[.int .i64 x1, .int .i64 x2, .int .i64 x3] 23)).alloc (.cells #[.int .i64 y1, .int .i64 y2, .int .i64 y3] 23)).alloc (.cells #[.int .i64 num] 3)).alloc (.cells #[.int .i64 den] 3)).alloc (.cells #[.int .i64 0, .int .i64 0, .int .i64 0] 23)).alloc (.cells #[.int .i64 x1, .int .i64 x2, .int .i64 x3, .int .i64 y1, .int .i64 y2, .int .i64 y3] 23) := ⟨_, rfl⟩
  have hb0 : Hid (Below w.heap.size w w0) := by rw [hw0]; exact (((((below_one w _).alloc (by simp) _).alloc (by simp; omega) _).alloc (by simp; omega) _).alloc (by simp; omega) _).alloc (by simp; omega) _
  have hv0 : Hid (V3 w0 w.heap.size x1 x2 x3) := by rw [hw0]; exact ⟨by simp [go_sem], by simp [go_sem], by simp [go_sem]⟩
  have hv1 : Hid (V3 w0 (w.heap.size + 1) y1 y2 y3) := by rw [hw0]; exact ⟨by simp [go_sem], by simp [go_sem], by simp [go_sem]⟩
  have hv2 : Hid (w0.cell? ⟨w.heap.size + 1 + 1, 0, none⟩ = some (.int .i64 num)) := by show _ = _; rw [hw0]; simp [go_sem]
  have hv3 : Hid (w0.cell? ⟨w.heap.size + 1 + 1 + 1, 0, none⟩ = some (.int .i64 den)) := by show _ = _; rw [hw0]; simp [go_sem]
  have hv4 : Hid (V3 w0 (w.heap.size + 1 + 1 + 1 + 1) 0 0 0) := by rw [hw0]; exact ⟨by simp [go_sem], by simp [go_sem], by simp [go_sem]⟩
  have hv5 : Hid (Rv w0 (.slice (some ⟨w.heap.size + 1 + 1 + 1 + 1 + 1, 0, none⟩) 2 2) [(x1, x2, x3), (y1, y2, y3)]) := by rw [hw0]; exact rv2 (by simp [go_sem])
  have f40 : w0.frozen? ⟨w.heap.size + 1 + 1 + 1 + 1, 0, none⟩ = false := by rw [hw0]; simp [go_sem]
  have f41 : w0.frozen? ⟨w.heap.size + 1 + 1 + 1 + 1, 1, none⟩ = false := by rw [hw0]; simp [go_sem]
  have f42 : w0.frozen? ⟨w.heap.size + 1 + 1 + 1 + 1, 2, none⟩ = false := by rw [hw0]; simp [go_sem]
  have F4 := Lib.hid (And.intro f40 (And.intro f41 f42))
  clear f40 f41 f42
  rw [← hw0]
  clear hw0
  refine (HA.out _ _ hv5.out).mono ?_
  rintro e wa ⟨rfl, ba⟩
  have C0 := Lib.hid ba
  clear ba
  have kn := keep1 C0.out hv2.out
  have kd := keep1 C0.out hv3.out
  obtain ⟨k40, k41, k42⟩ := hv4.out.below C0.out
  have g40 := keepf C0.out hv4.out.1 F4.out.1
  have g41 := keepf C0.out hv4.out.2.1 F4.out.2.1
  have g42 := keepf C0.out hv4.out.2.2 F4.out.2.2
  have HB := Lib.hid (chain hb0.out C0.out)
  have HZ := Lib.hid (((HB.out.setCell (p := ⟨w.heap.size + 1 + 1 + 1 + 1, 0, none⟩) (by simp; omega) (.int .i64 0)).setCell (p := ⟨w.heap.size + 1 + 1 + 1 + 1, 1, none⟩) (by simp; omega) (.int .i64 0)).setCell (p := ⟨w.heap.size + 1 + 1 + 1 + 1, 2, none⟩) (by simp; omega) (.int .i64 0))
  go_wp2
  exact bodyPost_ret (v := .tuple #[vv 0 0 0, .int .i64 2]) (by simp [results, Try.results31, go_sem, k40, k41, k42]) rfl ⟨rfl, HZ.out⟩

set_option maxRecDepth 100000 in
set_option maxHeartbeats 4000000 in
theorem Between_way (x1 x2 x3 y1 y2 y3 num den r1 r2 r3 : Int) (h : inL 16777216 [(x1, x2, x3), (y1, y2, y3)] = true) (h1 : ¬ den < 1) (h2 : ¬ 4294967296 < den) (h3 : ¬ num < 0) (h4 : ¬ den < num)
    (H1 : ∀ gn gd w, w.cell? ⟨gn, 0, none⟩ = some (.int .i64 num) → w.cell? ⟨gd, 0, none⟩ = some (.int .i64 den) → Calls Try.prog 45 #[vv x1 x2 x3, vv y1 y2 y3, .func (.func 52) #[] #[.pointer (some ⟨gn, 0, none⟩), .pointer (some ⟨gd, 0, none⟩)]] w (Ret (vv r1 r2 r3) w)) (w : World) :
    Calls Try.prog 31 #[vv x1 x2 x3, vv y1 y2 y3, .int .i64 num, .int .i64 den] w (Ret (.tuple #[vv r1 r2 r3, .int .i64 0]) w) := by
  have H1 := Lib.hid H1
  have HA := Lib.hid (fun v w h => allValid_any [(x1, x2, x3), (y1, y2, y3)] v w h)
  rw [h] at HA
  clear h
  go_enter Try.func31, Try.ntmps31
  go_wp2_with fail
  obtain ⟨w0, hw0⟩ : ∃ w0 : World, w0 = (((((w.alloc (.cells #[.int .i64 x1, .int .i64 x2, .int .i64 x3] 23)).alloc (.cells #[.int .i64 y1, .int .i64 y2, .int .i64 y3] 23)).alloc (.cells #[.int .i64 num] 3)).alloc (.cells #[.int .i64 den] 3)).alloc (.cells #[.int .i64 0, .int .i64 0, .int .i64 0] 23)).alloc (.cells #[.int .i64 x1, .int .i64 x2, .int .i64 x3, .int .i64 y1, .int .i64 y2, .int .i64 y3] 23) := ⟨_, rfl⟩
  have hb0 : Hid (Below w.heap.size w w0) := by rw [hw0]; exact (((((below_one w _).alloc (by simp) _).alloc (by simp; omega) _).alloc (by simp; omega) _).alloc (by simp; omega) _).alloc (by simp; omega) _
  have hv0 : Hid (V3 w0 w.heap.size x1 x2 x3) := by rw [hw0]; exact ⟨by simp [go_sem], by simp [go_sem], by simp [go_sem]⟩
  have hv1 : Hid (V3 w0 (w.heap.size + 1) y1 y2 y3) := by rw [hw0]; exact ⟨by simp [go_sem], by simp [go_sem], by simp [go_sem]⟩
  have hv2 : Hid (w0.cell? ⟨w.heap.size + 1 + 1, 0, none⟩ = some (.int .i64 num)) := by show _ = _; rw [hw0]; simp [go_sem]
  have hv3 : Hid (w0.cell? ⟨w.heap.size + 1 + 1 + 1, 0, none⟩ = some (.int .i64 den)) := by show _ = _; rw [hw0]; simp [go_sem]
  have hv4 : Hid (V3 w0 (w.heap.size + 1 + 1 + 1 + 1) 0 0 0) := by rw [hw0]; exact ⟨by simp [go_sem], by simp [go_sem], by simp [go_sem]⟩
  have hv5 : Hid (Rv w0 (.slice (some ⟨w.heap.size + 1 + 1 + 1 + 1 + 1, 0, none⟩) 2 2) [(x1, x2, x3), (y1, y2, y3)]) := by rw [hw0]; exact rv2 (by simp [go_sem])
  have f40 : w0.frozen? ⟨w.heap.size + 1 + 1 + 1 + 1, 0, none⟩ = false := by rw [hw0]; simp [go_sem]
  have f41 : w0.frozen? ⟨w.heap.size + 1 + 1 + 1 + 1, 1, none⟩ = false := by rw [hw0]; simp [go_sem]
  have f42 : w0.frozen? ⟨w.heap.size + 1 + 1 + 1 + 1, 2, none⟩ = false := by rw [hw0]; simp [go_sem]
  have F4 := Lib.hid (And.intro f40 (And.intro f41 f42))
  clear f40 f41 f42
  rw [← hw0]
  clear hw0
  refine (HA.out _ _ hv5.out).mono ?_
  rintro e wa ⟨rfl, ba⟩
  have C0 := Lib.hid ba
  clear ba
  have kn := keep1 C0.out hv2.out
  have kd := keep1 C0.out hv3.out
  obtain ⟨k00, k01, k02⟩ := hv0.out.below C0.out
  obtain ⟨k10, k11, k12⟩ := hv1.out.below C0.out
  go_wp2_with fail
  refine (H1.out _ _ _ kn kd).mono ?_
  rintro e wb ⟨rfl, bb⟩
  have C1 := Lib.hid (chain C0.out bb)
  clear bb kn kd
  clear k00 k01 k02 k10 k11 k12
  obtain ⟨k40, k41, k42⟩ := hv4.out.below C1.out
  have g40 := keepf C1.out hv4.out.1 F4.out.1
  have g41 := keepf C1.out hv4.out.2.1 F4.out.2.1
  have g42 := keepf C1.out hv4.out.2.2 F4.out.2.2
  have HB := Lib.hid (chain hb0.out C1.out)
  have HZ := Lib.hid (((HB.out.setCell (p := ⟨w.heap.size + 1 + 1 + 1 + 1, 0, none⟩) (by simp; omega) (.int .i64 r1)).setCell (p := ⟨w.heap.size + 1 + 1 + 1 + 1, 1, none⟩) (by simp; omega) (.int .i64 r2)).setCell (p := ⟨w.heap.size + 1 + 1 + 1 + 1, 2, none⟩) (by simp; omega) (.int .i64 r3))
  go_wp2
  exact bodyPost_ret (v := .tuple #[vv r1 r2 r3, .int .i64 0]) (by simp [results, Try.results31, go_sem, k40, k41, k42]) rfl ⟨rfl, HZ.out⟩
end Go.Proofs.Ytdicbeaocedkmaa
