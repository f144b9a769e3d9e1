/- vector.Scale, Length2, Turn, Compare as walks over what their calls give. -/
import Derived.Test.YtdicbeaocedkmaaVh
set_option linter.all false
namespace Go.Proofs.Ytdicbeaocedkmaa
open Go.RowKit

set_option maxRecDepth 100000 in
set_option maxHeartbeats 4000000 in
theorem Scale_bad (x1 x2 x3 by_ : Int) (h : inV 16777216 x1 x2 x3 = false) (w : World) :
    Calls Try.prog 19 #[vv x1 x2 x3, .int .i64 by_] w (Ret (.tuple #[vv 0 0 0, .int .i64 2]) w) := by
  have HA := Lib.hid (fun w => Valid_any x1 x2 x3 w)
  rw [h] at HA
  clear h
  go_enter Try.func19, Try.ntmps19
  go_wp2_with fail
  obtain ⟨w0, hw0⟩ : ∃ w0 : World, w0 = (w.alloc (.cells #[.int .i64 x1, .int .i64 x2, .int .i64 x3] 23)).alloc (.cells #[.int .i64 0, .int .i64 0, .int .i64 0] 23) := ⟨_, rfl⟩
  have hb0 : Hid (Below w.heap.size w w0) := by rw [hw0]; exact (below_one w _).alloc (by simp) _
  have hv0 : Hid (V3 w0 w.heap.size x1 x2 x3) := by rw [hw0]; exact ⟨by simp [go_sem], by simp [go_sem], by simp [go_sem]⟩
  have hv1 : Hid (V3 w0 (w.heap.size + 1) 0 0 0) := by rw [hw0]; exact ⟨by simp [go_sem], by simp [go_sem], by simp [go_sem]⟩
  have f10 : w0.frozen? ⟨w.heap.size + 1, 0, none⟩ = false := by rw [hw0]; simp [go_sem]
  have f11 : w0.frozen? ⟨w.heap.size + 1, 1, none⟩ = false := by rw [hw0]; simp [go_sem]
  have f12 : w0.frozen? ⟨w.heap.size + 1, 2, none⟩ = false := by rw [hw0]; simp [go_sem]
  have F1 := Lib.hid (And.intro f10 (And.intro f11 f12))
  clear f10 f11 f12
  rw [← hw0]
  clear hw0
  refine (HA.out _).mono ?_
  rintro e wa ⟨rfl, ba⟩
  obtain ⟨k10, k11, k12⟩ := hv1.out.below ba
  have g10 := keepf ba hv1.out.1 F1.out.1
  have g11 := keepf ba hv1.out.2.1 F1.out.2.1
  have g12 := keepf ba hv1.out.2.2 F1.out.2.2
  have HB := Lib.hid (chain hb0.out ba)
  clear ba
  have HZ := Lib.hid (((HB.out.setCell (p := ⟨w.heap.size + 1, 0, none⟩) (by simp) (.int .i64 0)).setCell (p := ⟨w.heap.size + 1, 1, none⟩) (by simp) (.int .i64 0)).setCell (p := ⟨w.heap.size + 1, 2, none⟩) (by simp) (.int .i64 0))
  go_wp2
  exact bodyPost_ret (v := .tuple #[vv 0 0 0, .int .i64 2]) (by simp [results, Try.results19, go_sem, k10, k11, k12]) rfl ⟨rfl, HZ.out⟩

set_option maxRecDepth 100000 in
set_option maxHeartbeats 4000000 in
theorem Scale_lo (x1 x2 x3 by_ r1 r2 r3 o1 o2 o3 er : Int) (h : inV 16777216 x1 x2 x3 = true) (hl : by_ < -16777217)
    (H1 : ∀ w, Calls Try.prog 48 #[vv x1 x2 x3, vv (-16777217) (-16777217) (-16777217)] w (Ret (vv r1 r2 r3) w)) (H2 : ∀ w, Calls Try.prog 44 #[vv r1 r2 r3] w (Ret (.tuple #[vv o1 o2 o3, .int .i64 er]) w)) (w : World) :
    Calls Try.prog 19 #[vv x1 x2 x3, .int .i64 by_] w (Ret (.tuple #[vv o1 o2 o3, .int .i64 er]) w) := by
  have HA := Lib.hid (fun w => Valid_any x1 x2 x3 w)
  rw [h] at HA
  have H1 := Lib.hid H1
  have H2 := Lib.hid H2
  clear h
  go_enter Try.func19, Try.ntmps19
  go_wp2_with fail
  obtain ⟨w0, hw0⟩ : ∃ w0 : World, w0 = (w.alloc (.cells #[.int .i64 x1, .int .i64 x2, .int .i64 x3] 23)).alloc (.cells #[.int .i64 0, .int .i64 0, .int .i64 0] 23) := ⟨_, rfl⟩
  have hb0 : Hid (Below w.heap.size w w0) := by rw [hw0]; exact (below_one w _).alloc (by simp) _
  have hv0 : Hid (V3 w0 w.heap.size x1 x2 x3) := by rw [hw0]; exact ⟨by simp [go_sem], by simp [go_sem], by simp [go_sem]⟩
  have hv1 : Hid (V3 w0 (w.heap.size + 1) 0 0 0) := by rw [hw0]; exact ⟨by simp [go_sem], by simp [go_sem], by simp [go_sem]⟩
  have f10 : w0.frozen? ⟨w.heap.size + 1, 0, none⟩ = false := by rw [hw0]; simp [go_sem]
  have f11 : w0.frozen? ⟨w.heap.size + 1, 1, none⟩ = false := by rw [hw0]; simp [go_sem]
  have f12 : w0.frozen? ⟨w.heap.size + 1, 2, none⟩ = false := by rw [hw0]; simp [go_sem]
  have F1 := Lib.hid (And.intro f10 (And.intro f11 f12))
  clear f10 f11 f12
  rw [← hw0]
  clear hw0
  refine (HA.out _).mono ?_
  rintro e wa ⟨rfl, ba⟩
  have C0 := Lib.hid ba
  clear ba
  obtain ⟨k00, k01, k02⟩ := hv0.out.below C0.out
  go_wp2_with fail
  refine (H1.out _).mono ?_
  rintro e wb ⟨rfl, bb⟩
  have C1 := Lib.hid (chain C0.out bb)
  clear bb
  clear k00 k01 k02
  go_wp2_with fail
  refine (H2.out _).mono ?_
  rintro e wc ⟨rfl, bb⟩
  have C2 := Lib.hid (chain C1.out bb)
  clear bb
  obtain ⟨k10, k11, k12⟩ := hv1.out.below C2.out
  have g10 := keepf C2.out hv1.out.1 F1.out.1
  have g11 := keepf C2.out hv1.out.2.1 F1.out.2.1
  have g12 := keepf C2.out hv1.out.2.2 F1.out.2.2
  have HB := Lib.hid (chain hb0.out C2.out)
  have HZ := Lib.hid (((HB.out.setCell (p := ⟨w.heap.size + 1, 0, none⟩) (by simp) (.int .i64 o1)).setCell (p := ⟨w.heap.size + 1, 1, none⟩) (by simp) (.int .i64 o2)).setCell (p := ⟨w.heap.size + 1, 2, none⟩) (by simp) (.int .i64 o3))
  go_wp2
  exact bodyPost_ret (v := .tuple #[vv o1 o2 o3, .int .i64 er]) (by simp [results, Try.results19, go_sem, k10, k11, k12]) rfl ⟨rfl, HZ.out⟩

set_option maxRecDepth 100000 in
set_option maxHeartbeats 4000000 in
theorem Scale_hi (x1 x2 x3 by_ r1 r2 r3 o1 o2 o3 er : Int) (h : inV 16777216 x1 x2 x3 = true) (hl : ¬ by_ < -16777217) (hh : 16777217 < by_)
    (H1 : ∀ w, Calls Try.prog 48 #[vv x1 x2 x3, vv 16777217 16777217 16777217] w (Ret (vv r1 r2 r3) w)) (H2 : ∀ w, Calls Try.prog 44 #[vv r1 r2 r3] w (Ret (.tuple #[vv o1 o2 o3, .int .i64 er]) w)) (w : World) :
    Calls Try.prog 19 #[vv x1 x2 x3, .int .i64 by_] w (Ret (.tuple #[vv o1 o2 o3, .int .i64 er]) w) := by
  have HA := Lib.hid (fun w => Valid_any x1 x2 x3 w)
  rw [h] at HA
  have H1 := Lib.hid H1
  have H2 := Lib.hid H2
  clear h
  go_enter Try.func19, Try.ntmps19
  go_wp2_with fail
  obtain ⟨w0, hw0⟩ : ∃ w0 : World, w0 = (w.alloc (.cells #[.int .i64 x1, .int .i64 x2, .int .i64 x3] 23)).alloc (.cells #[.int .i64 0, .int .i64 0, .int .i64 0] 23) := ⟨_, rfl⟩
  have hb0 : Hid (Below w.heap.size w w0) := by rw [hw0]; exact (below_one w _).alloc (by simp) _
  have hv0 : Hid (V3 w0 w.heap.size x1 x2 x3) := by rw [hw0]; exact ⟨by simp [go_sem], by simp [go_sem], by simp [go_sem]⟩
  have hv1 : Hid (V3 w0 (w.heap.size + 1) 0 0 0) := by rw [hw0]; exact ⟨by simp [go_sem], by simp [go_sem], by simp [go_sem]⟩
  have f10 : w0.frozen? ⟨w.heap.size + 1, 0, none⟩ = false := by rw [hw0]; simp [go_sem]
  have f11 : w0.frozen? ⟨w.heap.size + 1, 1, none⟩ = false := by rw [hw0]; simp [go_sem]
  have f12 : w0.frozen? ⟨w.heap.size + 1, 2, none⟩ = false := by rw [hw0]; simp [go_sem]
  have F1 := Lib.hid (And.intro f10 (And.intro f11 f12))
  clear f10 f11 f12
  rw [← hw0]
  clear hw0
  refine (HA.out _).mono ?_
  rintro e wa ⟨rfl, ba⟩
  have C0 := Lib.hid ba
  clear ba
  obtain ⟨k00, k01, k02⟩ := hv0.out.below C0.out
  go_wp2_with fail
  refine (H1.out _).mono ?_
  rintro e wb ⟨rfl, bb⟩
  have C1 := Lib.hid (chain C0.out bb)
  clear bb
  clear k00 k01 k02
  go_wp2_with fail
  refine (H2.out _).mono ?_
  rintro e wc ⟨rfl, bb⟩
  have C2 := Lib.hid (chain C1.out bb)
  clear bb
  obtain ⟨k10, k11, k12⟩ := hv1.out.below C2.out
  have g10 := keepf C2.out hv1.out.1 F1.out.1
  have g11 := keepf C2.out hv1.out.2.1 F1.out.2.1
  have g12 := keepf C2.out hv1.out.2.2 F1.out.2.2
  have HB := Lib.hid (chain hb0.out C2.out)
  have HZ := Lib.hid (((HB.out.setCell (p := ⟨w.heap.size + 1, 0, none⟩) (by simp) (.int .i64 o1)).setCell (p := ⟨w.heap.size + 1, 1, none⟩) (by simp) (.int .i64 o2)).setCell (p := ⟨w.heap.size + 1, 2, none⟩) (by simp) (.int .i64 o3))
  go_wp2
  exact bodyPost_ret (v := .tuple #[vv o1 o2 o3, .int .i64 er]) (by simp [results, Try.results19, go_sem, k10, k11, k12]) rfl ⟨rfl, HZ.out⟩

set_option maxRecDepth 100000 in
set_option maxHeartbeats 4000000 in
theorem Scale_in (x1 x2 x3 by_ r1 r2 r3 o1 o2 o3 er : Int) (h : inV 16777216 x1 x2 x3 = true) (hl : ¬ by_ < -16777217) (hh : ¬ 16777217 < by_)
    (H1 : ∀ w, Calls Try.prog 48 #[vv x1 x2 x3, vv by_ by_ by_] w (Ret (vv r1 r2 r3) w)) (H2 : ∀ w, Calls Try.prog 44 #[vv r1 r2 r3] w (Ret (.tuple #[vv o1 o2 o3, .int .i64 er]) w)) (w : World) :
    Calls Try.prog 19 #[vv x1 x2 x3, .int .i64 by_] w (Ret (.tuple #[vv o1 o2 o3, .int .i64 er]) w) := by
  have HA := Lib.hid (fun w => Valid_any x1 x2 x3 w)
  rw [h] at HA
  have H1 := Lib.hid H1
  have H2 := Lib.hid H2
  clear h
  go_enter Try.func19, Try.ntmps19
  go_wp2_with fail
  obtain ⟨w0, hw0⟩ : ∃ w0 : World, w0 = (w.alloc (.cells #[.int .i64 x1, .int .i64 x2, .int .i64 x3] 23)).alloc (.cells #[.int .i64 0, .int .i64 0, .int .i64 0] 23) := ⟨_, rfl⟩
  have hb0 : Hid (Below w.heap.size w w0) := by rw [hw0]; exact (below_one w _).alloc (by simp) _
  have hv0 : Hid (V3 w0 w.heap.size x1 x2 x3) := by rw [hw0]; exact ⟨by simp [go_sem], by simp [go_sem], by simp [go_sem]⟩
  have hv1 : Hid (V3 w0 (w.heap.size + 1) 0 0 0) := by rw [hw0]; exact ⟨by simp [go_sem], by simp [go_sem], by simp [go_sem]⟩
  have f10 : w0.frozen? ⟨w.heap.size + 1, 0, none⟩ = false := by rw [hw0]; simp [go_sem]
  have f11 : w0.frozen? ⟨w.heap.size + 1, 1, none⟩ = false := by rw [hw0]; simp [go_sem]
  have f12 : w0.frozen? ⟨w.heap.size + 1, 2, none⟩ = false := by rw [hw0]; simp [go_sem]
  have F1 := Lib.hid (And.intro f10 (And.intro f11 f12))
  clear f10 f11 f12
  rw [← hw0]
  clear hw0
  refine (HA.out _).mono ?_
  rintro e wa ⟨rfl, ba⟩
  have C0 := Lib.hid ba
  clear ba
  obtain ⟨k00, k01, k02⟩ := hv0.out.below C0.out
  go_wp2_with fail
  refine (H1.out _).mono ?_
  rintro e wb ⟨rfl, bb⟩
  have C1 := Lib.hid (chain C0.out bb)
  clear bb
  clear k00 k01 k02
  go_wp2_with fail
  refine (H2.out _).mono ?_
  rintro e wc ⟨rfl, bb⟩
  have C2 := Lib.hid (chain C1.out bb)
  clear bb
  obtain ⟨k10, k11, k12⟩ := hv1.out.below C2.out
  have g10 := keepf C2.out hv1.out.1 F1.out.1
  have g11 := keepf C2.out hv1.out.2.1 F1.out.2.1
  have g12 := keepf C2.out hv1.out.2.2 F1.out.2.2
  have HB := Lib.hid (chain hb0.out C2.out)
  have HZ := Lib.hid (((HB.out.setCell (p := ⟨w.heap.size + 1, 0, none⟩) (by simp) (.int .i64 o1)).setCell (p := ⟨w.heap.size + 1, 1, none⟩) (by simp) (.int .i64 o2)).setCell (p := ⟨w.heap.size + 1, 2, none⟩) (by simp) (.int .i64 o3))
  go_wp2
  exact bodyPost_ret (v := .tuple #[vv o1 o2 o3, .int .i64 er]) (by simp [results, Try.results19, go_sem, k10, k11, k12]) rfl ⟨rfl, HZ.out⟩

set_option maxRecDepth 100000 in
set_option maxHeartbeats 4000000 in
theorem Length2_way (x1 x2 x3 r er : Int) (H1 : ∀ w, Calls Try.prog 24 #[vv x1 x2 x3, vv x1 x2 x3] w (Ret (.tuple #[.int .i64 r, .int .i64 er]) w)) (w : World) :
    Calls Try.prog 26 #[vv x1 x2 x3] w (Ret (.tuple #[.int .i64 r, .int .i64 er]) w) := by
  have H1 := Lib.hid H1
  go_enter Try.func26, Try.ntmps26
  go_wp2_with fail
  obtain ⟨w0, hw0⟩ : ∃ w0 : World, w0 = w.alloc (.cells #[.int .i64 x1, .int .i64 x2, .int .i64 x3] 23) := ⟨_, rfl⟩
  have hb0 : Hid (Below w.heap.size w w0) := by rw [hw0]; exact below_one w _
  have hv0 : Hid (V3 w0 w.heap.size x1 x2 x3) := by rw [hw0]; exact ⟨by simp [go_sem], by simp [go_sem], by simp [go_sem]⟩
  rw [← hw0]
  clear hw0
  refine (H1.out _).mono ?_
  rintro e wa ⟨rfl, ba⟩
  have HB := Lib.hid (chain hb0.out ba)
  clear ba
  go_wp2
  go_ret2
  exact ⟨rfl, HB.out⟩

set_option maxRecDepth 100000 in
set_option maxHeartbeats 4000000 in
theorem Turn_bad (x1 x2 x3 y1 y2 y3 z1 z2 z3 : Int) (h : inL 16777216 [(x1, x2, x3), (y1, y2, y3), (z1, z2, z3)] = false) (w : World) :
    Calls Try.prog 33 #[vv x1 x2 x3, vv y1 y2 y3, vv z1 z2 z3] w (Ret (.tuple #[.int .i64 0, .int .i64 2]) w) := by
  have HA := Lib.hid (fun v w h => allValid_any [(x1, x2, x3), (y1, y2, y3), (z1, z2, z3)] v w h)
  rw [h] at HA
  clear h
  go_enter Try.func33, Try.ntmps33
  go_wp2_with fail
  obtain ⟨w0, hw0⟩ : ∃ w0 : World, w0 = (((w.alloc (.cells #[.int .i64 x1, .int .i64 x2, .int .i64 x3] 23)).alloc (.cells #[.int .i64 y1, .int .i64 y2, .int .i64 y3] 23)).alloc (.cells #[.int .i64 z1, .int .i64 z2, .int .i64 z3] 23)).alloc (.cells #[.int .i64 x1, .int .i64 x2, .int .i64 x3, .int .i64 y1, .int .i64 y2, .int .i64 y3, .int .i64 z1, .int .i64 z2, .int .i64 z3] 23) := ⟨_, rfl⟩
  have hb0 : Hid (Below w.heap.size w w0) := by rw [hw0]; exact (((below_one w _).alloc (by simp) _).alloc (by simp; omega) _).alloc (by simp; omega) _
  have hv0 : Hid (V3 w0 w.heap.size x1 x2 x3) := by rw [hw0]; exact ⟨by simp [go_sem], by simp [go_sem], by simp [go_sem]⟩
  have hv1 : Hid (V3 w0 (w.heap.size + 1) y1 y2 y3) := by rw [hw0]; exact ⟨by simp [go_sem], by simp [go_sem], by simp [go_sem]⟩
  have hv2 : Hid (V3 w0 (w.heap.size + 1 + 1) z1 z2 z3) := by rw [hw0]; exact ⟨by simp [go_sem], by simp [go_sem], by simp [go_sem]⟩
  have hv3 : Hid (Rv w0 (.slice (some ⟨w.heap.size + 1 + 1 + 1, 0, none⟩) 3 3) [(x1, x2, x3), (y1, y2, y3), (z1, z2, z3)]) := by rw [hw0]; exact rv3 (by simp [go_sem])
  rw [← hw0]
  clear hw0
  refine (HA.out _ _ hv3.out).mono ?_
  rintro e wa ⟨rfl, ba⟩
  have HB := Lib.hid (chain hb0.out ba)
  clear ba
  go_wp2
  go_ret2
  exact ⟨rfl, HB.out⟩

set_option maxRecDepth 100000 in
set_option maxHeartbeats 4000000 in
theorem Turn_way (x1 x2 x3 y1 y2 y3 z1 z2 z3 a1 a2 a3 b1_ b2_ b3_ r1 r2 r3 : Int) (h : inL 16777216 [(x1, x2, x3), (y1, y2, y3), (z1, z2, z3)] = true)
    (H1 : ∀ w, Calls Try.prog 47 #[vv y1 y2 y3, vv x1 x2 x3] w (Ret (vv a1 a2 a3) w)) (H2 : ∀ w, Calls Try.prog 47 #[vv z1 z2 z3, vv x1 x2 x3] w (Ret (vv b1_ b2_ b3_) w)) (H3 : ∀ w, Calls Try.prog 51 #[vv a1 a2 a3, vv b1_ b2_ b3_] w (Ret (.agg #[.int .i64 r1, .int .i64 r2, .int .i64 r3]) w)) (w : World) :
    Calls Try.prog 33 #[vv x1 x2 x3, vv y1 y2 y3, vv z1 z2 z3] w (Ret (.tuple #[.int .i64 (cmpI r3 0), .int .i64 0]) w) := by
  have HA := Lib.hid (fun v w h => allValid_any [(x1, x2, x3), (y1, y2, y3), (z1, z2, z3)] v w h)
  rw [h] at HA
  have H1 := Lib.hid H1
  have H2 := Lib.hid H2
  have H3 := Lib.hid H3
  clear h
  have hf2 : ∀ w, (Instr.field 23 (.agg #[.int .i64 r1, .int .i64 r2, .int .i64 r3]) 2).run Try.prog w = .ok (.int .i64 r3) w := fun _ => by kernel_rfl
  go_enter Try.func33, Try.ntmps33
  go_wp2_with fail
  obtain ⟨w0, hw0⟩ : ∃ w0 : World, w0 = (((w.alloc (.cells #[.int .i64 x1, .int .i64 x2, .int .i64 x3] 23)).alloc (.cells #[.int .i64 y1, .int .i64 y2, .int .i64 y3] 23)).alloc (.cells #[.int .i64 z1, .int .i64 z2, .int .i64 z3] 23)).alloc (.cells #[.int .i64 x1, .int .i64 x2, .int .i64 x3, .int .i64 y1, .int .i64 y2, .int .i64 y3, .int .i64 z1, .int .i64 z2, .int .i64 z3] 23) := ⟨_, rfl⟩
  have hb0 : Hid (Below w.heap.size w w0) := by rw [hw0]; exact (((below_one w _).alloc (by simp) _).alloc (by simp; omega) _).alloc (by simp; omega) _
  have hv0 : Hid (V3 w0 w.heap.size x1 x2 x3) := by rw [hw0]; exact ⟨by simp [go_sem], by simp [go_sem], by simp [go_sem]⟩
  have hv1 : Hid (V3 w0 (w.heap.size + 1) y1 y2 y3) := by rw [hw0]; exact ⟨by simp [go_sem], by simp [go_sem], by simp [go_sem]⟩
  have hv2 : Hid (V3 w0 (w.heap.size + 1 + 1) z1 z2 z3) := by rw [hw0]; exact ⟨by simp [go_sem], by simp [go_sem], by simp [go_sem]⟩
  have hv3 : Hid (Rv w0 (.slice (some ⟨w.heap.size + 1 + 1 + 1, 0, none⟩) 3 3) [(x1, x2, x3), (y1, y2, y3), (z1, z2, z3)]) := by rw [hw0]; exact rv3 (by simp [go_sem])
  rw [← hw0]
  clear hw0
  refine (HA.out _ _ hv3.out).mono ?_
  rintro e wa ⟨rfl, ba⟩
  have C0 := Lib.hid ba
  clear ba
  obtain ⟨k00, k01, k02⟩ := hv0.out.below C0.out
  obtain ⟨k10, k11, k12⟩ := hv1.out.below C0.out
  obtain ⟨k20, k21, k22⟩ := hv2.out.below C0.out
  go_wp2_with fail
  go_region_held3 (fun W' => W'.cell? ⟨w.heap.size, 0, none⟩ = some (.int .i64 x1) ∧ W'.cell? ⟨w.heap.size, 1, none⟩ = some (.int .i64 x2) ∧ W'.cell? ⟨w.heap.size, 2, none⟩ = some (.int .i64 x3) ∧ W'.cell? ⟨w.heap.size + 1, 0, none⟩ = some (.int .i64 y1) ∧ W'.cell? ⟨w.heap.size + 1, 1, none⟩ = some (.int .i64 y2) ∧ W'.cell? ⟨w.heap.size + 1, 2, none⟩ = some (.int .i64 y3) ∧ W'.cell? ⟨w.heap.size + 1 + 1, 0, none⟩ = some (.int .i64 z1) ∧ W'.cell? ⟨w.heap.size + 1 + 1, 1, none⟩ = some (.int .i64 z2) ∧ W'.cell? ⟨w.heap.size + 1 + 1, 2, none⟩ = some (.int .i64 z3)) (go_keep)
    (first
      | (go_at_call 47; (with_reducible refine (H1.out _).mono ?_); rintro e w1 ⟨rfl, b1⟩; (try (have b1 := undrew b1)); have C1 := Lib.hid (chain C0.out b1); clear b1; obtain ⟨p00, p01, p02⟩ := hv0.out.below C1.out; obtain ⟨p10, p11, p12⟩ := hv1.out.below C1.out; obtain ⟨p20, p21, p22⟩ := hv2.out.below C1.out)
      | (go_at_call 47; (with_reducible refine (H2.out _).mono ?_); rintro e w2 ⟨rfl, b2⟩; (try (have b2 := undrew b2)); have C2 := Lib.hid (chain C1.out b2); clear b2; obtain ⟨p00, p01, p02⟩ := hv0.out.below C2.out; obtain ⟨p10, p11, p12⟩ := hv1.out.below C2.out; obtain ⟨p20, p21, p22⟩ := hv2.out.below C2.out)
      | (go_at_call 51; (with_reducible refine (H3.out _).mono ?_); rintro e w3 ⟨rfl, b3⟩; (try (have b3 := undrew b3)); have C3 := Lib.hid (chain C2.out b3); clear b3; obtain ⟨p00, p01, p02⟩ := hv0.out.below C3.out; obtain ⟨p10, p11, p12⟩ := hv1.out.below C3.out; obtain ⟨p20, p21, p22⟩ := hv2.out.below C3.out)
      | (go_at_call 40; (with_reducible refine (cmp_any _ _ _).mono ?_); rintro e w4 ⟨rfl, rfl⟩)
      | fail)
  have HB := Lib.hid (chain hb0.out C3.out)
  go_wp2
  go_ret2
  exact ⟨rfl, by first | exact HB.out | exact HB.out.drew⟩

set_option maxRecDepth 100000 in
set_option maxHeartbeats 4000000 in
theorem Compare_0 (x1 x2 x3 y1 y2 y3 : Int) (hn : cmpI x1 y1 ≠ 0) (w : World) :
    Calls Try.prog 14 #[vv x1 x2 x3, vv y1 y2 y3] w (Ret (.int .i64 (cmpI x1 y1)) w) := by
  have H := Lib.hid (fun x y w => cmp_any x y w)
  have i0 : ∀ w, (Instr.index 57 (.agg #[.int .i64 x1, .int .i64 y1, .int .i64 x2, .int .i64 y2, .int .i64 x3, .int .i64 y3]) (.int .i64 0)).run Try.prog w = .ok (.agg #[.int .i64 x1, .int .i64 y1]) w := fun _ => by kernel_rfl
  have i1 : ∀ w, (Instr.index 57 (.agg #[.int .i64 x1, .int .i64 y1, .int .i64 x2, .int .i64 y2, .int .i64 x3, .int .i64 y3]) (.int .i64 1)).run Try.prog w = .ok (.agg #[.int .i64 x2, .int .i64 y2]) w := fun _ => by kernel_rfl
  have i2 : ∀ w, (Instr.index 57 (.agg #[.int .i64 x1, .int .i64 y1, .int .i64 x2, .int .i64 y2, .int .i64 x3, .int .i64 y3]) (.int .i64 2)).run Try.prog w = .ok (.agg #[.int .i64 x3, .int .i64 y3]) w := fun _ => by kernel_rfl
  go_enter Try.func14, Try.ntmps14
  go_wp2
  refine wp_loop_rounds 4 ?_
  rw [rounds_succ]
  go_wp2_with fail
  refine (H.out x1 y1 _).mono ?_
  rintro e w0 ⟨rfl, rfl⟩
  generalize cmpI x1 y1 = c at *
  go_wp2
  go_ret
  exact ⟨rfl, ((below_one w _).alloc (by simp) _).alloc (by simp; omega) _⟩

set_option maxRecDepth 100000 in
set_option maxHeartbeats 4000000 in
theorem Compare_1 (x1 x2 x3 y1 y2 y3 : Int) (e1 : x1 = y1) (hn : cmpI x2 y2 ≠ 0) (w : World) :
    Calls Try.prog 14 #[vv x1 x2 x3, vv y1 y2 y3] w (Ret (.int .i64 (cmpI x2 y2)) w) := by
  have H := Lib.hid (fun x y w => cmp_any x y w)
  have i0 : ∀ w, (Instr.index 57 (.agg #[.int .i64 x1, .int .i64 y1, .int .i64 x2, .int .i64 y2, .int .i64 x3, .int .i64 y3]) (.int .i64 0)).run Try.prog w = .ok (.agg #[.int .i64 x1, .int .i64 y1]) w := fun _ => by kernel_rfl
  have i1 : ∀ w, (Instr.index 57 (.agg #[.int .i64 x1, .int .i64 y1, .int .i64 x2, .int .i64 y2, .int .i64 x3, .int .i64 y3]) (.int .i64 1)).run Try.prog w = .ok (.agg #[.int .i64 x2, .int .i64 y2]) w := fun _ => by kernel_rfl
  have i2 : ∀ w, (Instr.index 57 (.agg #[.int .i64 x1, .int .i64 y1, .int .i64 x2, .int .i64 y2, .int .i64 x3, .int .i64 y3]) (.int .i64 2)).run Try.prog w = .ok (.agg #[.int .i64 x3, .int .i64 y3]) w := fun _ => by kernel_rfl
  have E1 : Hid (cmpI x1 y1 = 0) := by show _ = _; subst e1; simp [cmpI]
  clear e1
  go_enter Try.func14, Try.ntmps14
  go_wp2
  refine wp_loop_rounds 4 ?_
  rw [rounds_succ]
  go_wp2_with fail
  refine (H.out x1 y1 _).mono ?_
  rintro e w0 ⟨rfl, rfl⟩
  rw [E1.out]
  go_wp2
  rw [rounds_succ]
  go_wp2_with fail
  refine (H.out x2 y2 _).mono ?_
  rintro e w1 ⟨rfl, rfl⟩
  generalize cmpI x2 y2 = c at *
  go_wp2
  go_ret
  exact ⟨rfl, (((below_one w _).alloc (by simp) _).alloc (by simp; omega) _).alloc (by simp; omega) _⟩

set_option maxRecDepth 100000 in
set_option maxHeartbeats 4000000 in
theorem Compare_2 (x1 x2 x3 y1 y2 y3 : Int) (e1 : x1 = y1) (e2 : x2 = y2) (hn : cmpI x3 y3 ≠ 0) (w : World) :
    Calls Try.prog 14 #[vv x1 x2 x3, vv y1 y2 y3] w (Ret (.int .i64 (cmpI x3 y3)) w) := by
  have H := Lib.hid (fun x y w => cmp_any x y w)
  have i0 : ∀ w, (Instr.index 57 (.agg #[.int .i64 x1, .int .i64 y1, .int .i64 x2, .int .i64 y2, .int .i64 x3, .int .i64 y3]) (.int .i64 0)).run Try.prog w = .ok (.agg #[.int .i64 x1, .int .i64 y1]) w := fun _ => by kernel_rfl
  have i1 : ∀ w, (Instr.index 57 (.agg #[.int .i64 x1, .int .i64 y1, .int .i64 x2, .int .i64 y2, .int .i64 x3, .int .i64 y3]) (.int .i64 1)).run Try.prog w = .ok (.agg #[.int .i64 x2, .int .i64 y2]) w := fun _ => by kernel_rfl
  have i2 : ∀ w, (Instr.index 57 (.agg #[.int .i64 x1, .int .i64 y1, .int .i64 x2, .int .i64 y2, .int .i64 x3, .int .i64 y3]) (.int .i64 2)).run Try.prog w = .ok (.agg #[.int .i64 x3, .int .i64 y3]) w := fun _ => by kernel_rfl
  have E1 : Hid (cmpI x1 y1 = 0) := by show _ = _; subst e1; simp [cmpI]
  clear e1
  have E2 : Hid (cmpI x2 y2 = 0) := by show _ = _; subst e2; simp [cmpI]
  clear e2
  go_enter Try.func14, Try.ntmps14
  go_wp2
  refine wp_loop_rounds 4 ?_
  rw [rounds_succ]
  go_wp2_with fail
  refine (H.out x1 y1 _).mono ?_
  rintro e w0 ⟨rfl, rfl⟩
  rw [E1.out]
  go_wp2
  rw [rounds_succ]
  go_wp2_with fail
  refine (H.out x2 y2 _).mono ?_
  rintro e w1 ⟨rfl, rfl⟩
  rw [E2.out]
  go_wp2
  rw [rounds_succ]
  go_wp2_with fail
  refine (H.out x3 y3 _).mono ?_
  rintro e w2 ⟨rfl, rfl⟩
  generalize cmpI x3 y3 = c at *
  go_wp2
  go_ret
  exact ⟨rfl, ((((below_one w _).alloc (by simp) _).alloc (by simp; omega) _).alloc (by simp; omega) _).alloc (by simp; omega) _⟩

set_option maxRecDepth 100000 in
set_option maxHeartbeats 4000000 in
theorem Compare_3 (x1 x2 x3 y1 y2 y3 : Int) (e1 : x1 = y1) (e2 : x2 = y2) (e3 : x3 = y3) (w : World) :
    Calls Try.prog 14 #[vv x1 x2 x3, vv y1 y2 y3] w (Ret (.int .i64 0) w) := by
  have H := Lib.hid (fun x y w => cmp_any x y w)
  have i0 : ∀ w, (Instr.index 57 (.agg #[.int .i64 x1, .int .i64 y1, .int .i64 x2, .int .i64 y2, .int .i64 x3, .int .i64 y3]) (.int .i64 0)).run Try.prog w = .ok (.agg #[.int .i64 x1, .int .i64 y1]) w := fun _ => by kernel_rfl
  have i1 : ∀ w, (Instr.index 57 (.agg #[.int .i64 x1, .int .i64 y1, .int .i64 x2, .int .i64 y2, .int .i64 x3, .int .i64 y3]) (.int .i64 1)).run Try.prog w = .ok (.agg #[.int .i64 x2, .int .i64 y2]) w := fun _ => by kernel_rfl
  have i2 : ∀ w, (Instr.index 57 (.agg #[.int .i64 x1, .int .i64 y1, .int .i64 x2, .int .i64 y2, .int .i64 x3, .int .i64 y3]) (.int .i64 2)).run Try.prog w = .ok (.agg #[.int .i64 x3, .int .i64 y3]) w := fun _ => by kernel_rfl
  have E1 : Hid (cmpI x1 y1 = 0) := by show _ = _; subst e1; simp [cmpI]
  clear e1
  have E2 : Hid (cmpI x2 y2 = 0) := by show _ = _; subst e2; simp [cmpI]
  clear e2
  have E3 : Hid (cmpI x3 y3 = 0) := by show _ = _; subst e3; simp [cmpI]
  clear e3
  go_enter Try.func14, Try.ntmps14
  go_wp2
  refine wp_loop_rounds 4 ?_
  rw [rounds_succ]
  go_wp2_with fail
  refine (H.out x1 y1 _).mono ?_
  rintro e w0 ⟨rfl, rfl⟩
  rw [E1.out]
  go_wp2
  rw [rounds_succ]
  go_wp2_with fail
  refine (H.out x2 y2 _).mono ?_
  rintro e w1 ⟨rfl, rfl⟩
  rw [E2.out]
  go_wp2
  rw [rounds_succ]
  go_wp2_with fail
  refine (H.out x3 y3 _).mono ?_
  rintro e w2 ⟨rfl, rfl⟩
  rw [E3.out]
  go_wp2
  rw [rounds_succ]
  go_wp2
  go_ret
  exact ⟨rfl, ((((below_one w _).alloc (by simp) _).alloc (by simp; omega) _).alloc (by simp; omega) _).alloc (by simp; omega) _⟩
end Go.Proofs.Ytdicbeaocedkmaa
