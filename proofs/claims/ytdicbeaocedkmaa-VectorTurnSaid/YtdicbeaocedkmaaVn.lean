/- The reference's part, within, Valid, Point, Add, Neg, Sub. -/
import Derived.Test.YtdicbeaocedkmaaVb
import Derived.Deep.DeepCutAuto
set_option linter.all false
namespace Go.Proofs.Ytdicbeaocedkmaa
open Go.RowKit

set_option maxRecDepth 100000 in
set_option maxHeartbeats 4000000 in
theorem rpart0 (x y z : Int) (w : World) : Calls Try.prog 41 #[vv x y z, .int .i64 0] w (Ret (.int .i64 x) w) := by
  go_enter Try.func41, Try.ntmps41
  go_upto_region 1 with (fail)
  obtain ⟨w0, hw0⟩ : ∃ w0 : World, w0 = w.alloc (.cells #[.int .i64 x, .int .i64 y, .int .i64 z] 23) := ⟨_, rfl⟩
  have hb0 : Hid (Below w.heap.size w w0) := by rw [hw0]; exact below_one w _
  have hv0 : Hid (V3 w0 w.heap.size x y z) := by rw [hw0]; exact ⟨by simp [go_sem], by simp [go_sem], by simp [go_sem]⟩
  rw [← hw0]
  clear hw0
  obtain ⟨k00, k01, k02⟩ := hv0.out.below (Below.refl _ _)
  go_wp2
  go_ret
  exact ⟨rfl, hb0.out⟩

set_option maxRecDepth 100000 in
set_option maxHeartbeats 4000000 in
theorem rpart1 (x y z : Int) (w : World) : Calls Try.prog 41 #[vv x y z, .int .i64 1] w (Ret (.int .i64 y) w) := by
  go_enter Try.func41, Try.ntmps41
  go_upto_region 1 with (fail)
  obtain ⟨w0, hw0⟩ : ∃ w0 : World, w0 = w.alloc (.cells #[.int .i64 x, .int .i64 y, .int .i64 z] 23) := ⟨_, rfl⟩
  have hb0 : Hid (Below w.heap.size w w0) := by rw [hw0]; exact below_one w _
  have hv0 : Hid (V3 w0 w.heap.size x y z) := by rw [hw0]; exact ⟨by simp [go_sem], by simp [go_sem], by simp [go_sem]⟩
  rw [← hw0]
  clear hw0
  obtain ⟨k00, k01, k02⟩ := hv0.out.below (Below.refl _ _)
  go_wp2
  go_ret
  exact ⟨rfl, hb0.out⟩

set_option maxRecDepth 100000 in
set_option maxHeartbeats 4000000 in
theorem rpart2 (x y z : Int) (w : World) : Calls Try.prog 41 #[vv x y z, .int .i64 2] w (Ret (.int .i64 z) w) := by
  go_enter Try.func41, Try.ntmps41
  go_upto_region 1 with (fail)
  obtain ⟨w0, hw0⟩ : ∃ w0 : World, w0 = w.alloc (.cells #[.int .i64 x, .int .i64 y, .int .i64 z] 23) := ⟨_, rfl⟩
  have hb0 : Hid (Below w.heap.size w w0) := by rw [hw0]; exact below_one w _
  have hv0 : Hid (V3 w0 w.heap.size x y z) := by rw [hw0]; exact ⟨by simp [go_sem], by simp [go_sem], by simp [go_sem]⟩
  rw [← hw0]
  clear hw0
  obtain ⟨k00, k01, k02⟩ := hv0.out.below (Below.refl _ _)
  go_wp2
  go_ret
  exact ⟨rfl, hb0.out⟩

set_option maxRecDepth 100000 in
set_option maxHeartbeats 4000000 in
theorem rwithin_0hi (m x y z : Int) (w : World) (hm : 0 ≤ m ∧ m ≤ 1099511627776) (px : m < x) :
    Calls Try.prog 39 #[vv x y z, .int .i64 m] w (Ret (.bool false) w) := by
  have hneg : IntKind.i64.wrap (-m) = -m := wrap_in (by omega)
  have P0 := Lib.hid (fun w => rpart0 x y z w)
  have P1 := Lib.hid (fun w => rpart1 x y z w)
  have P2 := Lib.hid (fun w => rpart2 x y z w)
  go_enter Try.func39, Try.ntmps39
  go_upto_region 1 with (fail)
  obtain ⟨w0, hw0⟩ : ∃ w0 : World, w0 = w.alloc (.cells #[.int .i64 x, .int .i64 y, .int .i64 z] 23) := ⟨_, rfl⟩
  have hb0 : Hid (Below w.heap.size w w0) := by rw [hw0]; exact below_one w _
  have hv0 : Hid (V3 w0 w.heap.size x y z) := by rw [hw0]; exact ⟨by simp [go_sem], by simp [go_sem], by simp [go_sem]⟩
  rw [← hw0]
  clear hw0
  have C := Lib.hid (Below.refl w0.heap.size w0)
  obtain ⟨k00, k01, k02⟩ := hv0.out
  go_wp2
  refine wp_loop_rounds 4 ?_
  rw [rounds_succ]
  go_wp2_with fail
  refine (P0.out _).mono ?_
  rintro e wa ⟨rfl, ba⟩
  have C := Lib.hid (chain C.out ba)
  clear ba k00 k01 k02
  obtain ⟨k00, k01, k02⟩ := hv0.out.below C.out
  go_wp2
  go_ret
  exact ⟨rfl, chain hb0.out C.out⟩

set_option maxRecDepth 100000 in
set_option maxHeartbeats 4000000 in
theorem rwithin_0lo (m x y z : Int) (w : World) (hm : 0 ≤ m ∧ m ≤ 1099511627776) (px : ¬ m < x) (nx : x < -m) :
    Calls Try.prog 39 #[vv x y z, .int .i64 m] w (Ret (.bool false) w) := by
  have hneg : IntKind.i64.wrap (-m) = -m := wrap_in (by omega)
  have P0 := Lib.hid (fun w => rpart0 x y z w)
  have P1 := Lib.hid (fun w => rpart1 x y z w)
  have P2 := Lib.hid (fun w => rpart2 x y z w)
  go_enter Try.func39, Try.ntmps39
  go_upto_region 1 with (fail)
  obtain ⟨w0, hw0⟩ : ∃ w0 : World, w0 = w.alloc (.cells #[.int .i64 x, .int .i64 y, .int .i64 z] 23) := ⟨_, rfl⟩
  have hb0 : Hid (Below w.heap.size w w0) := by rw [hw0]; exact below_one w _
  have hv0 : Hid (V3 w0 w.heap.size x y z) := by rw [hw0]; exact ⟨by simp [go_sem], by simp [go_sem], by simp [go_sem]⟩
  rw [← hw0]
  clear hw0
  have C := Lib.hid (Below.refl w0.heap.size w0)
  obtain ⟨k00, k01, k02⟩ := hv0.out
  go_wp2
  refine wp_loop_rounds 4 ?_
  rw [rounds_succ]
  go_wp2_with fail
  refine (P0.out _).mono ?_
  rintro e wa ⟨rfl, ba⟩
  have C := Lib.hid (chain C.out ba)
  clear ba k00 k01 k02
  obtain ⟨k00, k01, k02⟩ := hv0.out.below C.out
  go_wp2_with fail
  refine (P0.out _).mono ?_
  rintro e wa ⟨rfl, ba⟩
  have C := Lib.hid (chain C.out ba)
  clear ba k00 k01 k02
  obtain ⟨k00, k01, k02⟩ := hv0.out.below C.out
  go_wp2
  go_ret
  exact ⟨rfl, chain hb0.out C.out⟩

set_option maxRecDepth 100000 in
set_option maxHeartbeats 4000000 in
theorem rwithin_1hi (m x y z : Int) (w : World) (hm : 0 ≤ m ∧ m ≤ 1099511627776) (px : ¬ m < x) (nx : ¬ x < -m) (py : m < y) :
    Calls Try.prog 39 #[vv x y z, .int .i64 m] w (Ret (.bool false) w) := by
  have hneg : IntKind.i64.wrap (-m) = -m := wrap_in (by omega)
  have P0 := Lib.hid (fun w => rpart0 x y z w)
  have P1 := Lib.hid (fun w => rpart1 x y z w)
  have P2 := Lib.hid (fun w => rpart2 x y z w)
  go_enter Try.func39, Try.ntmps39
  go_upto_region 1 with (fail)
  obtain ⟨w0, hw0⟩ : ∃ w0 : World, w0 = w.alloc (.cells #[.int .i64 x, .int .i64 y, .int .i64 z] 23) := ⟨_, rfl⟩
  have hb0 : Hid (Below w.heap.size w w0) := by rw [hw0]; exact below_one w _
  have hv0 : Hid (V3 w0 w.heap.size x y z) := by rw [hw0]; exact ⟨by simp [go_sem], by simp [go_sem], by simp [go_sem]⟩
  rw [← hw0]
  clear hw0
  have C := Lib.hid (Below.refl w0.heap.size w0)
  obtain ⟨k00, k01, k02⟩ := hv0.out
  go_wp2
  refine wp_loop_rounds 4 ?_
  rw [rounds_succ]
  go_wp2_with fail
  refine (P0.out _).mono ?_
  rintro e wa ⟨rfl, ba⟩
  have C := Lib.hid (chain C.out ba)
  clear ba k00 k01 k02
  obtain ⟨k00, k01, k02⟩ := hv0.out.below C.out
  go_wp2_with fail
  refine (P0.out _).mono ?_
  rintro e wa ⟨rfl, ba⟩
  have C := Lib.hid (chain C.out ba)
  clear ba k00 k01 k02
  obtain ⟨k00, k01, k02⟩ := hv0.out.below C.out
  go_wp2
  rw [rounds_succ]
  go_wp2_with fail
  refine (P1.out _).mono ?_
  rintro e wa ⟨rfl, ba⟩
  have C := Lib.hid (chain C.out ba)
  clear ba k00 k01 k02
  obtain ⟨k00, k01, k02⟩ := hv0.out.below C.out
  go_wp2
  go_ret
  exact ⟨rfl, chain hb0.out C.out⟩

set_option maxRecDepth 100000 in
set_option maxHeartbeats 4000000 in
theorem rwithin_1lo (m x y z : Int) (w : World) (hm : 0 ≤ m ∧ m ≤ 1099511627776) (px : ¬ m < x) (nx : ¬ x < -m) (py : ¬ m < y) (ny : y < -m) :
    Calls Try.prog 39 #[vv x y z, .int .i64 m] w (Ret (.bool false) w) := by
  have hneg : IntKind.i64.wrap (-m) = -m := wrap_in (by omega)
  have P0 := Lib.hid (fun w => rpart0 x y z w)
  have P1 := Lib.hid (fun w => rpart1 x y z w)
  have P2 := Lib.hid (fun w => rpart2 x y z w)
  go_enter Try.func39, Try.ntmps39
  go_upto_region 1 with (fail)
  obtain ⟨w0, hw0⟩ : ∃ w0 : World, w0 = w.alloc (.cells #[.int .i64 x, .int .i64 y, .int .i64 z] 23) := ⟨_, rfl⟩
  have hb0 : Hid (Below w.heap.size w w0) := by rw [hw0]; exact below_one w _
  have hv0 : Hid (V3 w0 w.heap.size x y z) := by rw [hw0]; exact ⟨by simp [go_sem], by simp [go_sem], by simp [go_sem]⟩
  rw [← hw0]
  clear hw0
  have C := Lib.hid (Below.refl w0.heap.size w0)
  obtain ⟨k00, k01, k02⟩ := hv0.out
  go_wp2
  refine wp_loop_rounds 4 ?_
  rw [rounds_succ]
  go_wp2_with fail
  refine (P0.out _).mono ?_
  rintro e wa ⟨rfl, ba⟩
  have C := Lib.hid (chain C.out ba)
  clear ba k00 k01 k02
  obtain ⟨k00, k01, k02⟩ := hv0.out.below C.out
  go_wp2_with fail
  refine (P0.out _).mono ?_
  rintro e wa ⟨rfl, ba⟩
  have C := Lib.hid (chain C.out ba)
  clear ba k00 k01 k02
  obtain ⟨k00, k01, k02⟩ := hv0.out.below C.out
  go_wp2
  rw [rounds_succ]
  go_wp2_with fail
  refine (P1.out _).mono ?_
  rintro e wa ⟨rfl, ba⟩
  have C := Lib.hid (chain C.out ba)
  clear ba k00 k01 k02
  obtain ⟨k00, k01, k02⟩ := hv0.out.below C.out
  go_wp2_with fail
  refine (P1.out _).mono ?_
  rintro e wa ⟨rfl, ba⟩
  have C := Lib.hid (chain C.out ba)
  clear ba k00 k01 k02
  obtain ⟨k00, k01, k02⟩ := hv0.out.below C.out
  go_wp2
  go_ret
  exact ⟨rfl, chain hb0.out C.out⟩

set_option maxRecDepth 100000 in
set_option maxHeartbeats 4000000 in
theorem rwithin_2hi (m x y z : Int) (w : World) (hm : 0 ≤ m ∧ m ≤ 1099511627776) (px : ¬ m < x) (nx : ¬ x < -m) (py : ¬ m < y) (ny : ¬ y < -m) (pz : m < z) :
    Calls Try.prog 39 #[vv x y z, .int .i64 m] w (Ret (.bool false) w) := by
  have hneg : IntKind.i64.wrap (-m) = -m := wrap_in (by omega)
  have P0 := Lib.hid (fun w => rpart0 x y z w)
  have P1 := Lib.hid (fun w => rpart1 x y z w)
  have P2 := Lib.hid (fun w => rpart2 x y z w)
  go_enter Try.func39, Try.ntmps39
  go_upto_region 1 with (fail)
  obtain ⟨w0, hw0⟩ : ∃ w0 : World, w0 = w.alloc (.cells #[.int .i64 x, .int .i64 y, .int .i64 z] 23) := ⟨_, rfl⟩
  have hb0 : Hid (Below w.heap.size w w0) := by rw [hw0]; exact below_one w _
  have hv0 : Hid (V3 w0 w.heap.size x y z) := by rw [hw0]; exact ⟨by simp [go_sem], by simp [go_sem], by simp [go_sem]⟩
  rw [← hw0]
  clear hw0
  have C := Lib.hid (Below.refl w0.heap.size w0)
  obtain ⟨k00, k01, k02⟩ := hv0.out
  go_wp2
  refine wp_loop_rounds 4 ?_
  rw [rounds_succ]
  go_wp2_with fail
  refine (P0.out _).mono ?_
  rintro e wa ⟨rfl, ba⟩
  have C := Lib.hid (chain C.out ba)
  clear ba k00 k01 k02
  obtain ⟨k00, k01, k02⟩ := hv0.out.below C.out
  go_wp2_with fail
  refine (P0.out _).mono ?_
  rintro e wa ⟨rfl, ba⟩
  have C := Lib.hid (chain C.out ba)
  clear ba k00 k01 k02
  obtain ⟨k00, k01, k02⟩ := hv0.out.below C.out
  go_wp2
  rw [rounds_succ]
  go_wp2_with fail
  refine (P1.out _).mono ?_
  rintro e wa ⟨rfl, ba⟩
  have C := Lib.hid (chain C.out ba)
  clear ba k00 k01 k02
  obtain ⟨k00, k01, k02⟩ := hv0.out.below C.out
  go_wp2_with fail
  refine (P1.out _).mono ?_
  rintro e wa ⟨rfl, ba⟩
  have C := Lib.hid (chain C.out ba)
  clear ba k00 k01 k02
  obtain ⟨k00, k01, k02⟩ := hv0.out.below C.out
  go_wp2
  rw [rounds_succ]
  go_wp2_with fail
  refine (P2.out _).mono ?_
  rintro e wa ⟨rfl, ba⟩
  have C := Lib.hid (chain C.out ba)
  clear ba k00 k01 k02
  obtain ⟨k00, k01, k02⟩ := hv0.out.below C.out
  go_wp2
  go_ret
  exact ⟨rfl, chain hb0.out C.out⟩

set_option maxRecDepth 100000 in
set_option maxHeartbeats 4000000 in
theorem rwithin_2lo (m x y z : Int) (w : World) (hm : 0 ≤ m ∧ m ≤ 1099511627776) (px : ¬ m < x) (nx : ¬ x < -m) (py : ¬ m < y) (ny : ¬ y < -m) (pz : ¬ m < z) (nz : z < -m) :
    Calls Try.prog 39 #[vv x y z, .int .i64 m] w (Ret (.bool false) w) := by
  have hneg : IntKind.i64.wrap (-m) = -m := wrap_in (by omega)
  have P0 := Lib.hid (fun w => rpart0 x y z w)
  have P1 := Lib.hid (fun w => rpart1 x y z w)
  have P2 := Lib.hid (fun w => rpart2 x y z w)
  go_enter Try.func39, Try.ntmps39
  go_upto_region 1 with (fail)
  obtain ⟨w0, hw0⟩ : ∃ w0 : World, w0 = w.alloc (.cells #[.int .i64 x, .int .i64 y, .int .i64 z] 23) := ⟨_, rfl⟩
  have hb0 : Hid (Below w.heap.size w w0) := by rw [hw0]; exact below_one w _
  have hv0 : Hid (V3 w0 w.heap.size x y z) := by rw [hw0]; exact ⟨by simp [go_sem], by simp [go_sem], by simp [go_sem]⟩
  rw [← hw0]
  clear hw0
  have C := Lib.hid (Below.refl w0.heap.size w0)
  obtain ⟨k00, k01, k02⟩ := hv0.out
  go_wp2
  refine wp_loop_rounds 4 ?_
  rw [rounds_succ]
  go_wp2_with fail
  refine (P0.out _).mono ?_
  rintro e wa ⟨rfl, ba⟩
  have C := Lib.hid (chain C.out ba)
  clear ba k00 k01 k02
  obtain ⟨k00, k01, k02⟩ := hv0.out.below C.out
  go_wp2_with fail
  refine (P0.out _).mono ?_
  rintro e wa ⟨rfl, ba⟩
  have C := Lib.hid (chain C.out ba)
  clear ba k00 k01 k02
  obtain ⟨k00, k01, k02⟩ := hv0.out.below C.out
  go_wp2
  rw [rounds_succ]
  go_wp2_with fail
  refine (P1.out _).mono ?_
  rintro e wa ⟨rfl, ba⟩
  have C := Lib.hid (chain C.out ba)
  clear ba k00 k01 k02
  obtain ⟨k00, k01, k02⟩ := hv0.out.below C.out
  go_wp2_with fail
  refine (P1.out _).mono ?_
  rintro e wa ⟨rfl, ba⟩
  have C := Lib.hid (chain C.out ba)
  clear ba k00 k01 k02
  obtain ⟨k00, k01, k02⟩ := hv0.out.below C.out
  go_wp2
  rw [rounds_succ]
  go_wp2_with fail
  refine (P2.out _).mono ?_
  rintro e wa ⟨rfl, ba⟩
  have C := Lib.hid (chain C.out ba)
  clear ba k00 k01 k02
  obtain ⟨k00, k01, k02⟩ := hv0.out.below C.out
  go_wp2_with fail
  refine (P2.out _).mono ?_
  rintro e wa ⟨rfl, ba⟩
  have C := Lib.hid (chain C.out ba)
  clear ba k00 k01 k02
  obtain ⟨k00, k01, k02⟩ := hv0.out.below C.out
  go_wp2
  go_ret
  exact ⟨rfl, chain hb0.out C.out⟩

set_option maxRecDepth 100000 in
set_option maxHeartbeats 4000000 in
theorem rwithin_3 (m x y z : Int) (w : World) (hm : 0 ≤ m ∧ m ≤ 1099511627776) (px : ¬ m < x) (nx : ¬ x < -m) (py : ¬ m < y) (ny : ¬ y < -m) (pz : ¬ m < z) (nz : ¬ z < -m) :
    Calls Try.prog 39 #[vv x y z, .int .i64 m] w (Ret (.bool true) w) := by
  have hneg : IntKind.i64.wrap (-m) = -m := wrap_in (by omega)
  have P0 := Lib.hid (fun w => rpart0 x y z w)
  have P1 := Lib.hid (fun w => rpart1 x y z w)
  have P2 := Lib.hid (fun w => rpart2 x y z w)
  go_enter Try.func39, Try.ntmps39
  go_upto_region 1 with (fail)
  obtain ⟨w0, hw0⟩ : ∃ w0 : World, w0 = w.alloc (.cells #[.int .i64 x, .int .i64 y, .int .i64 z] 23) := ⟨_, rfl⟩
  have hb0 : Hid (Below w.heap.size w w0) := by rw [hw0]; exact below_one w _
  have hv0 : Hid (V3 w0 w.heap.size x y z) := by rw [hw0]; exact ⟨by simp [go_sem], by simp [go_sem], by simp [go_sem]⟩
  rw [← hw0]
  clear hw0
  have C := Lib.hid (Below.refl w0.heap.size w0)
  obtain ⟨k00, k01, k02⟩ := hv0.out
  go_wp2
  refine wp_loop_rounds 4 ?_
  rw [rounds_succ]
  go_wp2_with fail
  refine (P0.out _).mono ?_
  rintro e wa ⟨rfl, ba⟩
  have C := Lib.hid (chain C.out ba)
  clear ba k00 k01 k02
  obtain ⟨k00, k01, k02⟩ := hv0.out.below C.out
  go_wp2_with fail
  refine (P0.out _).mono ?_
  rintro e wa ⟨rfl, ba⟩
  have C := Lib.hid (chain C.out ba)
  clear ba k00 k01 k02
  obtain ⟨k00, k01, k02⟩ := hv0.out.below C.out
  go_wp2
  rw [rounds_succ]
  go_wp2_with fail
  refine (P1.out _).mono ?_
  rintro e wa ⟨rfl, ba⟩
  have C := Lib.hid (chain C.out ba)
  clear ba k00 k01 k02
  obtain ⟨k00, k01, k02⟩ := hv0.out.below C.out
  go_wp2_with fail
  refine (P1.out _).mono ?_
  rintro e wa ⟨rfl, ba⟩
  have C := Lib.hid (chain C.out ba)
  clear ba k00 k01 k02
  obtain ⟨k00, k01, k02⟩ := hv0.out.below C.out
  go_wp2
  rw [rounds_succ]
  go_wp2_with fail
  refine (P2.out _).mono ?_
  rintro e wa ⟨rfl, ba⟩
  have C := Lib.hid (chain C.out ba)
  clear ba k00 k01 k02
  obtain ⟨k00, k01, k02⟩ := hv0.out.below C.out
  go_wp2_with fail
  refine (P2.out _).mono ?_
  rintro e wa ⟨rfl, ba⟩
  have C := Lib.hid (chain C.out ba)
  clear ba k00 k01 k02
  obtain ⟨k00, k01, k02⟩ := hv0.out.below C.out
  go_wp2
  rw [rounds_succ]
  go_wp2
  go_ret
  exact ⟨rfl, chain hb0.out C.out⟩

theorem rwithin_any (m x y z : Int) (w : World) (hm : 0 ≤ m ∧ m ≤ 1099511627776) : Calls Try.prog 39 #[vv x y z, .int .i64 m] w (Ret (.bool (inV m x y z)) w) := by
  unfold inV
  by_cases b1 : m < x
  · rw [inB_hi b1]; exact rwithin_0hi m x y z w hm b1
  by_cases a1 : x < -m
  · rw [inB_lo a1]; exact rwithin_0lo m x y z w hm b1 a1
  rw [inB_ok a1 b1]
  by_cases b2 : m < y
  · rw [inB_hi b2]; exact rwithin_1hi m x y z w hm b1 a1 b2
  by_cases a2 : y < -m
  · rw [inB_lo a2]; exact rwithin_1lo m x y z w hm b1 a1 b2 a2
  rw [inB_ok a2 b2]
  by_cases b3 : m < z
  · rw [inB_hi b3]; exact rwithin_2hi m x y z w hm b1 a1 b2 a2 b3
  by_cases a3 : z < -m
  · rw [inB_lo a3]; exact rwithin_2lo m x y z w hm b1 a1 b2 a2 b3 a3
  rw [inB_ok a3 b3]
  exact rwithin_3 m x y z w hm b1 a1 b2 a2 b3 a3

set_option maxRecDepth 100000 in
set_option maxHeartbeats 4000000 in
theorem rValid_any (x y z : Int) (w : World) : Calls Try.prog 11 #[vv x y z] w (Ret (.bool (inV 16777216 x y z)) w) := by
  have HW := Lib.hid (fun w => rwithin_any 16777216 x y z w (by omega))
  generalize inV 16777216 x y z = r at *
  go_enter Try.func11, Try.ntmps11
  go_wp2_with fail
  obtain ⟨w0, hw0⟩ : ∃ w0 : World, w0 = w.alloc (.cells #[.int .i64 x, .int .i64 y, .int .i64 z] 23) := ⟨_, rfl⟩
  have hb0 : Hid (Below w.heap.size w w0) := by rw [hw0]; exact below_one w _
  have hv0 : Hid (V3 w0 w.heap.size x y z) := by rw [hw0]; exact ⟨by simp [go_sem], by simp [go_sem], by simp [go_sem]⟩
  rw [← hw0]
  clear hw0
  refine (HW.out _).mono ?_
  rintro e wa ⟨rfl, ba⟩
  have HB := Lib.hid (chain hb0.out ba)
  clear ba
  go_wp2
  go_ret
  exact ⟨rfl, HB.out⟩

set_option maxRecDepth 100000 in
set_option maxHeartbeats 4000000 in
theorem rPoint_any (x y z : Int) (w : World) : Calls Try.prog 13 #[vv x y z] w (Ret (.bool (inV 1048576 x y z)) w) := by
  have HW := Lib.hid (fun w => rwithin_any 1048576 x y z w (by omega))
  generalize inV 1048576 x y z = r at *
  go_enter Try.func13, Try.ntmps13
  go_wp2_with fail
  obtain ⟨w0, hw0⟩ : ∃ w0 : World, w0 = w.alloc (.cells #[.int .i64 x, .int .i64 y, .int .i64 z] 23) := ⟨_, rfl⟩
  have hb0 : Hid (Below w.heap.size w w0) := by rw [hw0]; exact below_one w _
  have hv0 : Hid (V3 w0 w.heap.size x y z) := by rw [hw0]; exact ⟨by simp [go_sem], by simp [go_sem], by simp [go_sem]⟩
  rw [← hw0]
  clear hw0
  refine (HW.out _).mono ?_
  rintro e wa ⟨rfl, ba⟩
  have HB := Lib.hid (chain hb0.out ba)
  clear ba
  go_wp2
  go_ret
  exact ⟨rfl, HB.out⟩

set_option maxRecDepth 100000 in
set_option maxHeartbeats 4000000 in
theorem rAdd_any (x1 x2 x3 y1 y2 y3 r1 r2 r3 : Int) (h1 : IntKind.i64.wrap (x1 + y1) = r1) (h2 : IntKind.i64.wrap (x2 + y2) = r2) (h3 : IntKind.i64.wrap (x3 + y3) = r3) (w : World) :
    Calls Try.prog 22 #[vv x1 x2 x3, vv y1 y2 y3] w (Ret (vv r1 r2 r3) w) := by
  go_enter Try.func22, Try.ntmps22
  go_upto_region 1 with (fail)
  obtain ⟨w0, hw0⟩ : ∃ w0 : World, w0 = ((w.alloc (.cells #[.int .i64 x1, .int .i64 x2, .int .i64 x3] 23)).alloc (.cells #[.int .i64 y1, .int .i64 y2, .int .i64 y3] 23)).alloc (.cells #[.int .i64 0, .int .i64 0, .int .i64 0] 23) := ⟨_, rfl⟩
  have hb0 : Hid (Below w.heap.size w w0) := by rw [hw0]; exact ((below_one w _).alloc (by simp) _).alloc (by simp; omega) _
  have hv0 : Hid (V3 w0 w.heap.size x1 x2 x3) := by rw [hw0]; exact ⟨by simp [go_sem], by simp [go_sem], by simp [go_sem]⟩
  have hv1 : Hid (V3 w0 (w.heap.size + 1) y1 y2 y3) := by rw [hw0]; exact ⟨by simp [go_sem], by simp [go_sem], by simp [go_sem]⟩
  have hv2 : Hid (V3 w0 (w.heap.size + 1 + 1) 0 0 0) := by rw [hw0]; exact ⟨by simp [go_sem], by simp [go_sem], by simp [go_sem]⟩
  have f20 : w0.frozen? ⟨w.heap.size + 1 + 1, 0, none⟩ = false := by rw [hw0]; simp [go_sem]
  have f21 : w0.frozen? ⟨w.heap.size + 1 + 1, 1, none⟩ = false := by rw [hw0]; simp [go_sem]
  have f22 : w0.frozen? ⟨w.heap.size + 1 + 1, 2, none⟩ = false := by rw [hw0]; simp [go_sem]
  have F2 := Lib.hid (And.intro f20 (And.intro f21 f22))
  clear f20 f21 f22
  rw [← hw0]
  clear hw0
  obtain ⟨k00, k01, k02⟩ := hv0.out.below (Below.refl _ _)
  obtain ⟨k10, k11, k12⟩ := hv1.out.below (Below.refl _ _)
  obtain ⟨k20, k21, k22⟩ := hv2.out.below (Below.refl _ _)
  have g20 := keepf (Below.refl _ _) hv2.out.1 F2.out.1
  have g21 := keepf (Below.refl _ _) hv2.out.2.1 F2.out.2.1
  have g22 := keepf (Below.refl _ _) hv2.out.2.2 F2.out.2.2
  have n02 : ¬ (w.heap.size = w.heap.size + 1 + 1) := by omega
  have n20 : ¬ (w.heap.size + 1 + 1 = w.heap.size) := by omega
  have n12 : ¬ (w.heap.size + 1 = w.heap.size + 1 + 1) := by omega
  have n21 : ¬ (w.heap.size + 1 + 1 = w.heap.size + 1) := by omega
  have HZ := Lib.hid (((hb0.out.setCell (p := ⟨w.heap.size + 1 + 1, 0, none⟩) (by simp; omega) (.int .i64 r1)).setCell (p := ⟨w.heap.size + 1 + 1, 1, none⟩) (by simp; omega) (.int .i64 r2)).setCell (p := ⟨w.heap.size + 1 + 1, 2, none⟩) (by simp; omega) (.int .i64 r3))
  go_wp2
  exact bodyPost_ret (v := vv r1 r2 r3) (by simp [results, Try.results22, go_sem, k20, k21, k22]) rfl ⟨rfl, HZ.out⟩

set_option maxRecDepth 100000 in
set_option maxHeartbeats 4000000 in
theorem rNeg_any (x1 x2 x3 r1 r2 r3 : Int) (h1 : IntKind.i64.wrap (-x1) = r1) (h2 : IntKind.i64.wrap (-x2) = r2) (h3 : IntKind.i64.wrap (-x3) = r3) (w : World) :
    Calls Try.prog 49 #[vv x1 x2 x3] w (Ret (vv r1 r2 r3) w) := by
  go_enter Try.func49, Try.ntmps49
  go_upto_region 1 with (fail)
  obtain ⟨w0, hw0⟩ : ∃ w0 : World, w0 = (w.alloc (.cells #[.int .i64 x1, .int .i64 x2, .int .i64 x3] 23)).alloc (.cells #[.int .i64 0, .int .i64 0, .int .i64 0] 23) := ⟨_, rfl⟩
  have hb0 : Hid (Below w.heap.size w w0) := by rw [hw0]; exact (below_one w _).alloc (by simp) _
  have hv0 : Hid (V3 w0 w.heap.size x1 x2 x3) := by rw [hw0]; exact ⟨by simp [go_sem], by simp [go_sem], by simp [go_sem]⟩
  have hv1 : Hid (V3 w0 (w.heap.size + 1) 0 0 0) := by rw [hw0]; exact ⟨by simp [go_sem], by simp [go_sem], by simp [go_sem]⟩
  have f10 : w0.frozen? ⟨w.heap.size + 1, 0, none⟩ = false := by rw [hw0]; simp [go_sem]
  have f11 : w0.frozen? ⟨w.heap.size + 1, 1, none⟩ = false := by rw [hw0]; simp [go_sem]
  have f12 : w0.frozen? ⟨w.heap.size + 1, 2, none⟩ = false := by rw [hw0]; simp [go_sem]
  have F1 := Lib.hid (And.intro f10 (And.intro f11 f12))
  clear f10 f11 f12
  rw [← hw0]
  clear hw0
  obtain ⟨k00, k01, k02⟩ := hv0.out.below (Below.refl _ _)
  obtain ⟨k10, k11, k12⟩ := hv1.out.below (Below.refl _ _)
  have g10 := keepf (Below.refl _ _) hv1.out.1 F1.out.1
  have g11 := keepf (Below.refl _ _) hv1.out.2.1 F1.out.2.1
  have g12 := keepf (Below.refl _ _) hv1.out.2.2 F1.out.2.2
  have n01 : ¬ (w.heap.size = w.heap.size + 1) := by omega
  have n10 : ¬ (w.heap.size + 1 = w.heap.size) := by omega
  have HZ := Lib.hid (((hb0.out.setCell (p := ⟨w.heap.size + 1, 0, none⟩) (by simp) (.int .i64 r1)).setCell (p := ⟨w.heap.size + 1, 1, none⟩) (by simp) (.int .i64 r2)).setCell (p := ⟨w.heap.size + 1, 2, none⟩) (by simp) (.int .i64 r3))
  go_wp2
  exact bodyPost_ret (v := vv r1 r2 r3) (by simp [results, Try.results49, go_sem, k10, k11, k12]) rfl ⟨rfl, HZ.out⟩

set_option maxRecDepth 100000 in
set_option maxHeartbeats 4000000 in
theorem rSub_way (x1 x2 x3 y1 y2 y3 n1_ n2_ n3_ r1 r2 r3 : Int) (H1 : ∀ w, Calls Try.prog 49 #[vv y1 y2 y3] w (Ret (vv n1_ n2_ n3_) w)) (H2 : ∀ w, Calls Try.prog 22 #[vv x1 x2 x3, vv n1_ n2_ n3_] w (Ret (vv r1 r2 r3) w)) (w : World) :
    Calls Try.prog 23 #[vv x1 x2 x3, vv y1 y2 y3] w (Ret (vv r1 r2 r3) w) := by
  have H1 := Lib.hid H1
  have H2 := Lib.hid H2
  go_enter Try.func23, Try.ntmps23
  go_upto_region 1 with (fail)
  obtain ⟨w0, hw0⟩ : ∃ w0 : World, w0 = ((w.alloc (.cells #[.int .i64 x1, .int .i64 x2, .int .i64 x3] 23)).alloc (.cells #[.int .i64 y1, .int .i64 y2, .int .i64 y3] 23)).alloc (.cells #[.int .i64 0, .int .i64 0, .int .i64 0] 23) := ⟨_, rfl⟩
  have hb0 : Hid (Below w.heap.size w w0) := by rw [hw0]; exact ((below_one w _).alloc (by simp) _).alloc (by simp; omega) _
  have hv0 : Hid (V3 w0 w.heap.size x1 x2 x3) := by rw [hw0]; exact ⟨by simp [go_sem], by simp [go_sem], by simp [go_sem]⟩
  have hv1 : Hid (V3 w0 (w.heap.size + 1) y1 y2 y3) := by rw [hw0]; exact ⟨by simp [go_sem], by simp [go_sem], by simp [go_sem]⟩
  have hv2 : Hid (V3 w0 (w.heap.size + 1 + 1) 0 0 0) := by rw [hw0]; exact ⟨by simp [go_sem], by simp [go_sem], by simp [go_sem]⟩
  have f20 : w0.frozen? ⟨w.heap.size + 1 + 1, 0, none⟩ = false := by rw [hw0]; simp [go_sem]
  have f21 : w0.frozen? ⟨w.heap.size + 1 + 1, 1, none⟩ = false := by rw [hw0]; simp [go_sem]
  have f22 : w0.frozen? ⟨w.heap.size + 1 + 1, 2, none⟩ = false := by rw [hw0]; simp [go_sem]
  have F2 := Lib.hid (And.intro f20 (And.intro f21 f22))
  clear f20 f21 f22
  rw [← hw0]
  clear hw0
  obtain ⟨k00, k01, k02⟩ := hv0.out.below (Below.refl _ _)
  obtain ⟨k10, k11, k12⟩ := hv1.out.below (Below.refl _ _)
  obtain ⟨k20, k21, k22⟩ := hv2.out.below (Below.refl _ _)
  have g20 := keepf (Below.refl _ _) hv2.out.1 F2.out.1
  have g21 := keepf (Below.refl _ _) hv2.out.2.1 F2.out.2.1
  have g22 := keepf (Below.refl _ _) hv2.out.2.2 F2.out.2.2
  have n02 : ¬ (w.heap.size = w.heap.size + 1 + 1) := by omega
  have n20 : ¬ (w.heap.size + 1 + 1 = w.heap.size) := by omega
  have n12 : ¬ (w.heap.size + 1 = w.heap.size + 1 + 1) := by omega
  have n21 : ¬ (w.heap.size + 1 + 1 = w.heap.size + 1) := by omega
  have C0 := Lib.hid (Below.refl w0.heap.size w0)
  go_region_held3 (fun W' => W'.cell? ⟨w.heap.size, 0, none⟩ = some (.int .i64 x1) ∧ W'.cell? ⟨w.heap.size, 1, none⟩ = some (.int .i64 x2) ∧ W'.cell? ⟨w.heap.size, 2, none⟩ = some (.int .i64 x3) ∧ W'.cell? ⟨w.heap.size + 1, 0, none⟩ = some (.int .i64 y1) ∧ W'.cell? ⟨w.heap.size + 1, 1, none⟩ = some (.int .i64 y2) ∧ W'.cell? ⟨w.heap.size + 1, 2, none⟩ = some (.int .i64 y3)) (go_keep)
    (first
      | (go_at_call 49; (with_reducible refine (H1.out _).mono ?_); rintro e w1 ⟨rfl, b1⟩; (try (have b1 := undrew b1)); have C1 := Lib.hid (chain C0.out b1); clear b1; obtain ⟨p00, p01, p02⟩ := hv0.out.below C1.out; obtain ⟨p10, p11, p12⟩ := hv1.out.below C1.out; obtain ⟨p20, p21, p22⟩ := hv2.out.below C1.out; have g20 := keepf C1.out hv2.out.1 F2.out.1; have g21 := keepf C1.out hv2.out.2.1 F2.out.2.1; have g22 := keepf C1.out hv2.out.2.2 F2.out.2.2)
      | (go_at_call 22; (with_reducible refine (H2.out _).mono ?_); rintro e w2 ⟨rfl, b2⟩; (try (have b2 := undrew b2)); have C2 := Lib.hid (chain C1.out b2); clear b2; obtain ⟨p00, p01, p02⟩ := hv0.out.below C2.out; obtain ⟨p10, p11, p12⟩ := hv1.out.below C2.out; obtain ⟨p20, p21, p22⟩ := hv2.out.below C2.out; have g20 := keepf C2.out hv2.out.1 F2.out.1; have g21 := keepf C2.out hv2.out.2.1 F2.out.2.1; have g22 := keepf C2.out hv2.out.2.2 F2.out.2.2)
      | fail)
  have HB := Lib.hid (chain hb0.out C2.out)
  have HZ := Lib.hid (((HB.out.setCell (p := ⟨w.heap.size + 1 + 1, 0, none⟩) (by simp; omega) (.int .i64 r1)).setCell (p := ⟨w.heap.size + 1 + 1, 1, none⟩) (by simp; omega) (.int .i64 r2)).setCell (p := ⟨w.heap.size + 1 + 1, 2, none⟩) (by simp; omega) (.int .i64 r3))
  go_wp2
  exact bodyPost_ret (v := vv r1 r2 r3) (by simp [results, Try.results23, go_sem, p20, p21, p22]) rfl ⟨rfl, by first | exact HZ.out | exact HZ.out.drew⟩
end Go.Proofs.Ytdicbeaocedkmaa
