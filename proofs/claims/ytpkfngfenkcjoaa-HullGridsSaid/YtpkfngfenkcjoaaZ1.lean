/- What the theorem leans on, part 1: Vn, Vk, Vp, Vq, Vo, Vr. -/
import Derived.Test.YtpkfngfenkcjoaaZ0
import Derived.Deep.DeepCutAuto

/- The reference's part, within, Valid, Point, Add, Neg, Sub. -/
set_option linter.all false
namespace Go.Proofs.Ytpkfngfenkcjoaa
open Go.RowKit

set_option maxRecDepth 100000 in
set_option maxHeartbeats 4000000 in
theorem rpart0 (x y z : Int) (w : World) : Calls Try.prog 55 #[vv x y z, .int .i64 0] w (Ret (.int .i64 x) w) := by
  go_enter Try.func55, Try.ntmps55
  go_upto_region 1 with (fail)
  obtain ⟨w0, hw0⟩ : ∃ w0 : World, w0 = w.alloc (.cells #[.int .i64 x, .int .i64 y, .int .i64 z] 24) := ⟨_, rfl⟩
  have hb0 : Hid (Below w.heap.size w w0) := by rw [hw0]; exact below_one w _
  have hv0 : Hid (V3 w0 w.heap.size x y z) := by rw [hw0]; exact ⟨by simp [go_sem], by simp [go_sem], by simp [go_sem]⟩
  rw [← hw0]
  clear hw0
  obtain ⟨k00, k01, k02⟩ := hv0.out.below (Below.refl _ _)
  go_wp2
  go_ret
  exact ⟨rfl, hb0.out⟩

set_option maxRecDepth 100000 in
set_option maxHeartbeats 4000000 in
theorem rpart1 (x y z : Int) (w : World) : Calls Try.prog 55 #[vv x y z, .int .i64 1] w (Ret (.int .i64 y) w) := by
  go_enter Try.func55, Try.ntmps55
  go_upto_region 1 with (fail)
  obtain ⟨w0, hw0⟩ : ∃ w0 : World, w0 = w.alloc (.cells #[.int .i64 x, .int .i64 y, .int .i64 z] 24) := ⟨_, rfl⟩
  have hb0 : Hid (Below w.heap.size w w0) := by rw [hw0]; exact below_one w _
  have hv0 : Hid (V3 w0 w.heap.size x y z) := by rw [hw0]; exact ⟨by simp [go_sem], by simp [go_sem], by simp [go_sem]⟩
  rw [← hw0]
  clear hw0
  obtain ⟨k00, k01, k02⟩ := hv0.out.below (Below.refl _ _)
  go_wp2
  go_ret
  exact ⟨rfl, hb0.out⟩

set_option maxRecDepth 100000 in
set_option maxHeartbeats 4000000 in
theorem rpart2 (x y z : Int) (w : World) : Calls Try.prog 55 #[vv x y z, .int .i64 2] w (Ret (.int .i64 z) w) := by
  go_enter Try.func55, Try.ntmps55
  go_upto_region 1 with (fail)
  obtain ⟨w0, hw0⟩ : ∃ w0 : World, w0 = w.alloc (.cells #[.int .i64 x, .int .i64 y, .int .i64 z] 24) := ⟨_, rfl⟩
  have hb0 : Hid (Below w.heap.size w w0) := by rw [hw0]; exact below_one w _
  have hv0 : Hid (V3 w0 w.heap.size x y z) := by rw [hw0]; exact ⟨by simp [go_sem], by simp [go_sem], by simp [go_sem]⟩
  rw [← hw0]
  clear hw0
  obtain ⟨k00, k01, k02⟩ := hv0.out.below (Below.refl _ _)
  go_wp2
  go_ret
  exact ⟨rfl, hb0.out⟩

set_option maxRecDepth 100000 in
set_option maxHeartbeats 4000000 in
theorem rwithin_0hi (m x y z : Int) (w : World) (hm : 0 ≤ m ∧ m ≤ 1099511627776) (px : m < x) :
    Calls Try.prog 31 #[vv x y z, .int .i64 m] w (Ret (.bool false) w) := by
  have hneg : IntKind.i64.wrap (-m) = -m := wrap_in (by omega)
  have P0 := Lib.hid (fun w => rpart0 x y z w)
  have P1 := Lib.hid (fun w => rpart1 x y z w)
  have P2 := Lib.hid (fun w => rpart2 x y z w)
  go_enter Try.func31, Try.ntmps31
  go_upto_region 1 with (fail)
  obtain ⟨w0, hw0⟩ : ∃ w0 : World, w0 = w.alloc (.cells #[.int .i64 x, .int .i64 y, .int .i64 z] 24) := ⟨_, rfl⟩
  have hb0 : Hid (Below w.heap.size w w0) := by rw [hw0]; exact below_one w _
  have hv0 : Hid (V3 w0 w.heap.size x y z) := by rw [hw0]; exact ⟨by simp [go_sem], by simp [go_sem], by simp [go_sem]⟩
  rw [← hw0]
  clear hw0
  have C := Lib.hid (Below.refl w0.heap.size w0)
  obtain ⟨k00, k01, k02⟩ := hv0.out
  go_wp2
  refine wp_loop_rounds 4 ?_
  rw [rounds_succ]
  go_wp2_with fail
  refine (P0.out _).mono ?_
  rintro e wa ⟨rfl, ba⟩
  have C := Lib.hid (chain C.out ba)
  clear ba k00 k01 k02
  obtain ⟨k00, k01, k02⟩ := hv0.out.below C.out
  go_wp2
  go_ret
  exact ⟨rfl, chain hb0.out C.out⟩

set_option maxRecDepth 100000 in
set_option maxHeartbeats 4000000 in
theorem rwithin_0lo (m x y z : Int) (w : World) (hm : 0 ≤ m ∧ m ≤ 1099511627776) (px : ¬ m < x) (nx : x < -m) :
    Calls Try.prog 31 #[vv x y z, .int .i64 m] w (Ret (.bool false) w) := by
  have hneg : IntKind.i64.wrap (-m) = -m := wrap_in (by omega)
  have P0 := Lib.hid (fun w => rpart0 x y z w)
  have P1 := Lib.hid (fun w => rpart1 x y z w)
  have P2 := Lib.hid (fun w => rpart2 x y z w)
  go_enter Try.func31, Try.ntmps31
  go_upto_region 1 with (fail)
  obtain ⟨w0, hw0⟩ : ∃ w0 : World, w0 = w.alloc (.cells #[.int .i64 x, .int .i64 y, .int .i64 z] 24) := ⟨_, rfl⟩
  have hb0 : Hid (Below w.heap.size w w0) := by rw [hw0]; exact below_one w _
  have hv0 : Hid (V3 w0 w.heap.size x y z) := by rw [hw0]; exact ⟨by simp [go_sem], by simp [go_sem], by simp [go_sem]⟩
  rw [← hw0]
  clear hw0
  have C := Lib.hid (Below.refl w0.heap.size w0)
  obtain ⟨k00, k01, k02⟩ := hv0.out
  go_wp2
  refine wp_loop_rounds 4 ?_
  rw [rounds_succ]
  go_wp2_with fail
  refine (P0.out _).mono ?_
  rintro e wa ⟨rfl, ba⟩
  have C := Lib.hid (chain C.out ba)
  clear ba k00 k01 k02
  obtain ⟨k00, k01, k02⟩ := hv0.out.below C.out
  go_wp2_with fail
  refine (P0.out _).mono ?_
  rintro e wa ⟨rfl, ba⟩
  have C := Lib.hid (chain C.out ba)
  clear ba k00 k01 k02
  obtain ⟨k00, k01, k02⟩ := hv0.out.below C.out
  go_wp2
  go_ret
  exact ⟨rfl, chain hb0.out C.out⟩

set_option maxRecDepth 100000 in
set_option maxHeartbeats 4000000 in
theorem rwithin_1hi (m x y z : Int) (w : World) (hm : 0 ≤ m ∧ m ≤ 1099511627776) (px : ¬ m < x) (nx : ¬ x < -m) (py : m < y) :
    Calls Try.prog 31 #[vv x y z, .int .i64 m] w (Ret (.bool false) w) := by
  have hneg : IntKind.i64.wrap (-m) = -m := wrap_in (by omega)
  have P0 := Lib.hid (fun w => rpart0 x y z w)
  have P1 := Lib.hid (fun w => rpart1 x y z w)
  have P2 := Lib.hid (fun w => rpart2 x y z w)
  go_enter Try.func31, Try.ntmps31
  go_upto_region 1 with (fail)
  obtain ⟨w0, hw0⟩ : ∃ w0 : World, w0 = w.alloc (.cells #[.int .i64 x, .int .i64 y, .int .i64 z] 24) := ⟨_, rfl⟩
  have hb0 : Hid (Below w.heap.size w w0) := by rw [hw0]; exact below_one w _
  have hv0 : Hid (V3 w0 w.heap.size x y z) := by rw [hw0]; exact ⟨by simp [go_sem], by simp [go_sem], by simp [go_sem]⟩
  rw [← hw0]
  clear hw0
  have C := Lib.hid (Below.refl w0.heap.size w0)
  obtain ⟨k00, k01, k02⟩ := hv0.out
  go_wp2
  refine wp_loop_rounds 4 ?_
  rw [rounds_succ]
  go_wp2_with fail
  refine (P0.out _).mono ?_
  rintro e wa ⟨rfl, ba⟩
  have C := Lib.hid (chain C.out ba)
  clear ba k00 k01 k02
  obtain ⟨k00, k01, k02⟩ := hv0.out.below C.out
  go_wp2_with fail
  refine (P0.out _).mono ?_
  rintro e wa ⟨rfl, ba⟩
  have C := Lib.hid (chain C.out ba)
  clear ba k00 k01 k02
  obtain ⟨k00, k01, k02⟩ := hv0.out.below C.out
  go_wp2
  rw [rounds_succ]
  go_wp2_with fail
  refine (P1.out _).mono ?_
  rintro e wa ⟨rfl, ba⟩
  have C := Lib.hid (chain C.out ba)
  clear ba k00 k01 k02
  obtain ⟨k00, k01, k02⟩ := hv0.out.below C.out
  go_wp2
  go_ret
  exact ⟨rfl, chain hb0.out C.out⟩

set_option maxRecDepth 100000 in
set_option maxHeartbeats 4000000 in
theorem rwithin_1lo (m x y z : Int) (w : World) (hm : 0 ≤ m ∧ m ≤ 1099511627776) (px : ¬ m < x) (nx : ¬ x < -m) (py : ¬ m < y) (ny : y < -m) :
    Calls Try.prog 31 #[vv x y z, .int .i64 m] w (Ret (.bool false) w) := by
  have hneg : IntKind.i64.wrap (-m) = -m := wrap_in (by omega)
  have P0 := Lib.hid (fun w => rpart0 x y z w)
  have P1 := Lib.hid (fun w => rpart1 x y z w)
  have P2 := Lib.hid (fun w => rpart2 x y z w)
  go_enter Try.func31, Try.ntmps31
  go_upto_region 1 with (fail)
  obtain ⟨w0, hw0⟩ : ∃ w0 : World, w0 = w.alloc (.cells #[.int .i64 x, .int .i64 y, .int .i64 z] 24) := ⟨_, rfl⟩
  have hb0 : Hid (Below w.heap.size w w0) := by rw [hw0]; exact below_one w _
  have hv0 : Hid (V3 w0 w.heap.size x y z) := by rw [hw0]; exact ⟨by simp [go_sem], by simp [go_sem], by simp [go_sem]⟩
  rw [← hw0]
  clear hw0
  have C := Lib.hid (Below.refl w0.heap.size w0)
  obtain ⟨k00, k01, k02⟩ := hv0.out
  go_wp2
  refine wp_loop_rounds 4 ?_
  rw [rounds_succ]
  go_wp2_with fail
  refine (P0.out _).mono ?_
  rintro e wa ⟨rfl, ba⟩
  have C := Lib.hid (chain C.out ba)
  clear ba k00 k01 k02
  obtain ⟨k00, k01, k02⟩ := hv0.out.below C.out
  go_wp2_with fail
  refine (P0.out _).mono ?_
  rintro e wa ⟨rfl, ba⟩
  have C := Lib.hid (chain C.out ba)
  clear ba k00 k01 k02
  obtain ⟨k00, k01, k02⟩ := hv0.out.below C.out
  go_wp2
  rw [rounds_succ]
  go_wp2_with fail
  refine (P1.out _).mono ?_
  rintro e wa ⟨rfl, ba⟩
  have C := Lib.hid (chain C.out ba)
  clear ba k00 k01 k02
  obtain ⟨k00, k01, k02⟩ := hv0.out.below C.out
  go_wp2_with fail
  refine (P1.out _).mono ?_
  rintro e wa ⟨rfl, ba⟩
  have C := Lib.hid (chain C.out ba)
  clear ba k00 k01 k02
  obtain ⟨k00, k01, k02⟩ := hv0.out.below C.out
  go_wp2
  go_ret
  exact ⟨rfl, chain hb0.out C.out⟩

set_option maxRecDepth 100000 in
set_option maxHeartbeats 4000000 in
theorem rwithin_2hi (m x y z : Int) (w : World) (hm : 0 ≤ m ∧ m ≤ 1099511627776) (px : ¬ m < x) (nx : ¬ x < -m) (py : ¬ m < y) (ny : ¬ y < -m) (pz : m < z) :
    Calls Try.prog 31 #[vv x y z, .int .i64 m] w (Ret (.bool false) w) := by
  have hneg : IntKind.i64.wrap (-m) = -m := wrap_in (by omega)
  have P0 := Lib.hid (fun w => rpart0 x y z w)
  have P1 := Lib.hid (fun w => rpart1 x y z w)
  have P2 := Lib.hid (fun w => rpart2 x y z w)
  go_enter Try.func31, Try.ntmps31
  go_upto_region 1 with (fail)
  obtain ⟨w0, hw0⟩ : ∃ w0 : World, w0 = w.alloc (.cells #[.int .i64 x, .int .i64 y, .int .i64 z] 24) := ⟨_, rfl⟩
  have hb0 : Hid (Below w.heap.size w w0) := by rw [hw0]; exact below_one w _
  have hv0 : Hid (V3 w0 w.heap.size x y z) := by rw [hw0]; exact ⟨by simp [go_sem], by simp [go_sem], by simp [go_sem]⟩
  rw [← hw0]
  clear hw0
  have C := Lib.hid (Below.refl w0.heap.size w0)
  obtain ⟨k00, k01, k02⟩ := hv0.out
  go_wp2
  refine wp_loop_rounds 4 ?_
  rw [rounds_succ]
  go_wp2_with fail
  refine (P0.out _).mono ?_
  rintro e wa ⟨rfl, ba⟩
  have C := Lib.hid (chain C.out ba)
  clear ba k00 k01 k02
  obtain ⟨k00, k01, k02⟩ := hv0.out.below C.out
  go_wp2_with fail
  refine (P0.out _).mono ?_
  rintro e wa ⟨rfl, ba⟩
  have C := Lib.hid (chain C.out ba)
  clear ba k00 k01 k02
  obtain ⟨k00, k01, k02⟩ := hv0.out.below C.out
  go_wp2
  rw [rounds_succ]
  go_wp2_with fail
  refine (P1.out _).mono ?_
  rintro e wa ⟨rfl, ba⟩
  have C := Lib.hid (chain C.out ba)
  clear ba k00 k01 k02
  obtain ⟨k00, k01, k02⟩ := hv0.out.below C.out
  go_wp2_with fail
  refine (P1.out _).mono ?_
  rintro e wa ⟨rfl, ba⟩
  have C := Lib.hid (chain C.out ba)
  clear ba k00 k01 k02
  obtain ⟨k00, k01, k02⟩ := hv0.out.below C.out
  go_wp2
  rw [rounds_succ]
  go_wp2_with fail
  refine (P2.out _).mono ?_
  rintro e wa ⟨rfl, ba⟩
  have C := Lib.hid (chain C.out ba)
  clear ba k00 k01 k02
  obtain ⟨k00, k01, k02⟩ := hv0.out.below C.out
  go_wp2
  go_ret
  exact ⟨rfl, chain hb0.out C.out⟩

set_option maxRecDepth 100000 in
set_option maxHeartbeats 4000000 in
theorem rwithin_2lo (m x y z : Int) (w : World) (hm : 0 ≤ m ∧ m ≤ 1099511627776) (px : ¬ m < x) (nx : ¬ x < -m) (py : ¬ m < y) (ny : ¬ y < -m) (pz : ¬ m < z) (nz : z < -m) :
    Calls Try.prog 31 #[vv x y z, .int .i64 m] w (Ret (.bool false) w) := by
  have hneg : IntKind.i64.wrap (-m) = -m := wrap_in (by omega)
  have P0 := Lib.hid (fun w => rpart0 x y z w)
  have P1 := Lib.hid (fun w => rpart1 x y z w)
  have P2 := Lib.hid (fun w => rpart2 x y z w)
  go_enter Try.func31, Try.ntmps31
  go_upto_region 1 with (fail)
  obtain ⟨w0, hw0⟩ : ∃ w0 : World, w0 = w.alloc (.cells #[.int .i64 x, .int .i64 y, .int .i64 z] 24) := ⟨_, rfl⟩
  have hb0 : Hid (Below w.heap.size w w0) := by rw [hw0]; exact below_one w _
  have hv0 : Hid (V3 w0 w.heap.size x y z) := by rw [hw0]; exact ⟨by simp [go_sem], by simp [go_sem], by simp [go_sem]⟩
  rw [← hw0]
  clear hw0
  have C := Lib.hid (Below.refl w0.heap.size w0)
  obtain ⟨k00, k01, k02⟩ := hv0.out
  go_wp2
  refine wp_loop_rounds 4 ?_
  rw [rounds_succ]
  go_wp2_with fail
  refine (P0.out _).mono ?_
  rintro e wa ⟨rfl, ba⟩
  have C := Lib.hid (chain C.out ba)
  clear ba k00 k01 k02
  obtain ⟨k00, k01, k02⟩ := hv0.out.below C.out
  go_wp2_with fail
  refine (P0.out _).mono ?_
  rintro e wa ⟨rfl, ba⟩
  have C := Lib.hid (chain C.out ba)
  clear ba k00 k01 k02
  obtain ⟨k00, k01, k02⟩ := hv0.out.below C.out
  go_wp2
  rw [rounds_succ]
  go_wp2_with fail
  refine (P1.out _).mono ?_
  rintro e wa ⟨rfl, ba⟩
  have C := Lib.hid (chain C.out ba)
  clear ba k00 k01 k02
  obtain ⟨k00, k01, k02⟩ := hv0.out.below C.out
  go_wp2_with fail
  refine (P1.out _).mono ?_
  rintro e wa ⟨rfl, ba⟩
  have C := Lib.hid (chain C.out ba)
  clear ba k00 k01 k02
  obtain ⟨k00, k01, k02⟩ := hv0.out.below C.out
  go_wp2
  rw [rounds_succ]
  go_wp2_with fail
  refine (P2.out _).mono ?_
  rintro e wa ⟨rfl, ba⟩
  have C := Lib.hid (chain C.out ba)
  clear ba k00 k01 k02
  obtain ⟨k00, k01, k02⟩ := hv0.out.below C.out
  go_wp2_with fail
  refine (P2.out _).mono ?_
  rintro e wa ⟨rfl, ba⟩
  have C := Lib.hid (chain C.out ba)
  clear ba k00 k01 k02
  obtain ⟨k00, k01, k02⟩ := hv0.out.below C.out
  go_wp2
  go_ret
  exact ⟨rfl, chain hb0.out C.out⟩

set_option maxRecDepth 100000 in
set_option maxHeartbeats 4000000 in
theorem rwithin_3 (m x y z : Int) (w : World) (hm : 0 ≤ m ∧ m ≤ 1099511627776) (px : ¬ m < x) (nx : ¬ x < -m) (py : ¬ m < y) (ny : ¬ y < -m) (pz : ¬ m < z) (nz : ¬ z < -m) :
    Calls Try.prog 31 #[vv x y z, .int .i64 m] w (Ret (.bool true) w) := by
  have hneg : IntKind.i64.wrap (-m) = -m := wrap_in (by omega)
  have P0 := Lib.hid (fun w => rpart0 x y z w)
  have P1 := Lib.hid (fun w => rpart1 x y z w)
  have P2 := Lib.hid (fun w => rpart2 x y z w)
  go_enter Try.func31, Try.ntmps31
  go_upto_region 1 with (fail)
  obtain ⟨w0, hw0⟩ : ∃ w0 : World, w0 = w.alloc (.cells #[.int .i64 x, .int .i64 y, .int .i64 z] 24) := ⟨_, rfl⟩
  have hb0 : Hid (Below w.heap.size w w0) := by rw [hw0]; exact below_one w _
  have hv0 : Hid (V3 w0 w.heap.size x y z) := by rw [hw0]; exact ⟨by simp [go_sem], by simp [go_sem], by simp [go_sem]⟩
  rw [← hw0]
  clear hw0
  have C := Lib.hid (Below.refl w0.heap.size w0)
  obtain ⟨k00, k01, k02⟩ := hv0.out
  go_wp2
  refine wp_loop_rounds 4 ?_
  rw [rounds_succ]
  go_wp2_with fail
  refine (P0.out _).mono ?_
  rintro e wa ⟨rfl, ba⟩
  have C := Lib.hid (chain C.out ba)
  clear ba k00 k01 k02
  obtain ⟨k00, k01, k02⟩ := hv0.out.below C.out
  go_wp2_with fail
  refine (P0.out _).mono ?_
  rintro e wa ⟨rfl, ba⟩
  have C := Lib.hid (chain C.out ba)
  clear ba k00 k01 k02
  obtain ⟨k00, k01, k02⟩ := hv0.out.below C.out
  go_wp2
  rw [rounds_succ]
  go_wp2_with fail
  refine (P1.out _).mono ?_
  rintro e wa ⟨rfl, ba⟩
  have C := Lib.hid (chain C.out ba)
  clear ba k00 k01 k02
  obtain ⟨k00, k01, k02⟩ := hv0.out.below C.out
  go_wp2_with fail
  refine (P1.out _).mono ?_
  rintro e wa ⟨rfl, ba⟩
  have C := Lib.hid (chain C.out ba)
  clear ba k00 k01 k02
  obtain ⟨k00, k01, k02⟩ := hv0.out.below C.out
  go_wp2
  rw [rounds_succ]
  go_wp2_with fail
  refine (P2.out _).mono ?_
  rintro e wa ⟨rfl, ba⟩
  have C := Lib.hid (chain C.out ba)
  clear ba k00 k01 k02
  obtain ⟨k00, k01, k02⟩ := hv0.out.below C.out
  go_wp2_with fail
  refine (P2.out _).mono ?_
  rintro e wa ⟨rfl, ba⟩
  have C := Lib.hid (chain C.out ba)
  clear ba k00 k01 k02
  obtain ⟨k00, k01, k02⟩ := hv0.out.below C.out
  go_wp2
  rw [rounds_succ]
  go_wp2
  go_ret
  exact ⟨rfl, chain hb0.out C.out⟩

theorem rwithin_any (m x y z : Int) (w : World) (hm : 0 ≤ m ∧ m ≤ 1099511627776) : Calls Try.prog 31 #[vv x y z, .int .i64 m] w (Ret (.bool (inV m x y z)) w) := by
  unfold inV
  by_cases b1 : m < x
  · rw [inB_hi b1]; exact rwithin_0hi m x y z w hm b1
  by_cases a1 : x < -m
  · rw [inB_lo a1]; exact rwithin_0lo m x y z w hm b1 a1
  rw [inB_ok a1 b1]
  by_cases b2 : m < y
  · rw [inB_hi b2]; exact rwithin_1hi m x y z w hm b1 a1 b2
  by_cases a2 : y < -m
  · rw [inB_lo a2]; exact rwithin_1lo m x y z w hm b1 a1 b2 a2
  rw [inB_ok a2 b2]
  by_cases b3 : m < z
  · rw [inB_hi b3]; exact rwithin_2hi m x y z w hm b1 a1 b2 a2 b3
  by_cases a3 : z < -m
  · rw [inB_lo a3]; exact rwithin_2lo m x y z w hm b1 a1 b2 a2 b3 a3
  rw [inB_ok a3 b3]
  exact rwithin_3 m x y z w hm b1 a1 b2 a2 b3 a3

set_option maxRecDepth 100000 in
set_option maxHeartbeats 4000000 in
theorem rValid_any (x y z : Int) (w : World) : Calls Try.prog 12 #[vv x y z] w (Ret (.bool (inV 16777216 x y z)) w) := by
  have HW := Lib.hid (fun w => rwithin_any 16777216 x y z w (by omega))
  generalize inV 16777216 x y z = r at *
  go_enter Try.func12, Try.ntmps12
  go_wp2_with fail
  obtain ⟨w0, hw0⟩ : ∃ w0 : World, w0 = w.alloc (.cells #[.int .i64 x, .int .i64 y, .int .i64 z] 24) := ⟨_, rfl⟩
  have hb0 : Hid (Below w.heap.size w w0) := by rw [hw0]; exact below_one w _
  have hv0 : Hid (V3 w0 w.heap.size x y z) := by rw [hw0]; exact ⟨by simp [go_sem], by simp [go_sem], by simp [go_sem]⟩
  rw [← hw0]
  clear hw0
  refine (HW.out _).mono ?_
  rintro e wa ⟨rfl, ba⟩
  have HB := Lib.hid (chain hb0.out ba)
  clear ba
  go_wp2
  go_ret
  exact ⟨rfl, HB.out⟩

set_option maxRecDepth 100000 in
set_option maxHeartbeats 4000000 in
theorem rPoint_any (x y z : Int) (w : World) : Calls Try.prog 50 #[vv x y z] w (Ret (.bool (inV 1048576 x y z)) w) := by
  have HW := Lib.hid (fun w => rwithin_any 1048576 x y z w (by omega))
  generalize inV 1048576 x y z = r at *
  go_enter Try.func50, Try.ntmps50
  go_wp2_with fail
  obtain ⟨w0, hw0⟩ : ∃ w0 : World, w0 = w.alloc (.cells #[.int .i64 x, .int .i64 y, .int .i64 z] 24) := ⟨_, rfl⟩
  have hb0 : Hid (Below w.heap.size w w0) := by rw [hw0]; exact below_one w _
  have hv0 : Hid (V3 w0 w.heap.size x y z) := by rw [hw0]; exact ⟨by simp [go_sem], by simp [go_sem], by simp [go_sem]⟩
  rw [← hw0]
  clear hw0
  refine (HW.out _).mono ?_
  rintro e wa ⟨rfl, ba⟩
  have HB := Lib.hid (chain hb0.out ba)
  clear ba
  go_wp2
  go_ret
  exact ⟨rfl, HB.out⟩

set_option maxRecDepth 100000 in
set_option maxHeartbeats 4000000 in
theorem rAdd_any (x1 x2 x3 y1 y2 y3 r1 r2 r3 : Int) (h1 : IntKind.i64.wrap (x1 + y1) = r1) (h2 : IntKind.i64.wrap (x2 + y2) = r2) (h3 : IntKind.i64.wrap (x3 + y3) = r3) (w : World) :
    Calls Try.prog 56 #[vv x1 x2 x3, vv y1 y2 y3] w (Ret (vv r1 r2 r3) w) := by
  go_enter Try.func56, Try.ntmps56
  go_upto_region 1 with (fail)
  obtain ⟨w0, hw0⟩ : ∃ w0 : World, w0 = ((w.alloc (.cells #[.int .i64 x1, .int .i64 x2, .int .i64 x3] 24)).alloc (.cells #[.int .i64 y1, .int .i64 y2, .int .i64 y3] 24)).alloc (.cells #[.int .i64 0, .int .i64 0, .int .i64 0] 24) := ⟨_, rfl⟩
  have hb0 : Hid (Below w.heap.size w w0) := by rw [hw0]; exact ((below_one w _).alloc (by simp) _).alloc (by simp; omega) _
  have hv0 : Hid (V3 w0 w.heap.size x1 x2 x3) := by rw [hw0]; exact ⟨by simp [go_sem], by simp [go_sem], by simp [go_sem]⟩
  have hv1 : Hid (V3 w0 (w.heap.size + 1) y1 y2 y3) := by rw [hw0]; exact ⟨by simp [go_sem], by simp [go_sem], by simp [go_sem]⟩
  have hv2 : Hid (V3 w0 (w.heap.size + 1 + 1) 0 0 0) := by rw [hw0]; exact ⟨by simp [go_sem], by simp [go_sem], by simp [go_sem]⟩
  have f20 : w0.frozen? ⟨w.heap.size + 1 + 1, 0, none⟩ = false := by rw [hw0]; simp [go_sem]
  have f21 : w0.frozen? ⟨w.heap.size + 1 + 1, 1, none⟩ = false := by rw [hw0]; simp [go_sem]
  have f22 : w0.frozen? ⟨w.heap.size + 1 + 1, 2, none⟩ = false := by rw [hw0]; simp [go_sem]
  have F2 := Lib.hid (And.intro f20 (And.intro f21 f22))
  clear f20 f21 f22
  rw [← hw0]
  clear hw0
  obtain ⟨k00, k01, k02⟩ := hv0.out.below (Below.refl _ _)
  obtain ⟨k10, k11, k12⟩ := hv1.out.below (Below.refl _ _)
  obtain ⟨k20, k21, k22⟩ := hv2.out.below (Below.refl _ _)
  have g20 := keepf (Below.refl _ _) hv2.out.1 F2.out.1
  have g21 := keepf (Below.refl _ _) hv2.out.2.1 F2.out.2.1
  have g22 := keepf (Below.refl _ _) hv2.out.2.2 F2.out.2.2
  have n02 : ¬ (w.heap.size = w.heap.size + 1 + 1) := by omega
  have n20 : ¬ (w.heap.size + 1 + 1 = w.heap.size) := by omega
  have n12 : ¬ (w.heap.size + 1 = w.heap.size + 1 + 1) := by omega
  have n21 : ¬ (w.heap.size + 1 + 1 = w.heap.size + 1) := by omega
  have HZ := Lib.hid (((hb0.out.setCell (p := ⟨w.heap.size + 1 + 1, 0, none⟩) (by simp; omega) (.int .i64 r1)).setCell (p := ⟨w.heap.size + 1 + 1, 1, none⟩) (by simp; omega) (.int .i64 r2)).setCell (p := ⟨w.heap.size + 1 + 1, 2, none⟩) (by simp; omega) (.int .i64 r3))
  go_wp2
  exact bodyPost_ret (v := vv r1 r2 r3) (by simp [results, Try.results56, go_sem, k20, k21, k22]) rfl ⟨rfl, HZ.out⟩

set_option maxRecDepth 100000 in
set_option maxHeartbeats 4000000 in
theorem rNeg_any (x1 x2 x3 r1 r2 r3 : Int) (h1 : IntKind.i64.wrap (-x1) = r1) (h2 : IntKind.i64.wrap (-x2) = r2) (h3 : IntKind.i64.wrap (-x3) = r3) (w : World) :
    Calls Try.prog 57 #[vv x1 x2 x3] w (Ret (vv r1 r2 r3) w) := by
  go_enter Try.func57, Try.ntmps57
  go_upto_region 1 with (fail)
  obtain ⟨w0, hw0⟩ : ∃ w0 : World, w0 = (w.alloc (.cells #[.int .i64 x1, .int .i64 x2, .int .i64 x3] 24)).alloc (.cells #[.int .i64 0, .int .i64 0, .int .i64 0] 24) := ⟨_, rfl⟩
  have hb0 : Hid (Below w.heap.size w w0) := by rw [hw0]; exact (below_one w _).alloc (by simp) _
  have hv0 : Hid (V3 w0 w.heap.size x1 x2 x3) := by rw [hw0]; exact ⟨by simp [go_sem], by simp [go_sem], by simp [go_sem]⟩
  have hv1 : Hid (V3 w0 (w.heap.size + 1) 0 0 0) := by rw [hw0]; exact ⟨by simp [go_sem], by simp [go_sem], by simp [go_sem]⟩
  have f10 : w0.frozen? ⟨w.heap.size + 1, 0, none⟩ = false := by rw [hw0]; simp [go_sem]
  have f11 : w0.frozen? ⟨w.heap.size + 1, 1, none⟩ = false := by rw [hw0]; simp [go_sem]
  have f12 : w0.frozen? ⟨w.heap.size + 1, 2, none⟩ = false := by rw [hw0]; simp [go_sem]
  have F1 := Lib.hid (And.intro f10 (And.intro f11 f12))
  clear f10 f11 f12
  rw [← hw0]
  clear hw0
  obtain ⟨k00, k01, k02⟩ := hv0.out.below (Below.refl _ _)
  obtain ⟨k10, k11, k12⟩ := hv1.out.below (Below.refl _ _)
  have g10 := keepf (Below.refl _ _) hv1.out.1 F1.out.1
  have g11 := keepf (Below.refl _ _) hv1.out.2.1 F1.out.2.1
  have g12 := keepf (Below.refl _ _) hv1.out.2.2 F1.out.2.2
  have n01 : ¬ (w.heap.size = w.heap.size + 1) := by omega
  have n10 : ¬ (w.heap.size + 1 = w.heap.size) := by omega
  have HZ := Lib.hid (((hb0.out.setCell (p := ⟨w.heap.size + 1, 0, none⟩) (by simp) (.int .i64 r1)).setCell (p := ⟨w.heap.size + 1, 1, none⟩) (by simp) (.int .i64 r2)).setCell (p := ⟨w.heap.size + 1, 2, none⟩) (by simp) (.int .i64 r3))
  go_wp2
  exact bodyPost_ret (v := vv r1 r2 r3) (by simp [results, Try.results57, go_sem, k10, k11, k12]) rfl ⟨rfl, HZ.out⟩

set_option maxRecDepth 100000 in
set_option maxHeartbeats 4000000 in
theorem rSub_way (x1 x2 x3 y1 y2 y3 n1_ n2_ n3_ r1 r2 r3 : Int) (H1 : ∀ w, Calls Try.prog 57 #[vv y1 y2 y3] w (Ret (vv n1_ n2_ n3_) w)) (H2 : ∀ w, Calls Try.prog 56 #[vv x1 x2 x3, vv n1_ n2_ n3_] w (Ret (vv r1 r2 r3) w)) (w : World) :
    Calls Try.prog 30 #[vv x1 x2 x3, vv y1 y2 y3] w (Ret (vv r1 r2 r3) w) := by
  have H1 := Lib.hid H1
  have H2 := Lib.hid H2
  go_enter Try.func30, Try.ntmps30
  go_upto_region 1 with (fail)
  obtain ⟨w0, hw0⟩ : ∃ w0 : World, w0 = ((w.alloc (.cells #[.int .i64 x1, .int .i64 x2, .int .i64 x3] 24)).alloc (.cells #[.int .i64 y1, .int .i64 y2, .int .i64 y3] 24)).alloc (.cells #[.int .i64 0, .int .i64 0, .int .i64 0] 24) := ⟨_, rfl⟩
  have hb0 : Hid (Below w.heap.size w w0) := by rw [hw0]; exact ((below_one w _).alloc (by simp) _).alloc (by simp; omega) _
  have hv0 : Hid (V3 w0 w.heap.size x1 x2 x3) := by rw [hw0]; exact ⟨by simp [go_sem], by simp [go_sem], by simp [go_sem]⟩
  have hv1 : Hid (V3 w0 (w.heap.size + 1) y1 y2 y3) := by rw [hw0]; exact ⟨by simp [go_sem], by simp [go_sem], by simp [go_sem]⟩
  have hv2 : Hid (V3 w0 (w.heap.size + 1 + 1) 0 0 0) := by rw [hw0]; exact ⟨by simp [go_sem], by simp [go_sem], by simp [go_sem]⟩
  have f20 : w0.frozen? ⟨w.heap.size + 1 + 1, 0, none⟩ = false := by rw [hw0]; simp [go_sem]
  have f21 : w0.frozen? ⟨w.heap.size + 1 + 1, 1, none⟩ = false := by rw [hw0]; simp [go_sem]
  have f22 : w0.frozen? ⟨w.heap.size + 1 + 1, 2, none⟩ = false := by rw [hw0]; simp [go_sem]
  have F2 := Lib.hid (And.intro f20 (And.intro f21 f22))
  clear f20 f21 f22
  rw [← hw0]
  clear hw0
  obtain ⟨k00, k01, k02⟩ := hv0.out.below (Below.refl _ _)
  obtain ⟨k10, k11, k12⟩ := hv1.out.below (Below.refl _ _)
  obtain ⟨k20, k21, k22⟩ := hv2.out.below (Below.refl _ _)
  have g20 := keepf (Below.refl _ _) hv2.out.1 F2.out.1
  have g21 := keepf (Below.refl _ _) hv2.out.2.1 F2.out.2.1
  have g22 := keepf (Below.refl _ _) hv2.out.2.2 F2.out.2.2
  have n02 : ¬ (w.heap.size = w.heap.size + 1 + 1) := by omega
  have n20 : ¬ (w.heap.size + 1 + 1 = w.heap.size) := by omega
  have n12 : ¬ (w.heap.size + 1 = w.heap.size + 1 + 1) := by omega
  have n21 : ¬ (w.heap.size + 1 + 1 = w.heap.size + 1) := by omega
  have C0 := Lib.hid (Below.refl w0.heap.size w0)
  go_region_held3 (fun W' => W'.cell? ⟨w.heap.size, 0, none⟩ = some (.int .i64 x1) ∧ W'.cell? ⟨w.heap.size, 1, none⟩ = some (.int .i64 x2) ∧ W'.cell? ⟨w.heap.size, 2, none⟩ = some (.int .i64 x3) ∧ W'.cell? ⟨w.heap.size + 1, 0, none⟩ = some (.int .i64 y1) ∧ W'.cell? ⟨w.heap.size + 1, 1, none⟩ = some (.int .i64 y2) ∧ W'.cell? ⟨w.heap.size + 1, 2, none⟩ = some (.int .i64 y3)) (go_keep)
    (first
      | (go_at_call 57; (with_reducible refine (H1.out _).mono ?_); rintro e w1 ⟨rfl, b1⟩; (try (have b1 := undrew b1)); have C1 := Lib.hid (chain C0.out b1); clear b1; obtain ⟨p00, p01, p02⟩ := hv0.out.below C1.out; obtain ⟨p10, p11, p12⟩ := hv1.out.below C1.out; obtain ⟨p20, p21, p22⟩ := hv2.out.below C1.out; have g20 := keepf C1.out hv2.out.1 F2.out.1; have g21 := keepf C1.out hv2.out.2.1 F2.out.2.1; have g22 := keepf C1.out hv2.out.2.2 F2.out.2.2)
      | (go_at_call 56; (with_reducible refine (H2.out _).mono ?_); rintro e w2 ⟨rfl, b2⟩; (try (have b2 := undrew b2)); have C2 := Lib.hid (chain C1.out b2); clear b2; obtain ⟨p00, p01, p02⟩ := hv0.out.below C2.out; obtain ⟨p10, p11, p12⟩ := hv1.out.below C2.out; obtain ⟨p20, p21, p22⟩ := hv2.out.below C2.out; have g20 := keepf C2.out hv2.out.1 F2.out.1; have g21 := keepf C2.out hv2.out.2.1 F2.out.2.1; have g22 := keepf C2.out hv2.out.2.2 F2.out.2.2)
      | fail)
  have HB := Lib.hid (chain hb0.out C2.out)
  have HZ := Lib.hid (((HB.out.setCell (p := ⟨w.heap.size + 1 + 1, 0, none⟩) (by simp; omega) (.int .i64 r1)).setCell (p := ⟨w.heap.size + 1 + 1, 1, none⟩) (by simp; omega) (.int .i64 r2)).setCell (p := ⟨w.heap.size + 1 + 1, 2, none⟩) (by simp; omega) (.int .i64 r3))
  go_wp2
  exact bodyPost_ret (v := vv r1 r2 r3) (by simp [results, Try.results30, go_sem, p20, p21, p22]) rfl ⟨rfl, by first | exact HZ.out | exact HZ.out.drew⟩
end Go.Proofs.Ytpkfngfenkcjoaa

/- vector.Box: the smallest and the greatest parts of some vectors. -/
set_option linter.all false
namespace Go.Proofs.Ytpkfngfenkcjoaa
open Go.RowKit

abbrev T3 := Int × Int × Int
def m3 (a b : T3) : T3 := (min a.1 b.1, min a.2.1 b.2.1, min a.2.2 b.2.2)
def M3 (a b : T3) : T3 := (max a.1 b.1, max a.2.1 b.2.1, max a.2.2 b.2.2)
/-- A vector of the call's own. -/
def VF (w : World) (g : Nat) (a : T3) : Prop := V3 w g a.1 a.2.1 a.2.2 ∧ w.frozen? ⟨g, 0, none⟩ = false ∧ w.frozen? ⟨g, 1, none⟩ = false ∧ w.frozen? ⟨g, 2, none⟩ = false
theorem VF.below {w w' : World} {g : Nat} {a : T3} (h : VF w g a) (hb : Below w.heap.size w w') : VF w' g a :=
  ⟨h.1.below hb, keepf hb h.1.1 h.2.1, keepf hb h.1.2.1 h.2.2.1, keepf hb h.1.2.2 h.2.2.2⟩
theorem VF.drew {w : World} {g : Nat} {a : T3} (h : VF w g a) : VF w.drew g a := h
theorem VF.set {w : World} {g : Nat} {a : T3} (h : VF w g a) (x y z : Int) : VF (((w.setCell ⟨g, 0, none⟩ (.int .i64 x)).setCell ⟨g, 1, none⟩ (.int .i64 y)).setCell ⟨g, 2, none⟩ (.int .i64 z)) g (x, y, z) := by
  obtain ⟨⟨h1, h2, h3⟩, h4, h5, h6⟩ := h
  refine ⟨⟨?_, ?_, ?_⟩, ?_, ?_, ?_⟩ <;> simp [go_sem, h1, h2, h3, h4, h5, h6]
theorem V3.other {w : World} {g g' : Nat} {a b c : Int} (h : V3 w g a b c) (hn : ¬ g = g') (x y z : Value) : V3 (((w.setCell ⟨g', 0, none⟩ x).setCell ⟨g', 1, none⟩ y).setCell ⟨g', 2, none⟩ z) g a b c := by
  obtain ⟨h1, h2, h3⟩ := h
  have hn2 : ¬ g' = g := fun e => hn e.symm
  refine ⟨?_, ?_, ?_⟩ <;> simp [go_sem, h1, h2, h3, hn, hn2]
theorem below_set3 {w w' : World} (h : Below w.heap.size w w') {g : Nat} (hg : w.heap.size ≤ g) (x y z : Value) : Below w.heap.size w (((w'.setCell ⟨g, 0, none⟩ x).setCell ⟨g, 1, none⟩ y).setCell ⟨g, 2, none⟩ z) :=
  ((h.setCell (p := ⟨g, 0, none⟩) hg x).setCell (p := ⟨g, 1, none⟩) hg y).setCell (p := ⟨g, 2, none⟩) hg z
theorem VF.other {w : World} {g g' : Nat} {a : T3} (h : VF w g a) (hn : ¬ g = g') (x y z : Value) : VF (((w.setCell ⟨g', 0, none⟩ x).setCell ⟨g', 1, none⟩ y).setCell ⟨g', 2, none⟩ z) g a := by
  obtain ⟨⟨h1, h2, h3⟩, h4, h5, h6⟩ := h
  have hn2 : ¬ g' = g := fun e => hn e.symm
  refine ⟨⟨?_, ?_, ?_⟩, ?_, ?_, ?_⟩ <;> simp [go_sem, h1, h2, h3, h4, h5, h6, hn, hn2]

end Go.Proofs.Ytpkfngfenkcjoaa

/- The reference's Cross. -/
set_option linter.all false
namespace Go.Proofs.Ytpkfngfenkcjoaa
open Go.RowKit

theorem V3.o1 {w : World} {g g' : Nat} {a b c : Int} (h : V3 w g a b c) (hn : ¬ g = g') (j : Nat) (v : Value) : V3 (w.setCell ⟨g', j, none⟩ v) g a b c := by
  obtain ⟨h1, h2, h3⟩ := h
  have hn2 : ¬ g' = g := fun e => hn e.symm
  refine ⟨?_, ?_, ?_⟩ <;> simp [go_sem, h1, h2, h3, hn, hn2]
theorem VF.o1 {w : World} {g g' : Nat} {a : T3} (h : VF w g a) (hn : ¬ g = g') (j : Nat) (v : Value) : VF (w.setCell ⟨g', j, none⟩ v) g a := by
  obtain ⟨⟨h1, h2, h3⟩, h4, h5, h6⟩ := h
  have hn2 : ¬ g' = g := fun e => hn e.symm
  refine ⟨⟨?_, ?_, ?_⟩, ?_, ?_, ?_⟩ <;> simp [go_sem, h1, h2, h3, h4, h5, h6, hn, hn2]
theorem VF.s0 {w : World} {g : Nat} {a b c : Int} (h : VF w g (a, b, c)) (x : Int) : VF (w.setCell ⟨g, 0, none⟩ (.int .i64 x)) g (x, b, c) := by
  obtain ⟨⟨h1, h2, h3⟩, h4, h5, h6⟩ := h
  simp only at h1 h2 h3
  refine ⟨⟨?_, ?_, ?_⟩, ?_, ?_, ?_⟩ <;> simp [go_sem, h1, h2, h3, h4, h5, h6]
theorem VF.s1 {w : World} {g : Nat} {a b c : Int} (h : VF w g (a, b, c)) (x : Int) : VF (w.setCell ⟨g, 1, none⟩ (.int .i64 x)) g (a, x, c) := by
  obtain ⟨⟨h1, h2, h3⟩, h4, h5, h6⟩ := h
  simp only at h1 h2 h3
  refine ⟨⟨?_, ?_, ?_⟩, ?_, ?_, ?_⟩ <;> simp [go_sem, h1, h2, h3, h4, h5, h6]
theorem VF.s2 {w : World} {g : Nat} {a b c : Int} (h : VF w g (a, b, c)) (x : Int) : VF (w.setCell ⟨g, 2, none⟩ (.int .i64 x)) g (a, b, x) := by
  obtain ⟨⟨h1, h2, h3⟩, h4, h5, h6⟩ := h
  simp only at h1 h2 h3
  refine ⟨⟨?_, ?_, ?_⟩, ?_, ?_, ?_⟩ <;> simp [go_sem, h1, h2, h3, h4, h5, h6]

set_option maxRecDepth 100000 in
set_option maxHeartbeats 4000000 in
theorem rCross_any (x1 x2 x3 y1 y2 y3 a0 b0_ a1 b1_ a2 b2_ r0 r1 r2 : Int) (p0 : IntKind.i64.wrap (x2 * y3) = a0) (q0 : IntKind.i64.wrap (x3 * y2) = b0_) (s0 : IntKind.i64.wrap (a0 - b0_) = r0) (p1 : IntKind.i64.wrap (x3 * y1) = a1) (q1 : IntKind.i64.wrap (x1 * y3) = b1_) (s1 : IntKind.i64.wrap (a1 - b1_) = r1) (p2 : IntKind.i64.wrap (x1 * y2) = a2) (q2 : IntKind.i64.wrap (x2 * y1) = b2_) (s2 : IntKind.i64.wrap (a2 - b2_) = r2) (w : World) :
    Calls Try.prog 29 #[vv x1 x2 x3, vv y1 y2 y3] w (Ret (vv r0 r1 r2) w) := by
  have X0 := Lib.hid (fun w => rpart0 x1 x2 x3 w)
  have Y0 := Lib.hid (fun w => rpart0 y1 y2 y3 w)
  have X1 := Lib.hid (fun w => rpart1 x1 x2 x3 w)
  have Y1 := Lib.hid (fun w => rpart1 y1 y2 y3 w)
  have X2 := Lib.hid (fun w => rpart2 x1 x2 x3 w)
  have Y2 := Lib.hid (fun w => rpart2 y1 y2 y3 w)
  have hw1 : IntKind.i64.wrap 1 = 1 := by decide
  have ht1 : (1 : Int).tmod 3 = 1 := by decide
  have hw2 : IntKind.i64.wrap 2 = 2 := by decide
  have ht2 : (2 : Int).tmod 3 = 2 := by decide
  have hw3 : IntKind.i64.wrap 3 = 3 := by decide
  have ht3 : (3 : Int).tmod 3 = 0 := by decide
  have hw4 : IntKind.i64.wrap 4 = 4 := by decide
  have ht4 : (4 : Int).tmod 3 = 1 := by decide
  go_enter Try.func29, Try.ntmps29
  go_upto_region 2 with (fail)
  obtain ⟨w0, hw0⟩ : ∃ w0 : World, w0 = (((w.alloc (.cells #[.int .i64 x1, .int .i64 x2, .int .i64 x3] 24)).alloc (.cells #[.int .i64 y1, .int .i64 y2, .int .i64 y3] 24)).alloc (.cells #[.int .i64 0, .int .i64 0, .int .i64 0] 24)).alloc (.cells #[.int .i64 0, .int .i64 0, .int .i64 0] 69) := ⟨_, rfl⟩
  have hb0 : Hid (Below w.heap.size w w0) := by rw [hw0]; exact (((below_one w _).alloc (by simp) _).alloc (by simp; omega) _).alloc (by simp; omega) _
  have hv0 : Hid (V3 w0 w.heap.size x1 x2 x3) := by rw [hw0]; exact ⟨by simp [go_sem], by simp [go_sem], by simp [go_sem]⟩
  have hv1 : Hid (V3 w0 (w.heap.size + 1) y1 y2 y3) := by rw [hw0]; exact ⟨by simp [go_sem], by simp [go_sem], by simp [go_sem]⟩
  have I0 : Hid (VF w0 (w.heap.size + 1 + 1) (0, 0, 0)) := by rw [hw0]; exact ⟨⟨by simp [go_sem], by simp [go_sem], by simp [go_sem]⟩, by simp [go_sem], by simp [go_sem], by simp [go_sem]⟩
  have I1 : Hid (VF w0 (w.heap.size + 1 + 1 + 1) (0, 0, 0)) := by rw [hw0]; exact ⟨⟨by simp [go_sem], by simp [go_sem], by simp [go_sem]⟩, by simp [go_sem], by simp [go_sem], by simp [go_sem]⟩
  rw [← hw0]
  clear hw0
  have n03 : ¬ (w.heap.size = w.heap.size + 1 + 1 + 1) := by omega
  have n30 : ¬ (w.heap.size + 1 + 1 + 1 = w.heap.size) := by omega
  have n13 : ¬ (w.heap.size + 1 = w.heap.size + 1 + 1 + 1) := by omega
  have n31 : ¬ (w.heap.size + 1 + 1 + 1 = w.heap.size + 1) := by omega
  have n23 : ¬ (w.heap.size + 1 + 1 = w.heap.size + 1 + 1 + 1) := by omega
  have n32 : ¬ (w.heap.size + 1 + 1 + 1 = w.heap.size + 1 + 1) := by omega
  have n02 : ¬ (w.heap.size = w.heap.size + 1 + 1) := by omega
  have n20 : ¬ (w.heap.size + 1 + 1 = w.heap.size) := by omega
  have n12 : ¬ (w.heap.size + 1 = w.heap.size + 1 + 1) := by omega
  have n21 : ¬ (w.heap.size + 1 + 1 = w.heap.size + 1) := by omega
  obtain ⟨k00, k01, k02⟩ := hv0.out
  obtain ⟨k10, k11, k12⟩ := hv1.out
  obtain ⟨⟨m30, m31, m32⟩, g30, g31, g32⟩ := I1.out
  simp only at m30 m31 m32
  go_wp2
  refine wp_loop_rounds 4 ?_
  rw [rounds_succ]
  have C0 := Lib.hid (Below.refl w0.heap.size w0)
  go_wp2
  go_region_held3 (fun W' => W'.cell? ⟨w.heap.size, 0, none⟩ = some (.int .i64 x1) ∧ W'.cell? ⟨w.heap.size, 1, none⟩ = some (.int .i64 x2) ∧ W'.cell? ⟨w.heap.size, 2, none⟩ = some (.int .i64 x3) ∧ W'.cell? ⟨w.heap.size + 1, 0, none⟩ = some (.int .i64 y1) ∧ W'.cell? ⟨w.heap.size + 1, 1, none⟩ = some (.int .i64 y2) ∧ W'.cell? ⟨w.heap.size + 1, 2, none⟩ = some (.int .i64 y3)) (go_keep)
    (first
      | (go_at_call 55; (with_reducible refine (X1.out _).mono ?_); rintro e w1 ⟨rfl, b1⟩; (try (have b1 := undrew b1)); have C1 := Lib.hid (chain C0.out b1); clear b1; obtain ⟨p00, p01, p02⟩ := hv0.out.below C1.out; obtain ⟨p10, p11, p12⟩ := hv1.out.below C1.out; obtain ⟨⟨q30, q31, q32⟩, f30, f31, f32⟩ := I1.out.below C1.out; simp only at q30 q31 q32)
      | (go_at_call 55; (with_reducible refine (Y2.out _).mono ?_); rintro e w2 ⟨rfl, b2⟩; (try (have b2 := undrew b2)); have C2 := Lib.hid (chain C1.out b2); clear b2; obtain ⟨p00, p01, p02⟩ := hv0.out.below C2.out; obtain ⟨p10, p11, p12⟩ := hv1.out.below C2.out; obtain ⟨⟨q30, q31, q32⟩, f30, f31, f32⟩ := I1.out.below C2.out; simp only at q30 q31 q32)
      | (go_at_call 55; (with_reducible refine (X2.out _).mono ?_); rintro e w3 ⟨rfl, b3⟩; (try (have b3 := undrew b3)); have C3 := Lib.hid (chain C2.out b3); clear b3; obtain ⟨p00, p01, p02⟩ := hv0.out.below C3.out; obtain ⟨p10, p11, p12⟩ := hv1.out.below C3.out; obtain ⟨⟨q30, q31, q32⟩, f30, f31, f32⟩ := I1.out.below C3.out; simp only at q30 q31 q32)
      | (go_at_call 55; (with_reducible refine (Y1.out _).mono ?_); rintro e w4 ⟨rfl, b4⟩; (try (have b4 := undrew b4)); have C4 := Lib.hid (chain C3.out b4); clear b4; obtain ⟨p00, p01, p02⟩ := hv0.out.below C4.out; obtain ⟨p10, p11, p12⟩ := hv1.out.below C4.out; obtain ⟨⟨q30, q31, q32⟩, f30, f31, f32⟩ := I1.out.below C4.out; simp only at q30 q31 q32)
      | fail)
  obtain ⟨w5, hw⟩ : ∃ w5 : World, w5 = w4.setCell ⟨w.heap.size + 1 + 1 + 1, 0, none⟩ (.int .i64 r0) := ⟨_, rfl⟩
  have hv0 : Hid (V3 w5 w.heap.size x1 x2 x3) := by rw [hw]; exact (hv0.out.below C4.out).o1 n03 _ _
  have hv1 : Hid (V3 w5 (w.heap.size + 1) y1 y2 y3) := by rw [hw]; exact (hv1.out.below C4.out).o1 n13 _ _
  have I0 : Hid (VF w5 (w.heap.size + 1 + 1) (0, 0, 0)) := by rw [hw]; exact (I0.out.below C4.out).o1 n23 _ _
  have I1 : Hid (VF w5 (w.heap.size + 1 + 1 + 1) (r0, 0, 0)) := by rw [hw]; exact (I1.out.below C4.out).s0 _
  have hb0 : Hid (Below w.heap.size w w5) := by rw [hw]; exact (chain hb0.out C4.out).setCell (p := ⟨w.heap.size + 1 + 1 + 1, 0, none⟩) (by simp; omega) _
  rw [← hw]
  clear hw p00 p01 p02 p10 p11 p12 q30 q31 q32 f30 f31 f32 k00 k01 k02 k10 k11 k12 m30 m31 m32 g30 g31 g32 C0 C1 C2 C3 C4
  obtain ⟨k00, k01, k02⟩ := hv0.out
  obtain ⟨k10, k11, k12⟩ := hv1.out
  obtain ⟨⟨m30, m31, m32⟩, g30, g31, g32⟩ := I1.out
  simp only at m30 m31 m32
  go_wp2
  rw [rounds_succ]
  have C5 := Lib.hid (Below.refl w5.heap.size w5)
  go_wp2
  go_region_held3 (fun W' => W'.cell? ⟨w.heap.size, 0, none⟩ = some (.int .i64 x1) ∧ W'.cell? ⟨w.heap.size, 1, none⟩ = some (.int .i64 x2) ∧ W'.cell? ⟨w.heap.size, 2, none⟩ = some (.int .i64 x3) ∧ W'.cell? ⟨w.heap.size + 1, 0, none⟩ = some (.int .i64 y1) ∧ W'.cell? ⟨w.heap.size + 1, 1, none⟩ = some (.int .i64 y2) ∧ W'.cell? ⟨w.heap.size + 1, 2, none⟩ = some (.int .i64 y3)) (go_keep)
    (first
      | (go_at_call 55; (with_reducible refine (X2.out _).mono ?_); rintro e w6 ⟨rfl, b6⟩; (try (have b6 := undrew b6)); have C6 := Lib.hid (chain C5.out b6); clear b6; obtain ⟨p00, p01, p02⟩ := hv0.out.below C6.out; obtain ⟨p10, p11, p12⟩ := hv1.out.below C6.out; obtain ⟨⟨q30, q31, q32⟩, f30, f31, f32⟩ := I1.out.below C6.out; simp only at q30 q31 q32)
      | (go_at_call 55; (with_reducible refine (Y0.out _).mono ?_); rintro e w7 ⟨rfl, b7⟩; (try (have b7 := undrew b7)); have C7 := Lib.hid (chain C6.out b7); clear b7; obtain ⟨p00, p01, p02⟩ := hv0.out.below C7.out; obtain ⟨p10, p11, p12⟩ := hv1.out.below C7.out; obtain ⟨⟨q30, q31, q32⟩, f30, f31, f32⟩ := I1.out.below C7.out; simp only at q30 q31 q32)
      | (go_at_call 55; (with_reducible refine (X0.out _).mono ?_); rintro e w8 ⟨rfl, b8⟩; (try (have b8 := undrew b8)); have C8 := Lib.hid (chain C7.out b8); clear b8; obtain ⟨p00, p01, p02⟩ := hv0.out.below C8.out; obtain ⟨p10, p11, p12⟩ := hv1.out.below C8.out; obtain ⟨⟨q30, q31, q32⟩, f30, f31, f32⟩ := I1.out.below C8.out; simp only at q30 q31 q32)
      | (go_at_call 55; (with_reducible refine (Y2.out _).mono ?_); rintro e w9 ⟨rfl, b9⟩; (try (have b9 := undrew b9)); have C9 := Lib.hid (chain C8.out b9); clear b9; obtain ⟨p00, p01, p02⟩ := hv0.out.below C9.out; obtain ⟨p10, p11, p12⟩ := hv1.out.below C9.out; obtain ⟨⟨q30, q31, q32⟩, f30, f31, f32⟩ := I1.out.below C9.out; simp only at q30 q31 q32)
      | fail)
  obtain ⟨w10, hw⟩ : ∃ w10 : World, w10 = w9.setCell ⟨w.heap.size + 1 + 1 + 1, 1, none⟩ (.int .i64 r1) := ⟨_, rfl⟩
  have hv0 : Hid (V3 w10 w.heap.size x1 x2 x3) := by rw [hw]; exact (hv0.out.below C9.out).o1 n03 _ _
  have hv1 : Hid (V3 w10 (w.heap.size + 1) y1 y2 y3) := by rw [hw]; exact (hv1.out.below C9.out).o1 n13 _ _
  have I0 : Hid (VF w10 (w.heap.size + 1 + 1) (0, 0, 0)) := by rw [hw]; exact (I0.out.below C9.out).o1 n23 _ _
  have I1 : Hid (VF w10 (w.heap.size + 1 + 1 + 1) (r0, r1, 0)) := by rw [hw]; exact (I1.out.below C9.out).s1 _
  have hb0 : Hid (Below w.heap.size w w10) := by rw [hw]; exact (chain hb0.out C9.out).setCell (p := ⟨w.heap.size + 1 + 1 + 1, 1, none⟩) (by simp; omega) _
  rw [← hw]
  clear hw p00 p01 p02 p10 p11 p12 q30 q31 q32 f30 f31 f32 k00 k01 k02 k10 k11 k12 m30 m31 m32 g30 g31 g32 C5 C6 C7 C8 C9
  obtain ⟨k00, k01, k02⟩ := hv0.out
  obtain ⟨k10, k11, k12⟩ := hv1.out
  obtain ⟨⟨m30, m31, m32⟩, g30, g31, g32⟩ := I1.out
  simp only at m30 m31 m32
  go_wp2
  rw [rounds_succ]
  have C10 := Lib.hid (Below.refl w10.heap.size w10)
  go_wp2
  go_region_held3 (fun W' => W'.cell? ⟨w.heap.size, 0, none⟩ = some (.int .i64 x1) ∧ W'.cell? ⟨w.heap.size, 1, none⟩ = some (.int .i64 x2) ∧ W'.cell? ⟨w.heap.size, 2, none⟩ = some (.int .i64 x3) ∧ W'.cell? ⟨w.heap.size + 1, 0, none⟩ = some (.int .i64 y1) ∧ W'.cell? ⟨w.heap.size + 1, 1, none⟩ = some (.int .i64 y2) ∧ W'.cell? ⟨w.heap.size + 1, 2, none⟩ = some (.int .i64 y3)) (go_keep)
    (first
      | (go_at_call 55; (with_reducible refine (X0.out _).mono ?_); rintro e w11 ⟨rfl, b11⟩; (try (have b11 := undrew b11)); have C11 := Lib.hid (chain C10.out b11); clear b11; obtain ⟨p00, p01, p02⟩ := hv0.out.below C11.out; obtain ⟨p10, p11, p12⟩ := hv1.out.below C11.out; obtain ⟨⟨q30, q31, q32⟩, f30, f31, f32⟩ := I1.out.below C11.out; simp only at q30 q31 q32)
      | (go_at_call 55; (with_reducible refine (Y1.out _).mono ?_); rintro e w12 ⟨rfl, b12⟩; (try (have b12 := undrew b12)); have C12 := Lib.hid (chain C11.out b12); clear b12; obtain ⟨p00, p01, p02⟩ := hv0.out.below C12.out; obtain ⟨p10, p11, p12⟩ := hv1.out.below C12.out; obtain ⟨⟨q30, q31, q32⟩, f30, f31, f32⟩ := I1.out.below C12.out; simp only at q30 q31 q32)
      | (go_at_call 55; (with_reducible refine (X1.out _).mono ?_); rintro e w13 ⟨rfl, b13⟩; (try (have b13 := undrew b13)); have C13 := Lib.hid (chain C12.out b13); clear b13; obtain ⟨p00, p01, p02⟩ := hv0.out.below C13.out; obtain ⟨p10, p11, p12⟩ := hv1.out.below C13.out; obtain ⟨⟨q30, q31, q32⟩, f30, f31, f32⟩ := I1.out.below C13.out; simp only at q30 q31 q32)
      | (go_at_call 55; (with_reducible refine (Y0.out _).mono ?_); rintro e w14 ⟨rfl, b14⟩; (try (have b14 := undrew b14)); have C14 := Lib.hid (chain C13.out b14); clear b14; obtain ⟨p00, p01, p02⟩ := hv0.out.below C14.out; obtain ⟨p10, p11, p12⟩ := hv1.out.below C14.out; obtain ⟨⟨q30, q31, q32⟩, f30, f31, f32⟩ := I1.out.below C14.out; simp only at q30 q31 q32)
      | fail)
  obtain ⟨w15, hw⟩ : ∃ w15 : World, w15 = w14.setCell ⟨w.heap.size + 1 + 1 + 1, 2, none⟩ (.int .i64 r2) := ⟨_, rfl⟩
  have hv0 : Hid (V3 w15 w.heap.size x1 x2 x3) := by rw [hw]; exact (hv0.out.below C14.out).o1 n03 _ _
  have hv1 : Hid (V3 w15 (w.heap.size + 1) y1 y2 y3) := by rw [hw]; exact (hv1.out.below C14.out).o1 n13 _ _
  have I0 : Hid (VF w15 (w.heap.size + 1 + 1) (0, 0, 0)) := by rw [hw]; exact (I0.out.below C14.out).o1 n23 _ _
  have I1 : Hid (VF w15 (w.heap.size + 1 + 1 + 1) (r0, r1, r2)) := by rw [hw]; exact (I1.out.below C14.out).s2 _
  have hb0 : Hid (Below w.heap.size w w15) := by rw [hw]; exact (chain hb0.out C14.out).setCell (p := ⟨w.heap.size + 1 + 1 + 1, 2, none⟩) (by simp; omega) _
  rw [← hw]
  clear hw p00 p01 p02 p10 p11 p12 q30 q31 q32 f30 f31 f32 k00 k01 k02 k10 k11 k12 m30 m31 m32 g30 g31 g32 C10 C11 C12 C13 C14
  obtain ⟨k00, k01, k02⟩ := hv0.out
  obtain ⟨k10, k11, k12⟩ := hv1.out
  obtain ⟨⟨m30, m31, m32⟩, g30, g31, g32⟩ := I1.out
  simp only at m30 m31 m32
  go_wp2
  rw [rounds_succ]
  obtain ⟨⟨k20, k21, k22⟩, g20, g21, g22⟩ := I0.out
  simp only at k20 k21 k22
  have HZ := Lib.hid (((hb0.out.setCell (p := ⟨w.heap.size + 1 + 1, 0, none⟩) (by simp; omega) (.int .i64 r0)).setCell (p := ⟨w.heap.size + 1 + 1, 1, none⟩) (by simp; omega) (.int .i64 r1)).setCell (p := ⟨w.heap.size + 1 + 1, 2, none⟩) (by simp; omega) (.int .i64 r2))
  go_wp2
  exact bodyPost_ret (v := vv r0 r1 r2) (by simp [results, Try.results29, go_sem, k20, k21, k22]) rfl ⟨rfl, HZ.out⟩
end Go.Proofs.Ytpkfngfenkcjoaa

/- The reference's Distance2 and Turn. -/
set_option linter.all false
namespace Go.Proofs.Ytpkfngfenkcjoaa
open Go.RowKit

set_option maxRecDepth 100000 in
set_option maxHeartbeats 4000000 in
theorem rDistance2_way (x1 x2 x3 y1 y2 y3 d1 d2 d3 r : Int) (H1 : ∀ w, Calls Try.prog 30 #[vv x1 x2 x3, vv y1 y2 y3] w (Ret (vv d1 d2 d3) w)) (H2 : ∀ w, Calls Try.prog 54 #[vv d1 d2 d3, vv d1 d2 d3] w (Ret (.int .i64 r) w)) (w : World) :
    Calls Try.prog 28 #[vv x1 x2 x3, vv y1 y2 y3] w (Ret (.int .i64 r) w) := by
  have H1 := Lib.hid H1
  have H2 := Lib.hid H2
  go_enter Try.func28, Try.ntmps28
  go_upto_region 1 with (fail)
  obtain ⟨w0, hw0⟩ : ∃ w0 : World, w0 = (w.alloc (.cells #[.int .i64 x1, .int .i64 x2, .int .i64 x3] 24)).alloc (.cells #[.int .i64 y1, .int .i64 y2, .int .i64 y3] 24) := ⟨_, rfl⟩
  have hb0 : Hid (Below w.heap.size w w0) := by rw [hw0]; exact (below_one w _).alloc (by simp) _
  have hv0 : Hid (V3 w0 w.heap.size x1 x2 x3) := by rw [hw0]; exact ⟨by simp [go_sem], by simp [go_sem], by simp [go_sem]⟩
  have hv1 : Hid (V3 w0 (w.heap.size + 1) y1 y2 y3) := by rw [hw0]; exact ⟨by simp [go_sem], by simp [go_sem], by simp [go_sem]⟩
  rw [← hw0]
  clear hw0
  obtain ⟨k00, k01, k02⟩ := hv0.out.below (Below.refl _ _)
  obtain ⟨k10, k11, k12⟩ := hv1.out.below (Below.refl _ _)
  have C0 := Lib.hid (Below.refl w0.heap.size w0)
  go_region_held3 (fun W' => W'.cell? ⟨w.heap.size, 0, none⟩ = some (.int .i64 x1) ∧ W'.cell? ⟨w.heap.size, 1, none⟩ = some (.int .i64 x2) ∧ W'.cell? ⟨w.heap.size, 2, none⟩ = some (.int .i64 x3) ∧ W'.cell? ⟨w.heap.size + 1, 0, none⟩ = some (.int .i64 y1) ∧ W'.cell? ⟨w.heap.size + 1, 1, none⟩ = some (.int .i64 y2) ∧ W'.cell? ⟨w.heap.size + 1, 2, none⟩ = some (.int .i64 y3)) (go_keep)
    (first
      | (go_at_call 30; (with_reducible refine (H1.out _).mono ?_); rintro e w1 ⟨rfl, b1⟩; (try (have b1 := undrew b1)); first | (have C2 := Lib.hid (chain C1.out b1); clear b1; obtain ⟨p00, p01, p02⟩ := hv0.out.below C2.out; obtain ⟨p10, p11, p12⟩ := hv1.out.below C2.out) | (have C1 := Lib.hid (chain C0.out b1); clear b1; obtain ⟨p00, p01, p02⟩ := hv0.out.below C1.out; obtain ⟨p10, p11, p12⟩ := hv1.out.below C1.out))
      | (go_at_call 54; (with_reducible refine (H2.out _).mono ?_); rintro e w3 ⟨rfl, b3⟩; (try (have b3 := undrew b3)); have C3 := Lib.hid (chain C2.out b3); clear b3; obtain ⟨p00, p01, p02⟩ := hv0.out.below C3.out; obtain ⟨p10, p11, p12⟩ := hv1.out.below C3.out)
      | fail)
  have HB := Lib.hid (chain hb0.out C3.out)
  go_wp2
  go_ret
  exact ⟨rfl, by first | exact HB.out | exact HB.out.drew⟩

set_option maxRecDepth 100000 in
set_option maxHeartbeats 4000000 in
theorem rTurn_p (x1 x2 x3 y1 y2 y3 z1 z2 z3 a1 a2 a3 b1_ b2_ b3_ r1 r2 r3 : Int) (h : 0 < r3)
    (H1 : ∀ w, Calls Try.prog 30 #[vv y1 y2 y3, vv x1 x2 x3] w (Ret (vv a1 a2 a3) w)) (H2 : ∀ w, Calls Try.prog 30 #[vv z1 z2 z3, vv x1 x2 x3] w (Ret (vv b1_ b2_ b3_) w)) (H3 : ∀ w, Calls Try.prog 29 #[vv a1 a2 a3, vv b1_ b2_ b3_] w (Ret (.agg #[.int .i64 r1, .int .i64 r2, .int .i64 r3]) w)) (w : World) :
    Calls Try.prog 53 #[vv x1 x2 x3, vv y1 y2 y3, vv z1 z2 z3] w (Ret (.int .i64 1) w) := by
  have H1 := Lib.hid H1
  have H2 := Lib.hid H2
  have H3 := Lib.hid H3
  have hf2 : ∀ w, (Instr.field 24 (.agg #[.int .i64 r1, .int .i64 r2, .int .i64 r3]) 2).run Try.prog w = .ok (.int .i64 r3) w := fun _ => by kernel_rfl
  go_enter Try.func53, Try.ntmps53
  go_upto_region 1 with (fail)
  obtain ⟨w0, hw0⟩ : ∃ w0 : World, w0 = ((w.alloc (.cells #[.int .i64 x1, .int .i64 x2, .int .i64 x3] 24)).alloc (.cells #[.int .i64 y1, .int .i64 y2, .int .i64 y3] 24)).alloc (.cells #[.int .i64 z1, .int .i64 z2, .int .i64 z3] 24) := ⟨_, rfl⟩
  have hb0 : Hid (Below w.heap.size w w0) := by rw [hw0]; exact ((below_one w _).alloc (by simp) _).alloc (by simp; omega) _
  have hv0 : Hid (V3 w0 w.heap.size x1 x2 x3) := by rw [hw0]; exact ⟨by simp [go_sem], by simp [go_sem], by simp [go_sem]⟩
  have hv1 : Hid (V3 w0 (w.heap.size + 1) y1 y2 y3) := by rw [hw0]; exact ⟨by simp [go_sem], by simp [go_sem], by simp [go_sem]⟩
  have hv2 : Hid (V3 w0 (w.heap.size + 1 + 1) z1 z2 z3) := by rw [hw0]; exact ⟨by simp [go_sem], by simp [go_sem], by simp [go_sem]⟩
  rw [← hw0]
  clear hw0
  obtain ⟨k00, k01, k02⟩ := hv0.out.below (Below.refl _ _)
  obtain ⟨k10, k11, k12⟩ := hv1.out.below (Below.refl _ _)
  obtain ⟨k20, k21, k22⟩ := hv2.out.below (Below.refl _ _)
  have C0 := Lib.hid (Below.refl w0.heap.size w0)
  go_region_held3 (fun W' => W'.cell? ⟨w.heap.size, 0, none⟩ = some (.int .i64 x1) ∧ W'.cell? ⟨w.heap.size, 1, none⟩ = some (.int .i64 x2) ∧ W'.cell? ⟨w.heap.size, 2, none⟩ = some (.int .i64 x3) ∧ W'.cell? ⟨w.heap.size + 1, 0, none⟩ = some (.int .i64 y1) ∧ W'.cell? ⟨w.heap.size + 1, 1, none⟩ = some (.int .i64 y2) ∧ W'.cell? ⟨w.heap.size + 1, 2, none⟩ = some (.int .i64 y3) ∧ W'.cell? ⟨w.heap.size + 1 + 1, 0, none⟩ = some (.int .i64 z1) ∧ W'.cell? ⟨w.heap.size + 1 + 1, 1, none⟩ = some (.int .i64 z2) ∧ W'.cell? ⟨w.heap.size + 1 + 1, 2, none⟩ = some (.int .i64 z3)) (go_keep)
    (first
      | (go_at_call 30; (with_reducible refine (H1.out _).mono ?_); rintro e w1 ⟨rfl, b1⟩; (try (have b1 := undrew b1)); have C1 := Lib.hid (chain C0.out b1); clear b1; obtain ⟨p00, p01, p02⟩ := hv0.out.below C1.out; obtain ⟨p10, p11, p12⟩ := hv1.out.below C1.out; obtain ⟨p20, p21, p22⟩ := hv2.out.below C1.out)
      | (go_at_call 30; (with_reducible refine (H2.out _).mono ?_); rintro e w2 ⟨rfl, b2⟩; (try (have b2 := undrew b2)); have C2 := Lib.hid (chain C1.out b2); clear b2; obtain ⟨p00, p01, p02⟩ := hv0.out.below C2.out; obtain ⟨p10, p11, p12⟩ := hv1.out.below C2.out; obtain ⟨p20, p21, p22⟩ := hv2.out.below C2.out)
      | (go_at_call 29; (with_reducible refine (H3.out _).mono ?_); rintro e w3 ⟨rfl, b3⟩; (try (have b3 := undrew b3)); have C3 := Lib.hid (chain C2.out b3); clear b3; obtain ⟨p00, p01, p02⟩ := hv0.out.below C3.out; obtain ⟨p10, p11, p12⟩ := hv1.out.below C3.out; obtain ⟨p20, p21, p22⟩ := hv2.out.below C3.out)
      | fail)
  have HB := Lib.hid (chain hb0.out C3.out)
  go_wp2
  go_ret
  exact ⟨rfl, by first | exact HB.out | exact HB.out.drew⟩

set_option maxRecDepth 100000 in
set_option maxHeartbeats 4000000 in
theorem rTurn_n (x1 x2 x3 y1 y2 y3 z1 z2 z3 a1 a2 a3 b1_ b2_ b3_ r1 r2 r3 : Int) (h : ¬ 0 < r3) (h2 : r3 < 0)
    (H1 : ∀ w, Calls Try.prog 30 #[vv y1 y2 y3, vv x1 x2 x3] w (Ret (vv a1 a2 a3) w)) (H2 : ∀ w, Calls Try.prog 30 #[vv z1 z2 z3, vv x1 x2 x3] w (Ret (vv b1_ b2_ b3_) w)) (H3 : ∀ w, Calls Try.prog 29 #[vv a1 a2 a3, vv b1_ b2_ b3_] w (Ret (.agg #[.int .i64 r1, .int .i64 r2, .int .i64 r3]) w)) (w : World) :
    Calls Try.prog 53 #[vv x1 x2 x3, vv y1 y2 y3, vv z1 z2 z3] w (Ret (.int .i64 (-1)) w) := by
  have H1 := Lib.hid H1
  have H2 := Lib.hid H2
  have H3 := Lib.hid H3
  have hf2 : ∀ w, (Instr.field 24 (.agg #[.int .i64 r1, .int .i64 r2, .int .i64 r3]) 2).run Try.prog w = .ok (.int .i64 r3) w := fun _ => by kernel_rfl
  go_enter Try.func53, Try.ntmps53
  go_upto_region 1 with (fail)
  obtain ⟨w0, hw0⟩ : ∃ w0 : World, w0 = ((w.alloc (.cells #[.int .i64 x1, .int .i64 x2, .int .i64 x3] 24)).alloc (.cells #[.int .i64 y1, .int .i64 y2, .int .i64 y3] 24)).alloc (.cells #[.int .i64 z1, .int .i64 z2, .int .i64 z3] 24) := ⟨_, rfl⟩
  have hb0 : Hid (Below w.heap.size w w0) := by rw [hw0]; exact ((below_one w _).alloc (by simp) _).alloc (by simp; omega) _
  have hv0 : Hid (V3 w0 w.heap.size x1 x2 x3) := by rw [hw0]; exact ⟨by simp [go_sem], by simp [go_sem], by simp [go_sem]⟩
  have hv1 : Hid (V3 w0 (w.heap.size + 1) y1 y2 y3) := by rw [hw0]; exact ⟨by simp [go_sem], by simp [go_sem], by simp [go_sem]⟩
  have hv2 : Hid (V3 w0 (w.heap.size + 1 + 1) z1 z2 z3) := by rw [hw0]; exact ⟨by simp [go_sem], by simp [go_sem], by simp [go_sem]⟩
  rw [← hw0]
  clear hw0
  obtain ⟨k00, k01, k02⟩ := hv0.out.below (Below.refl _ _)
  obtain ⟨k10, k11, k12⟩ := hv1.out.below (Below.refl _ _)
  obtain ⟨k20, k21, k22⟩ := hv2.out.below (Below.refl _ _)
  have C0 := Lib.hid (Below.refl w0.heap.size w0)
  go_region_held3 (fun W' => W'.cell? ⟨w.heap.size, 0, none⟩ = some (.int .i64 x1) ∧ W'.cell? ⟨w.heap.size, 1, none⟩ = some (.int .i64 x2) ∧ W'.cell? ⟨w.heap.size, 2, none⟩ = some (.int .i64 x3) ∧ W'.cell? ⟨w.heap.size + 1, 0, none⟩ = some (.int .i64 y1) ∧ W'.cell? ⟨w.heap.size + 1, 1, none⟩ = some (.int .i64 y2) ∧ W'.cell? ⟨w.heap.size + 1, 2, none⟩ = some (.int .i64 y3) ∧ W'.cell? ⟨w.heap.size + 1 + 1, 0, none⟩ = some (.int .i64 z1) ∧ W'.cell? ⟨w.heap.size + 1 + 1, 1, none⟩ = some (.int .i64 z2) ∧ W'.cell? ⟨w.heap.size + 1 + 1, 2, none⟩ = some (.int .i64 z3)) (go_keep)
    (first
      | (go_at_call 30; (with_reducible refine (H1.out _).mono ?_); rintro e w1 ⟨rfl, b1⟩; (try (have b1 := undrew b1)); have C1 := Lib.hid (chain C0.out b1); clear b1; obtain ⟨p00, p01, p02⟩ := hv0.out.below C1.out; obtain ⟨p10, p11, p12⟩ := hv1.out.below C1.out; obtain ⟨p20, p21, p22⟩ := hv2.out.below C1.out)
      | (go_at_call 30; (with_reducible refine (H2.out _).mono ?_); rintro e w2 ⟨rfl, b2⟩; (try (have b2 := undrew b2)); have C2 := Lib.hid (chain C1.out b2); clear b2; obtain ⟨p00, p01, p02⟩ := hv0.out.below C2.out; obtain ⟨p10, p11, p12⟩ := hv1.out.below C2.out; obtain ⟨p20, p21, p22⟩ := hv2.out.below C2.out)
      | (go_at_call 29; (with_reducible refine (H3.out _).mono ?_); rintro e w3 ⟨rfl, b3⟩; (try (have b3 := undrew b3)); have C3 := Lib.hid (chain C2.out b3); clear b3; obtain ⟨p00, p01, p02⟩ := hv0.out.below C3.out; obtain ⟨p10, p11, p12⟩ := hv1.out.below C3.out; obtain ⟨p20, p21, p22⟩ := hv2.out.below C3.out)
      | fail)
  have HB := Lib.hid (chain hb0.out C3.out)
  go_wp2
  go_ret
  exact ⟨rfl, by first | exact HB.out | exact HB.out.drew⟩

set_option maxRecDepth 100000 in
set_option maxHeartbeats 4000000 in
theorem rTurn_z (x1 x2 x3 y1 y2 y3 z1 z2 z3 a1 a2 a3 b1_ b2_ b3_ r1 r2 r3 : Int) (h : ¬ 0 < r3) (h2 : ¬ r3 < 0)
    (H1 : ∀ w, Calls Try.prog 30 #[vv y1 y2 y3, vv x1 x2 x3] w (Ret (vv a1 a2 a3) w)) (H2 : ∀ w, Calls Try.prog 30 #[vv z1 z2 z3, vv x1 x2 x3] w (Ret (vv b1_ b2_ b3_) w)) (H3 : ∀ w, Calls Try.prog 29 #[vv a1 a2 a3, vv b1_ b2_ b3_] w (Ret (.agg #[.int .i64 r1, .int .i64 r2, .int .i64 r3]) w)) (w : World) :
    Calls Try.prog 53 #[vv x1 x2 x3, vv y1 y2 y3, vv z1 z2 z3] w (Ret (.int .i64 0) w) := by
  have H1 := Lib.hid H1
  have H2 := Lib.hid H2
  have H3 := Lib.hid H3
  have hf2 : ∀ w, (Instr.field 24 (.agg #[.int .i64 r1, .int .i64 r2, .int .i64 r3]) 2).run Try.prog w = .ok (.int .i64 r3) w := fun _ => by kernel_rfl
  go_enter Try.func53, Try.ntmps53
  go_upto_region 1 with (fail)
  obtain ⟨w0, hw0⟩ : ∃ w0 : World, w0 = ((w.alloc (.cells #[.int .i64 x1, .int .i64 x2, .int .i64 x3] 24)).alloc (.cells #[.int .i64 y1, .int .i64 y2, .int .i64 y3] 24)).alloc (.cells #[.int .i64 z1, .int .i64 z2, .int .i64 z3] 24) := ⟨_, rfl⟩
  have hb0 : Hid (Below w.heap.size w w0) := by rw [hw0]; exact ((below_one w _).alloc (by simp) _).alloc (by simp; omega) _
  have hv0 : Hid (V3 w0 w.heap.size x1 x2 x3) := by rw [hw0]; exact ⟨by simp [go_sem], by simp [go_sem], by simp [go_sem]⟩
  have hv1 : Hid (V3 w0 (w.heap.size + 1) y1 y2 y3) := by rw [hw0]; exact ⟨by simp [go_sem], by simp [go_sem], by simp [go_sem]⟩
  have hv2 : Hid (V3 w0 (w.heap.size + 1 + 1) z1 z2 z3) := by rw [hw0]; exact ⟨by simp [go_sem], by simp [go_sem], by simp [go_sem]⟩
  rw [← hw0]
  clear hw0
  obtain ⟨k00, k01, k02⟩ := hv0.out.below (Below.refl _ _)
  obtain ⟨k10, k11, k12⟩ := hv1.out.below (Below.refl _ _)
  obtain ⟨k20, k21, k22⟩ := hv2.out.below (Below.refl _ _)
  have C0 := Lib.hid (Below.refl w0.heap.size w0)
  go_region_held3 (fun W' => W'.cell? ⟨w.heap.size, 0, none⟩ = some (.int .i64 x1) ∧ W'.cell? ⟨w.heap.size, 1, none⟩ = some (.int .i64 x2) ∧ W'.cell? ⟨w.heap.size, 2, none⟩ = some (.int .i64 x3) ∧ W'.cell? ⟨w.heap.size + 1, 0, none⟩ = some (.int .i64 y1) ∧ W'.cell? ⟨w.heap.size + 1, 1, none⟩ = some (.int .i64 y2) ∧ W'.cell? ⟨w.heap.size + 1, 2, none⟩ = some (.int .i64 y3) ∧ W'.cell? ⟨w.heap.size + 1 + 1, 0, none⟩ = some (.int .i64 z1) ∧ W'.cell? ⟨w.heap.size + 1 + 1, 1, none⟩ = some (.int .i64 z2) ∧ W'.cell? ⟨w.heap.size + 1 + 1, 2, none⟩ = some (.int .i64 z3)) (go_keep)
    (first
      | (go_at_call 30; (with_reducible refine (H1.out _).mono ?_); rintro e w1 ⟨rfl, b1⟩; (try (have b1 := undrew b1)); have C1 := Lib.hid (chain C0.out b1); clear b1; obtain ⟨p00, p01, p02⟩ := hv0.out.below C1.out; obtain ⟨p10, p11, p12⟩ := hv1.out.below C1.out; obtain ⟨p20, p21, p22⟩ := hv2.out.below C1.out)
      | (go_at_call 30; (with_reducible refine (H2.out _).mono ?_); rintro e w2 ⟨rfl, b2⟩; (try (have b2 := undrew b2)); have C2 := Lib.hid (chain C1.out b2); clear b2; obtain ⟨p00, p01, p02⟩ := hv0.out.below C2.out; obtain ⟨p10, p11, p12⟩ := hv1.out.below C2.out; obtain ⟨p20, p21, p22⟩ := hv2.out.below C2.out)
      | (go_at_call 29; (with_reducible refine (H3.out _).mono ?_); rintro e w3 ⟨rfl, b3⟩; (try (have b3 := undrew b3)); have C3 := Lib.hid (chain C2.out b3); clear b3; obtain ⟨p00, p01, p02⟩ := hv0.out.below C3.out; obtain ⟨p10, p11, p12⟩ := hv1.out.below C3.out; obtain ⟨p20, p21, p22⟩ := hv2.out.below C3.out)
      | fail)
  have HB := Lib.hid (chain hb0.out C3.out)
  go_wp2
  go_ret
  exact ⟨rfl, by first | exact HB.out | exact HB.out.drew⟩
end Go.Proofs.Ytpkfngfenkcjoaa

/- The reference's Dot. -/
set_option linter.all false
namespace Go.Proofs.Ytpkfngfenkcjoaa
open Go.RowKit

set_option maxRecDepth 100000 in
set_option maxHeartbeats 4000000 in
theorem rDot_any (x1 x2 x3 y1 y2 y3 r1 r2 r3 s t : Int) (h1 : IntKind.i64.wrap (x1 * y1) = r1) (h2 : IntKind.i64.wrap (x2 * y2) = r2) (h3 : IntKind.i64.wrap (x3 * y3) = r3) (h0 : IntKind.i64.wrap (0 + r1) = r1) (h4 : IntKind.i64.wrap (r1 + r2) = s) (h5 : IntKind.i64.wrap (s + r3) = t) (w : World) :
    Calls Try.prog 54 #[vv x1 x2 x3, vv y1 y2 y3] w (Ret (.int .i64 t) w) := by
  have h0b : IntKind.i64.wrap r1 = r1 := by rw [Int.zero_add] at h0; exact h0
  have X0 := Lib.hid (fun w => rpart0 x1 x2 x3 w)
  have Y0 := Lib.hid (fun w => rpart0 y1 y2 y3 w)
  have X1 := Lib.hid (fun w => rpart1 x1 x2 x3 w)
  have Y1 := Lib.hid (fun w => rpart1 y1 y2 y3 w)
  have X2 := Lib.hid (fun w => rpart2 x1 x2 x3 w)
  have Y2 := Lib.hid (fun w => rpart2 y1 y2 y3 w)
  go_enter Try.func54, Try.ntmps54
  go_upto_region 1 with (fail)
  obtain ⟨w0, hw0⟩ : ∃ w0 : World, w0 = (w.alloc (.cells #[.int .i64 x1, .int .i64 x2, .int .i64 x3] 24)).alloc (.cells #[.int .i64 y1, .int .i64 y2, .int .i64 y3] 24) := ⟨_, rfl⟩
  have hb0 : Hid (Below w.heap.size w w0) := by rw [hw0]; exact (below_one w _).alloc (by simp) _
  have hv0 : Hid (V3 w0 w.heap.size x1 x2 x3) := by rw [hw0]; exact ⟨by simp [go_sem], by simp [go_sem], by simp [go_sem]⟩
  have hv1 : Hid (V3 w0 (w.heap.size + 1) y1 y2 y3) := by rw [hw0]; exact ⟨by simp [go_sem], by simp [go_sem], by simp [go_sem]⟩
  rw [← hw0]
  clear hw0
  obtain ⟨k00, k01, k02⟩ := hv0.out.below (Below.refl _ _)
  obtain ⟨k10, k11, k12⟩ := hv1.out.below (Below.refl _ _)
  have C0 := Lib.hid (Below.refl w0.heap.size w0)
  go_wp2
  refine wp_loop_rounds 4 ?_
  rw [rounds_succ]
  go_wp2
  go_region_held3 (fun W' => W'.cell? ⟨w.heap.size, 0, none⟩ = some (.int .i64 x1) ∧ W'.cell? ⟨w.heap.size, 1, none⟩ = some (.int .i64 x2) ∧ W'.cell? ⟨w.heap.size, 2, none⟩ = some (.int .i64 x3) ∧ W'.cell? ⟨w.heap.size + 1, 0, none⟩ = some (.int .i64 y1) ∧ W'.cell? ⟨w.heap.size + 1, 1, none⟩ = some (.int .i64 y2) ∧ W'.cell? ⟨w.heap.size + 1, 2, none⟩ = some (.int .i64 y3)) (go_keep)
    (first
      | (go_at_call 55; (with_reducible refine (X0.out _).mono ?_); rintro e w1 ⟨rfl, b1⟩; (try (have b1 := undrew b1)); have C1 := Lib.hid (chain C0.out b1); clear b1; obtain ⟨p00, p01, p02⟩ := hv0.out.below C1.out; obtain ⟨p10, p11, p12⟩ := hv1.out.below C1.out)
      | (go_at_call 55; (with_reducible refine (Y0.out _).mono ?_); rintro e w2 ⟨rfl, b2⟩; (try (have b2 := undrew b2)); have C2 := Lib.hid (chain C1.out b2); clear b2; obtain ⟨p00, p01, p02⟩ := hv0.out.below C2.out; obtain ⟨p10, p11, p12⟩ := hv1.out.below C2.out)
      | fail)
  clear k00 k01 k02 k10 k11 k12
  obtain ⟨k00, k01, k02⟩ := hv0.out.below C2.out
  obtain ⟨k10, k11, k12⟩ := hv1.out.below C2.out
  go_wp2
  rw [rounds_succ]
  go_wp2
  go_region_held3 (fun W' => W'.cell? ⟨w.heap.size, 0, none⟩ = some (.int .i64 x1) ∧ W'.cell? ⟨w.heap.size, 1, none⟩ = some (.int .i64 x2) ∧ W'.cell? ⟨w.heap.size, 2, none⟩ = some (.int .i64 x3) ∧ W'.cell? ⟨w.heap.size + 1, 0, none⟩ = some (.int .i64 y1) ∧ W'.cell? ⟨w.heap.size + 1, 1, none⟩ = some (.int .i64 y2) ∧ W'.cell? ⟨w.heap.size + 1, 2, none⟩ = some (.int .i64 y3)) (go_keep)
    (first
      | (go_at_call 55; (with_reducible refine (X1.out _).mono ?_); rintro e w3 ⟨rfl, b3⟩; (try (have b3 := undrew b3)); have C3 := Lib.hid (chain C2.out b3); clear b3; obtain ⟨p00, p01, p02⟩ := hv0.out.below C3.out; obtain ⟨p10, p11, p12⟩ := hv1.out.below C3.out)
      | (go_at_call 55; (with_reducible refine (Y1.out _).mono ?_); rintro e w4 ⟨rfl, b4⟩; (try (have b4 := undrew b4)); have C4 := Lib.hid (chain C3.out b4); clear b4; obtain ⟨p00, p01, p02⟩ := hv0.out.below C4.out; obtain ⟨p10, p11, p12⟩ := hv1.out.below C4.out)
      | fail)
  clear k00 k01 k02 k10 k11 k12
  obtain ⟨k00, k01, k02⟩ := hv0.out.below C4.out
  obtain ⟨k10, k11, k12⟩ := hv1.out.below C4.out
  go_wp2
  rw [rounds_succ]
  go_wp2
  go_region_held3 (fun W' => W'.cell? ⟨w.heap.size, 0, none⟩ = some (.int .i64 x1) ∧ W'.cell? ⟨w.heap.size, 1, none⟩ = some (.int .i64 x2) ∧ W'.cell? ⟨w.heap.size, 2, none⟩ = some (.int .i64 x3) ∧ W'.cell? ⟨w.heap.size + 1, 0, none⟩ = some (.int .i64 y1) ∧ W'.cell? ⟨w.heap.size + 1, 1, none⟩ = some (.int .i64 y2) ∧ W'.cell? ⟨w.heap.size + 1, 2, none⟩ = some (.int .i64 y3)) (go_keep)
    (first
      | (go_at_call 55; (with_reducible refine (X2.out _).mono ?_); rintro e w5 ⟨rfl, b5⟩; (try (have b5 := undrew b5)); have C5 := Lib.hid (chain C4.out b5); clear b5; obtain ⟨p00, p01, p02⟩ := hv0.out.below C5.out; obtain ⟨p10, p11, p12⟩ := hv1.out.below C5.out)
      | (go_at_call 55; (with_reducible refine (Y2.out _).mono ?_); rintro e w6 ⟨rfl, b6⟩; (try (have b6 := undrew b6)); have C6 := Lib.hid (chain C5.out b6); clear b6; obtain ⟨p00, p01, p02⟩ := hv0.out.below C6.out; obtain ⟨p10, p11, p12⟩ := hv1.out.below C6.out)
      | fail)
  go_wp2
  rw [rounds_succ]
  go_wp2
  go_ret
  have HB := Lib.hid (chain hb0.out C6.out)
  exact ⟨rfl, by first | exact HB.out | exact HB.out.drew⟩
end Go.Proofs.Ytpkfngfenkcjoaa

/- The reference's Round and Between. -/
set_option linter.all false
namespace Go.Proofs.Ytpkfngfenkcjoaa
open Go.RowKit

theorem nr_eq {n d q r : Int} (hd : 0 < d) (h : n = q * d + r) (h1 : -d ≤ 2 * r) (h2 : 2 * r < d) : nr n d = q := by
  unfold nr
  rw [Int.ediv_eq_iff_of_pos (by omega)]
  have e : q * (2 * d) = 2 * (q * d) := by rw [Int.mul_left_comm]
  omega
end Go.Proofs.Ytpkfngfenkcjoaa
