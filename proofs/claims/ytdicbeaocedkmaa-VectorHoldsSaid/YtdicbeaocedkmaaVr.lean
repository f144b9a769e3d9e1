/- The reference's Round and Between. -/
import Derived.Test.YtdicbeaocedkmaaVn
import Derived.Test.YtdicbeaocedkmaaVk
import Derived.Test.YtdicbeaocedkmaaVg
set_option linter.all false
namespace Go.Proofs.Ytdicbeaocedkmaa
open Go.RowKit

set_option maxRecDepth 100000 in
set_option maxHeartbeats 4000000 in
theorem rRound_up (n d q m r m2 r2 : Int) (hd : IntKind.i64.wrap (-d) = -d) (hq : n.tdiv d = q) (hqw : IntKind.i64.wrap q = q) (hz : (d == 0) = false) (hz2 : ¬ d = 0) (hm : IntKind.i64.wrap (q * d) = m) (hr : IntKind.i64.wrap (n - m) = r) (h2 : IntKind.i64.wrap (2 * r) = 2 * r)
    (c1 : d ≤ 2 * r) (hm2 : IntKind.i64.wrap ((q + 1) * d) = m2) (hr2 : IntKind.i64.wrap (n - m2) = r2) (h3 : IntKind.i64.wrap (2 * r2) = 2 * r2) (hq2 : IntKind.i64.wrap (q + 1) = q + 1) (c2 : ¬ d ≤ 2 * r2) (c3 : ¬ 2 * r2 < -d) (w : World) :
    Calls Try.prog 54 #[.int .i64 n, .int .i64 d] w (Qt (.int .i64 (q + 1)) w) := by
  go_enter Try.func54, Try.ntmps54
  go_wp2
  refine wp_loop_rounds 2 ?_
  rw [rounds_succ]
  go_wp2
  rw [rounds_succ]
  go_wp2
  refine wp_loop_rounds 2 ?_
  rw [rounds_succ]
  go_wp2
  go_ret
  exact ⟨rfl, rfl⟩

set_option maxRecDepth 100000 in
set_option maxHeartbeats 4000000 in
theorem rRound_down (n d q m r m2 r2 : Int) (hd : IntKind.i64.wrap (-d) = -d) (hq : n.tdiv d = q) (hqw : IntKind.i64.wrap q = q) (hz : (d == 0) = false) (hz2 : ¬ d = 0) (hm : IntKind.i64.wrap (q * d) = m) (hr : IntKind.i64.wrap (n - m) = r) (h2 : IntKind.i64.wrap (2 * r) = 2 * r)
    (c1 : ¬ d ≤ 2 * r) (c2 : 2 * r < -d) (hm2 : IntKind.i64.wrap ((q - 1) * d) = m2) (hr2 : IntKind.i64.wrap (n - m2) = r2) (h3 : IntKind.i64.wrap (2 * r2) = 2 * r2) (hq2 : IntKind.i64.wrap (q - 1) = q - 1) (c3 : ¬ 2 * r2 < -d) (w : World) :
    Calls Try.prog 54 #[.int .i64 n, .int .i64 d] w (Qt (.int .i64 (q - 1)) w) := by
  go_enter Try.func54, Try.ntmps54
  go_wp2
  refine wp_loop_rounds 2 ?_
  rw [rounds_succ]
  go_wp2
  refine wp_loop_rounds 2 ?_
  rw [rounds_succ]
  go_wp2
  rw [rounds_succ]
  go_wp2
  go_ret
  exact ⟨rfl, rfl⟩

set_option maxRecDepth 100000 in
set_option maxHeartbeats 4000000 in
theorem rRound_same (n d q m r m2 r2 : Int) (hd : IntKind.i64.wrap (-d) = -d) (hq : n.tdiv d = q) (hqw : IntKind.i64.wrap q = q) (hz : (d == 0) = false) (hz2 : ¬ d = 0) (hm : IntKind.i64.wrap (q * d) = m) (hr : IntKind.i64.wrap (n - m) = r) (h2 : IntKind.i64.wrap (2 * r) = 2 * r)
    (c1 : ¬ d ≤ 2 * r) (c2 : ¬ 2 * r < -d) (w : World) :
    Calls Try.prog 54 #[.int .i64 n, .int .i64 d] w (Qt (.int .i64 q) w) := by
  go_enter Try.func54, Try.ntmps54
  go_wp2
  refine wp_loop_rounds 2 ?_
  rw [rounds_succ]
  go_wp2
  refine wp_loop_rounds 2 ?_
  rw [rounds_succ]
  go_wp2
  go_ret
  exact ⟨rfl, rfl⟩

theorem nr_eq {n d q r : Int} (hd : 0 < d) (h : n = q * d + r) (h1 : -d ≤ 2 * r) (h2 : 2 * r < d) : nr n d = q := by
  unfold nr
  rw [Int.ediv_eq_iff_of_pos (by omega)]
  have e : q * (2 * d) = 2 * (q * d) := by rw [Int.mul_left_comm]
  omega
theorem rRound_any (n d : Int) (hd : 0 < d ∧ d ≤ 4294967296) (hn : -144115188075855872 ≤ n ∧ n ≤ 144115188075855872) (w : World) :
    Calls Try.prog 54 #[.int .i64 n, .int .i64 d] w (Qt (.int .i64 (nr n d)) w) := by
  have h1 := Int.mul_tdiv_add_tmod n d
  have h2 := Int.lt_tmod_of_pos n hd.1
  have h3 := Int.tmod_lt_of_pos n hd.1
  have h4 : (n.tdiv d).natAbs ≤ n.natAbs := by rw [Int.natAbs_tdiv]; exact Nat.div_le_self _ _
  have hq : n.tdiv d = n.tdiv d := rfl
  generalize hqq : n.tdiv d = q at *
  generalize n.tmod d = r at *
  rw [Int.mul_comm] at h1
  have e1 : (q + 1) * d = q * d + d := by rw [Int.add_mul, Int.one_mul]
  have e2 : (q - 1) * d = q * d - d := by rw [Int.sub_mul, Int.one_mul]
  generalize hm : q * d = m at *
  have W := @wrap_in
  by_cases c1 : d ≤ 2 * r
  · rw [nr_eq (q := q + 1) (r := r - d) hd.1 (by omega) (by omega) (by omega)]
    exact rRound_up n d q m r (m + d) (r - d) (W (by omega)) hqq (W (by omega)) (by rw [beq_eq_false_iff_ne]; omega) (by omega) (by rw [hm]; exact W (by omega)) (by rw [W (by omega)]; omega) (W (by omega)) c1 (by rw [e1]; exact W (by omega)) (by rw [W (by omega)]; omega) (W (by omega)) (W (by omega)) (by omega) (by omega) w
  by_cases c2 : 2 * r < -d
  · rw [nr_eq (q := q - 1) (r := r + d) hd.1 (by omega) (by omega) (by omega)]
    exact rRound_down n d q m r (m - d) (r + d) (W (by omega)) hqq (W (by omega)) (by rw [beq_eq_false_iff_ne]; omega) (by omega) (by rw [hm]; exact W (by omega)) (by rw [W (by omega)]; omega) (W (by omega)) c1 c2 (by rw [e2]; exact W (by omega)) (by rw [W (by omega)]; omega) (W (by omega)) (W (by omega)) (by omega) w
  · rw [nr_eq (q := q) (r := r) hd.1 (by omega) (by omega) (by omega)]
    exact rRound_same n d q m r 0 0 (W (by omega)) hqq (W (by omega)) (by rw [beq_eq_false_iff_ne]; omega) (by omega) (by rw [hm]; exact W (by omega)) (by rw [W (by omega)]; omega) (W (by omega)) c1 c2 w

set_option maxRecDepth 100000 in
set_option maxHeartbeats 4000000 in
theorem rBetween_way (x1 x2 x3 y1 y2 y3 num den d1 d2 d3 m1 m2 m3 q1 q2 q3 r1 r2 r3 : Int) (e1 : IntKind.i64.wrap (d1 * num) = m1) (e2 : IntKind.i64.wrap (d2 * num) = m2) (e3 : IntKind.i64.wrap (d3 * num) = m3)
    (H1 : ∀ w, Calls Try.prog 23 #[vv y1 y2 y3, vv x1 x2 x3] w (Ret (vv d1 d2 d3) w)) (R1 : ∀ w, Calls Try.prog 54 #[.int .i64 m1, .int .i64 den] w (Qt (.int .i64 q1) w)) (R2 : ∀ w, Calls Try.prog 54 #[.int .i64 m2, .int .i64 den] w (Qt (.int .i64 q2) w)) (R3 : ∀ w, Calls Try.prog 54 #[.int .i64 m3, .int .i64 den] w (Qt (.int .i64 q3) w)) (H2 : ∀ w, Calls Try.prog 22 #[vv x1 x2 x3, vv q1 q2 q3] w (Ret (vv r1 r2 r3) w)) (w : World) :
    Calls Try.prog 32 #[vv x1 x2 x3, vv y1 y2 y3, .int .i64 num, .int .i64 den] w (Ret (vv r1 r2 r3) w) := by
  have H1 := Lib.hid H1
  have H2 := Lib.hid H2
  have R1 := Lib.hid R1
  have R2 := Lib.hid R2
  have R3 := Lib.hid R3
  go_enter Try.func32, Try.ntmps32
  go_wp2_with fail
  obtain ⟨w0, hw0⟩ : ∃ w0 : World, w0 = ((w.alloc (.cells #[.int .i64 x1, .int .i64 x2, .int .i64 x3] 23)).alloc (.cells #[.int .i64 y1, .int .i64 y2, .int .i64 y3] 23)).alloc (.cells #[.int .i64 0, .int .i64 0, .int .i64 0] 23) := ⟨_, rfl⟩
  have hb0 : Hid (Below w.heap.size w w0) := by rw [hw0]; exact ((below_one w _).alloc (by simp) _).alloc (by simp; omega) _
  have hv0 : Hid (V3 w0 w.heap.size x1 x2 x3) := by rw [hw0]; exact ⟨by simp [go_sem], by simp [go_sem], by simp [go_sem]⟩
  have hv1 : Hid (V3 w0 (w.heap.size + 1) y1 y2 y3) := by rw [hw0]; exact ⟨by simp [go_sem], by simp [go_sem], by simp [go_sem]⟩
  have hv2 : Hid (V3 w0 (w.heap.size + 1 + 1) 0 0 0) := by rw [hw0]; exact ⟨by simp [go_sem], by simp [go_sem], by simp [go_sem]⟩
  have f20 : w0.frozen? ⟨w.heap.size + 1 + 1, 0, none⟩ = false := by rw [hw0]; simp [go_sem]
  have f21 : w0.frozen? ⟨w.heap.size + 1 + 1, 1, none⟩ = false := by rw [hw0]; simp [go_sem]
  have f22 : w0.frozen? ⟨w.heap.size + 1 + 1, 2, none⟩ = false := by rw [hw0]; simp [go_sem]
  have F2 := Lib.hid (And.intro f20 (And.intro f21 f22))
  clear f20 f21 f22
  rw [← hw0]
  clear hw0
  obtain ⟨k00, k01, k02⟩ := hv0.out.below (Below.refl _ _)
  obtain ⟨k10, k11, k12⟩ := hv1.out.below (Below.refl _ _)
  refine (H1.out _).mono ?_
  rintro e wa ⟨rfl, ba⟩
  have hv0 := Lib.hid (hv0.out.below ba)
  have I2 := Lib.hid (show VF wa (w.heap.size + 1 + 1) (0, 0, 0) from VF.below ⟨hv2.out, F2.out.1, F2.out.2.1, F2.out.2.2⟩ ba)
  have hb0 := Lib.hid (chain hb0.out ba)
  have hsz : w.heap.size + 1 + 1 < wa.heap.size := World.block_lt_of_cell? wa _ I2.out.1.1
  have Hsz := Lib.hid hsz
  clear ba k00 k01 k02 k10 k11 k12 hv1 hv2 F2 hsz
  go_upto_region 2 with (fail)
  obtain ⟨wb, hwb⟩ : ∃ wb : World, wb = wa.alloc (.cells #[.int .i64 d1, .int .i64 d2, .int .i64 d3] 23) := ⟨_, rfl⟩
  have bb : Below wa.heap.size wa wb := by rw [hwb]; exact below_one _ _
  have hv3 : Hid (V3 wb wa.heap.size d1 d2 d3) := by rw [hwb]; exact ⟨by simp [go_sem], by simp [go_sem], by simp [go_sem]⟩
  rw [← hwb]
  clear hwb
  have hv0 := Lib.hid (hv0.out.below bb)
  have I2 := Lib.hid (I2.out.below bb)
  have hb0 := Lib.hid (chain hb0.out bb)
  have n1 : ¬ (wa.heap.size = w.heap.size + 1 + 1) := by have := Hsz.out; omega
  have n2 : ¬ (w.heap.size + 1 + 1 = wa.heap.size) := by have := Hsz.out; omega
  have n3 : ¬ (w.heap.size = w.heap.size + 1 + 1) := by omega
  have n4 : ¬ (w.heap.size + 1 + 1 = w.heap.size) := by omega
  clear bb
  have C0 := Lib.hid (Below.refl wb.heap.size wb)
  obtain ⟨k00, k01, k02⟩ := hv0.out
  obtain ⟨k30, k31, k32⟩ := hv3.out
  obtain ⟨⟨p20, p21, p22⟩, g20, g21, g22⟩ := I2.out
  simp only at p20 p21 p22
  go_region_held3 (fun W' => W'.cell? ⟨w.heap.size, 0, none⟩ = some (.int .i64 x1) ∧ W'.cell? ⟨w.heap.size, 1, none⟩ = some (.int .i64 x2) ∧ W'.cell? ⟨w.heap.size, 2, none⟩ = some (.int .i64 x3) ∧ W'.cell? ⟨wa.heap.size, 0, none⟩ = some (.int .i64 d1) ∧ W'.cell? ⟨wa.heap.size, 1, none⟩ = some (.int .i64 d2) ∧ W'.cell? ⟨wa.heap.size, 2, none⟩ = some (.int .i64 d3)) (go_keep)
    (first
      | (go_at_call 54; (with_reducible refine (R1.out _).mono ?_); rintro e w1 ⟨rfl, rfl⟩)
      | (go_at_call 54; (with_reducible refine (R2.out _).mono ?_); rintro e w1 ⟨rfl, rfl⟩)
      | (go_at_call 54; (with_reducible refine (R3.out _).mono ?_); rintro e w1 ⟨rfl, rfl⟩)
      | (go_at_call 22; (with_reducible refine (H2.out _).mono ?_); rintro e w2 ⟨rfl, b2⟩; (try (have b2 := undrew b2)); have C2 := Lib.hid (chain C0.out b2); clear b2; obtain ⟨p00, p01, p02⟩ := hv0.out.below C2.out; obtain ⟨p30, p31, p32⟩ := hv3.out.below C2.out; obtain ⟨⟨u20, u21, u22⟩, f20, f21, f22⟩ := I2.out.below C2.out; simp only at u20 u21 u22)
      | fail)
  have HB := Lib.hid (chain hb0.out C2.out)
  have HZ := Lib.hid (((HB.out.setCell (p := ⟨w.heap.size + 1 + 1, 0, none⟩) (by simp; omega) (.int .i64 r1)).setCell (p := ⟨w.heap.size + 1 + 1, 1, none⟩) (by simp; omega) (.int .i64 r2)).setCell (p := ⟨w.heap.size + 1 + 1, 2, none⟩) (by simp; omega) (.int .i64 r3))
  go_wp2
  exact bodyPost_ret (v := vv r1 r2 r3) (by simp [results, Try.results32, go_sem, u20, u21, u22]) rfl ⟨rfl, by first | exact HZ.out | exact HZ.out.drew⟩
end Go.Proofs.Ytdicbeaocedkmaa
