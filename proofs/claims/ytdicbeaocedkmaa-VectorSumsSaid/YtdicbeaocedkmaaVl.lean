/- vector.Box: the smallest and the greatest parts of some vectors, one at least. -/
import Derived.Test.YtdicbeaocedkmaaVk
import Derived.BigRegion
set_option linter.all false
namespace Go.Proofs.Ytdicbeaocedkmaa
open Go.RowKit

set_option maxRecDepth 100000 in
set_option maxHeartbeats 4000000 in
theorem Box_one (a : T3) (T : List T3) (p0 : Option Addr) (m0 : Nat) (w : World) (hl : Rv w (.slice p0 m0 1) (a :: T)) (h : inL 16777216 (a :: T) = true) :
    Calls Try.prog 35 #[.slice p0 m0 1] w (Ret (.tuple #[vv (T.foldl m3 a).1 (T.foldl m3 a).2.1 (T.foldl m3 a).2.2, vv (T.foldl M3 a).1 (T.foldl M3 a).2.1 (T.foldl M3 a).2.2, .int .i64 0]) w) := by
  have HA := Lib.hid (fun v' w' (h' : Rv w' v' (a :: T)) => allValid_any (a :: T) v' w' h')
  rw [h] at HA
  have hl2 := hl
  obtain ⟨p, b, off, cap, hq, q2, q3, q4, q5⟩ := hl
  injection hq with hq1 hq2 hq3
  subst hq1 hq2
  subst hq3
  have HL := Lib.hid hl2
  have H5 := Lib.hid (fun k hk => q5 (k + 1) (by simpa using hk : k + 1 < (a :: T).length))
  obtain ⟨x, y, z⟩ := a
  have H0 := Lib.hid (q5 0 (by simp))
  simp only [List.length_cons, List.getElem_cons_zero, List.getElem_cons_succ, Nat.zero_mul, Nat.add_zero] at H0 H5 q2 q4 ⊢
  obtain rfl := q4 (by omega)
  obtain ⟨n, hn⟩ : ∃ n, n = T.length := ⟨_, rfl⟩
  rw [← hn] at q2 ⊢
  have hmx : n + 1 ≤ 9223372036854775807 := by unfold maxLen at q3; omega
  have HN := Lib.hid hn
  clear h hl2 q3 q4 q5 hn
  go_enter Try.func35, Try.ntmps35
  go_wp2_with fail
  obtain ⟨w0, hw0⟩ : ∃ w0 : World, w0 = (w.alloc (.cells #[.int .i64 0, .int .i64 0, .int .i64 0] 23)).alloc (.cells #[.int .i64 0, .int .i64 0, .int .i64 0] 23) := ⟨_, rfl⟩
  have hb0 : Hid (Below w.heap.size w w0) := by rw [hw0]; exact (below_one w _).alloc (by simp) _
  have I0 : Hid (VF w0 w.heap.size (0, 0, 0)) := by rw [hw0]; exact ⟨⟨by simp [go_sem], by simp [go_sem], by simp [go_sem]⟩, by simp [go_sem], by simp [go_sem], by simp [go_sem]⟩
  have I1 : Hid (VF w0 (w.heap.size + 1) (0, 0, 0)) := by rw [hw0]; exact ⟨⟨by simp [go_sem], by simp [go_sem], by simp [go_sem]⟩, by simp [go_sem], by simp [go_sem], by simp [go_sem]⟩
  rw [← hw0]
  clear hw0
  have hr : Rv w0 (.slice (some ⟨b, off, none⟩) (n + 1) 1) ((x, y, z) :: T) := by
    have := HL.out.below hb0.out
    rw [List.length_cons, ← HN.out] at this
    exact this
  have HR := Lib.hid hr
  clear hr
  refine (HA.out _ _ HR.out).mono ?_
  rintro e wa ⟨rfl, ba⟩
  obtain ⟨⟨a0, a1, a2⟩, a3, a4, a5⟩ := I0.out.below ba
  obtain ⟨⟨b0, b1, b2⟩, b3, b4, b5⟩ := I1.out.below ba
  have HB := Lib.hid (chain hb0.out ba)
  clear ba
  have c0 := keep1 HB.out H0.out.1
  have c1 := keep1 HB.out H0.out.2.1
  have c2 := keep1 HB.out H0.out.2.2
  have n1 : ¬ (w.heap.size = w.heap.size + 1) := by omega
  have n2 : ¬ (w.heap.size + 1 = w.heap.size) := by omega
  have hlt : b < w.heap.size := World.block_lt_of_cell? w _ H0.out.1
  have n3 : ¬ (b = w.heap.size) := by omega
  have n4 : ¬ (b = w.heap.size + 1) := by omega
  have n5 : ¬ (w.heap.size = b) := by omega
  have n6 : ¬ (w.heap.size + 1 = b) := by omega
  have f1 : (((n : Int) + 1) == 0) = false := by rw [beq_eq_false_iff_ne]; omega
  have D0 : Hid (VF wa w.heap.size (0, 0, 0)) := ⟨⟨a0, a1, a2⟩, a3, a4, a5⟩
  have D1 : Hid (VF wa (w.heap.size + 1) (0, 0, 0)) := ⟨⟨b0, b1, b2⟩, b3, b4, b5⟩
  go_wp2
  go_region
  obtain ⟨w1, hw1⟩ : ∃ w1 : World, w1 = ((((((wa.setCell { block := w.heap.size, off := 0 } (Value.int IntKind.i64 x)).setCell { block := w.heap.size, off := 1 } (Value.int IntKind.i64 y)).setCell { block := w.heap.size, off := 2 } (Value.int IntKind.i64 z)).setCell { block := w.heap.size + 1, off := 0 } (Value.int IntKind.i64 x)).setCell { block := w.heap.size + 1, off := 1 } (Value.int IntKind.i64 y)).setCell { block := w.heap.size + 1, off := 2 } (Value.int IntKind.i64 z)).drew := ⟨_, rfl⟩
  have J0 : Hid (VF w1 w.heap.size (x, y, z)) := by rw [hw1]; exact VF.drew ((D0.out.set x y z).other n1 _ _ _)
  have J1 : Hid (VF w1 (w.heap.size + 1) (x, y, z)) := by rw [hw1]; exact VF.drew ((D1.out.other n2 _ _ _).set x y z)
  have JB : Hid (Below w.heap.size w w1) := by
    rw [hw1]
    exact ((((((HB.out.setCell (p := ⟨w.heap.size, 0, none⟩) (by simp) _).setCell (p := ⟨w.heap.size, 1, none⟩) (by simp) _).setCell (p := ⟨w.heap.size, 2, none⟩) (by simp) _).setCell (p := ⟨w.heap.size + 1, 0, none⟩) (by simp) _).setCell (p := ⟨w.heap.size + 1, 1, none⟩) (by simp) _).setCell (p := ⟨w.heap.size + 1, 2, none⟩) (by simp) _).drew
  rw [← hw1]
  clear hw1 a0 a1 a2 a3 a4 a5 b0 b1 b2 b3 b4 b5 c0 c1 c2 f1 HB I0 I1 D0 D1 HR HA HL
  have hn0 : n = 0 := by omega
  subst hn0
  obtain rfl : T = [] := List.eq_nil_of_length_eq_zero HN.out.symm
  go_wp2
  refine wp_loop_rounds 1 ?_
  rw [rounds_succ]
  obtain ⟨⟨a0, a1, a2⟩, a3, a4, a5⟩ := J0.out
  obtain ⟨⟨b0, b1, b2⟩, b3, b4, b5⟩ := J1.out
  simp only at a0 a1 a2 b0 b1 b2
  go_wp2
  go_region
  go_wp2
  exact bodyPost_ret (v := .tuple #[vv x y z, vv x y z, .int .i64 0]) (by simp [results, Try.results35, go_sem, a0, a1, a2, b0, b1, b2, n1, n2]) rfl ⟨rfl, (below_set3 (below_set3 JB.out (Nat.le_refl _) _ _ _) (Nat.le_succ _) _ _ _).drew⟩
end Go.Proofs.Ytdicbeaocedkmaa
