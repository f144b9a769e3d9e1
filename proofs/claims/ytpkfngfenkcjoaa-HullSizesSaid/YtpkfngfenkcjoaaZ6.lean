/- What the theorem leans on, part 6: Phk, Phl, Phm, Phn, Pho, Round, Rnd2. -/
import Derived.Test.YtpkfngfenkcjoaaZ5
import Derived.RangeFuncNested
import Derived.RangeFuncBound
import Derived.RangeFuncCalls
import Derived.RangeFuncLeaves
import Derived.Shelf.Abstract
import Derived.Shelf.RegionOpen
import Derived.WalkKit
import Derived.OwnWalkIn
import Derived.TacticsInMore
import Derived.LoopNIn
import Derived.LoopIn
import Derived.Sort.CutIn
import Derived.OrdersIn
import Derived.Deep.RegionHeld

/- hull.Valid, hull.Hull, slices.Concat of two, hull.Merge: walks. -/
set_option linter.all false
namespace Go.Proofs.Ytpkfngfenkcjoaa
open Go.RowKit Go.Sort Go.Lib

set_option maxRecDepth 100000 in
set_option maxHeartbeats 4000000 in
theorem valid_0 (p : Option Addr) (n cap : Nat) (w : World) (h0 : ¬ (0 : Int) < (n : Int))  :
    Calls Try.prog 19 #[.slice p n cap] w (Ret (.bool false) w) := by
  have E := Lib.hid (Below.refl w.heap.size w)
  go_enter Try.func19, Try.ntmps19
  go_wp2
  go_ret
  exact ⟨by first | rfl | (show Ending.returned (Value.bool (decide ((n : Int) ≤ 2))) = _; rw [decide_eq_false (by omega)]), by first | exact E.out | exact E.out.drew⟩

set_option maxRecDepth 100000 in
set_option maxHeartbeats 4000000 in
theorem valid_1 (p : Option Addr) (n cap : Nat) (w : World) (h0 : (0 : Int) < (n : Int)) (H0 : ∀ w', Below w.heap.size w w' → Calls Try.prog 32 #[.slice p n cap] w' (Ret (.bool false) w')) :
    Calls Try.prog 19 #[.slice p n cap] w (Ret (.bool false) w) := by
  have H0 := Lib.hid H0
  have E := Lib.hid (Below.refl w.heap.size w)
  go_enter Try.func19, Try.ntmps19
  go_wp2_with fail
  refine (H0.out _ (by first | exact E.out | exact E.out.drew)).mono ?_
  rintro e y ⟨rfl, b⟩
  have E := Lib.hid (chain E.out b)
  clear b
  go_wp2
  go_ret
  exact ⟨by first | rfl | (show Ending.returned (Value.bool (decide ((n : Int) ≤ 2))) = _; rw [decide_eq_false (by omega)]), by first | exact E.out | exact E.out.drew⟩

set_option maxRecDepth 100000 in
set_option maxHeartbeats 4000000 in
theorem valid_2 (p : Option Addr) (n cap : Nat) (w : World) (h0 : (0 : Int) < (n : Int)) (H0 : ∀ w', Below w.heap.size w w' → Calls Try.prog 32 #[.slice p n cap] w' (Ret (.bool true) w')) (H1 : ∀ w', Below w.heap.size w w' → Calls Try.prog 39 #[.slice p n cap] w' (Ret (.bool false) w')) :
    Calls Try.prog 19 #[.slice p n cap] w (Ret (.bool false) w) := by
  have H0 := Lib.hid H0
  have H1 := Lib.hid H1
  have E := Lib.hid (Below.refl w.heap.size w)
  go_enter Try.func19, Try.ntmps19
  go_wp2_with fail
  refine (H0.out _ (by first | exact E.out | exact E.out.drew)).mono ?_
  rintro e y ⟨rfl, b⟩
  have E := Lib.hid (chain E.out b)
  clear b
  go_wp2_with fail
  refine (H1.out _ (by first | exact E.out | exact E.out.drew)).mono ?_
  rintro e y ⟨rfl, b⟩
  have E := Lib.hid (chain E.out b)
  clear b
  go_wp2
  go_ret
  exact ⟨by first | rfl | (show Ending.returned (Value.bool (decide ((n : Int) ≤ 2))) = _; rw [decide_eq_false (by omega)]), by first | exact E.out | exact E.out.drew⟩

set_option maxRecDepth 100000 in
set_option maxHeartbeats 4000000 in
theorem valid_3 (p : Option Addr) (n cap : Nat) (w : World) (h0 : (0 : Int) < (n : Int)) (H0 : ∀ w', Below w.heap.size w w' → Calls Try.prog 32 #[.slice p n cap] w' (Ret (.bool true) w')) (H1 : ∀ w', Below w.heap.size w w' → Calls Try.prog 39 #[.slice p n cap] w' (Ret (.bool true) w')) (H2 : ∀ w', Below w.heap.size w w' → Calls Try.prog 40 #[.slice p n cap] w' (Ret (.bool false) w')) :
    Calls Try.prog 19 #[.slice p n cap] w (Ret (.bool false) w) := by
  have H0 := Lib.hid H0
  have H1 := Lib.hid H1
  have H2 := Lib.hid H2
  have E := Lib.hid (Below.refl w.heap.size w)
  go_enter Try.func19, Try.ntmps19
  go_wp2_with fail
  refine (H0.out _ (by first | exact E.out | exact E.out.drew)).mono ?_
  rintro e y ⟨rfl, b⟩
  have E := Lib.hid (chain E.out b)
  clear b
  go_wp2_with fail
  refine (H1.out _ (by first | exact E.out | exact E.out.drew)).mono ?_
  rintro e y ⟨rfl, b⟩
  have E := Lib.hid (chain E.out b)
  clear b
  go_wp2_with fail
  refine (H2.out _ (by first | exact E.out | exact E.out.drew)).mono ?_
  rintro e y ⟨rfl, b⟩
  have E := Lib.hid (chain E.out b)
  clear b
  go_wp2
  go_ret
  exact ⟨by first | rfl | (show Ending.returned (Value.bool (decide ((n : Int) ≤ 2))) = _; rw [decide_eq_false (by omega)]), by first | exact E.out | exact E.out.drew⟩

set_option maxRecDepth 100000 in
set_option maxHeartbeats 4000000 in
theorem valid_4 (p : Option Addr) (n cap : Nat) (w : World) (h0 : (0 : Int) < (n : Int)) (h1 : (n : Int) ≤ 2) (H0 : ∀ w', Below w.heap.size w w' → Calls Try.prog 32 #[.slice p n cap] w' (Ret (.bool true) w')) (H1 : ∀ w', Below w.heap.size w w' → Calls Try.prog 39 #[.slice p n cap] w' (Ret (.bool true) w')) (H2 : ∀ w', Below w.heap.size w w' → Calls Try.prog 40 #[.slice p n cap] w' (Ret (.bool true) w')) :
    Calls Try.prog 19 #[.slice p n cap] w (Ret (.bool true) w) := by
  have H0 := Lib.hid H0
  have H1 := Lib.hid H1
  have H2 := Lib.hid H2
  have E := Lib.hid (Below.refl w.heap.size w)
  go_enter Try.func19, Try.ntmps19
  go_wp2_with fail
  refine (H0.out _ (by first | exact E.out | exact E.out.drew)).mono ?_
  rintro e y ⟨rfl, b⟩
  have E := Lib.hid (chain E.out b)
  clear b
  go_wp2_with fail
  refine (H1.out _ (by first | exact E.out | exact E.out.drew)).mono ?_
  rintro e y ⟨rfl, b⟩
  have E := Lib.hid (chain E.out b)
  clear b
  go_wp2_with fail
  refine (H2.out _ (by first | exact E.out | exact E.out.drew)).mono ?_
  rintro e y ⟨rfl, b⟩
  have E := Lib.hid (chain E.out b)
  clear b
  go_wp2
  go_ret
  exact ⟨by first | rfl | (show Ending.returned (Value.bool (decide ((n : Int) ≤ 2))) = _; rw [decide_eq_false (by omega)]), by first | exact E.out | exact E.out.drew⟩

set_option maxRecDepth 100000 in
set_option maxHeartbeats 4000000 in
theorem valid_5t (p : Option Addr) (n cap : Nat) (w : World) (h0 : (0 : Int) < (n : Int)) (h1 : ¬ (n : Int) ≤ 2) (H0 : ∀ w', Below w.heap.size w w' → Calls Try.prog 32 #[.slice p n cap] w' (Ret (.bool true) w')) (H1 : ∀ w', Below w.heap.size w w' → Calls Try.prog 39 #[.slice p n cap] w' (Ret (.bool true) w')) (H2 : ∀ w', Below w.heap.size w w' → Calls Try.prog 40 #[.slice p n cap] w' (Ret (.bool true) w')) (H3 : ∀ w', Below w.heap.size w w' → Calls Try.prog 41 #[.slice p n cap] w' (Ret (.bool true) w')) :
    Calls Try.prog 19 #[.slice p n cap] w (Ret (.bool true) w) := by
  have H0 := Lib.hid H0
  have H1 := Lib.hid H1
  have H2 := Lib.hid H2
  have H3 := Lib.hid H3
  have E := Lib.hid (Below.refl w.heap.size w)
  go_enter Try.func19, Try.ntmps19
  go_wp2_with fail
  refine (H0.out _ (by first | exact E.out | exact E.out.drew)).mono ?_
  rintro e y ⟨rfl, b⟩
  have E := Lib.hid (chain E.out b)
  clear b
  go_wp2_with fail
  refine (H1.out _ (by first | exact E.out | exact E.out.drew)).mono ?_
  rintro e y ⟨rfl, b⟩
  have E := Lib.hid (chain E.out b)
  clear b
  go_wp2_with fail
  refine (H2.out _ (by first | exact E.out | exact E.out.drew)).mono ?_
  rintro e y ⟨rfl, b⟩
  have E := Lib.hid (chain E.out b)
  clear b
  go_wp2_with fail
  refine (H3.out _ (by first | exact E.out | exact E.out.drew)).mono ?_
  rintro e y ⟨rfl, b⟩
  have E := Lib.hid (chain E.out b)
  clear b
  go_wp2
  go_ret
  exact ⟨by first | rfl | (show Ending.returned (Value.bool (decide ((n : Int) ≤ 2))) = _; rw [decide_eq_false (by omega)]), by first | exact E.out | exact E.out.drew⟩

set_option maxRecDepth 100000 in
set_option maxHeartbeats 4000000 in
theorem valid_5f (p : Option Addr) (n cap : Nat) (w : World) (h0 : (0 : Int) < (n : Int)) (h1 : ¬ (n : Int) ≤ 2) (H0 : ∀ w', Below w.heap.size w w' → Calls Try.prog 32 #[.slice p n cap] w' (Ret (.bool true) w')) (H1 : ∀ w', Below w.heap.size w w' → Calls Try.prog 39 #[.slice p n cap] w' (Ret (.bool true) w')) (H2 : ∀ w', Below w.heap.size w w' → Calls Try.prog 40 #[.slice p n cap] w' (Ret (.bool true) w')) (H3 : ∀ w', Below w.heap.size w w' → Calls Try.prog 41 #[.slice p n cap] w' (Ret (.bool false) w')) :
    Calls Try.prog 19 #[.slice p n cap] w (Ret (.bool false) w) := by
  have H0 := Lib.hid H0
  have H1 := Lib.hid H1
  have H2 := Lib.hid H2
  have H3 := Lib.hid H3
  have E := Lib.hid (Below.refl w.heap.size w)
  go_enter Try.func19, Try.ntmps19
  go_wp2_with fail
  refine (H0.out _ (by first | exact E.out | exact E.out.drew)).mono ?_
  rintro e y ⟨rfl, b⟩
  have E := Lib.hid (chain E.out b)
  clear b
  go_wp2_with fail
  refine (H1.out _ (by first | exact E.out | exact E.out.drew)).mono ?_
  rintro e y ⟨rfl, b⟩
  have E := Lib.hid (chain E.out b)
  clear b
  go_wp2_with fail
  refine (H2.out _ (by first | exact E.out | exact E.out.drew)).mono ?_
  rintro e y ⟨rfl, b⟩
  have E := Lib.hid (chain E.out b)
  clear b
  go_wp2_with fail
  refine (H3.out _ (by first | exact E.out | exact E.out.drew)).mono ?_
  rintro e y ⟨rfl, b⟩
  have E := Lib.hid (chain E.out b)
  clear b
  go_wp2
  go_ret
  exact ⟨by first | rfl | (show Ending.returned (Value.bool (decide ((n : Int) ≤ 2))) = _; rw [decide_eq_false (by omega)]), by first | exact E.out | exact E.out.drew⟩

set_option maxRecDepth 100000 in
set_option maxHeartbeats 4000000 in
theorem hull_bad (p : Option Addr) (n cap : Nat) (w : World)  (H0 : ∀ w', Below w.heap.size w w' → Calls Try.prog 32 #[.slice p n cap] w' (Ret (.bool false) w')) :
    Calls Try.prog 15 #[.slice p n cap] w (Ret (.tuple #[.slice none 0 0, .int .i64 2]) w) := by
  have H0 := Lib.hid H0
  have E := Lib.hid (Below.refl w.heap.size w)
  go_enter Try.func15, Try.ntmps15
  go_wp2_with fail
  refine (H0.out _ E.out).mono ?_
  rintro e y ⟨rfl, b⟩
  have E := Lib.hid (chain E.out b)
  clear b
  go_wp2
  go_ret2
  exact ⟨rfl, E.out⟩

set_option maxRecDepth 100000 in
set_option maxHeartbeats 4000000 in
theorem hull_none (p : Option Addr) (n cap : Nat) (w : World) (h0 : (n : Int) = 0) (H0 : ∀ w', Below w.heap.size w w' → Calls Try.prog 32 #[.slice p n cap] w' (Ret (.bool true) w')) :
    Calls Try.prog 15 #[.slice p n cap] w (Ret (.tuple #[.slice none 0 0, .int .i64 9]) w) := by
  have H0 := Lib.hid H0
  have E := Lib.hid (Below.refl w.heap.size w)
  go_enter Try.func15, Try.ntmps15
  go_wp2_with fail
  refine (H0.out _ E.out).mono ?_
  rintro e y ⟨rfl, b⟩
  have E := Lib.hid (chain E.out b)
  clear b
  go_wp2
  go_ret2
  exact ⟨rfl, E.out⟩

set_option maxRecDepth 100000 in
set_option maxHeartbeats 4000000 in
theorem hull_way (p : Option Addr) (n cap : Nat) (w : World) (M : List T3) (h0 : ¬ (n : Int) = 0) (H0 : ∀ w', Below w.heap.size w w' → Calls Try.prog 32 #[.slice p n cap] w' (Ret (.bool true) w'))
    (H1 : ∀ w', Below w.heap.size w w' → Calls Try.prog 33 #[.slice p n cap] w' fun e w2 => ∃ vo, e = .returned vo ∧ RowV w2 w'.heap.size vo M ∧ Below w'.heap.size w' w2) :
    Calls Try.prog 15 #[.slice p n cap] w fun e w' => ∃ vo, e = .returned (.tuple #[vo, .int .i64 0]) ∧ RowV w' w.heap.size vo M ∧ Below w.heap.size w w' := by
  have H0 := Lib.hid H0
  have H1 := Lib.hid H1
  have E := Lib.hid (Below.refl w.heap.size w)
  go_enter Try.func15, Try.ntmps15
  go_wp2_with fail
  refine (H0.out _ E.out).mono ?_
  rintro e y ⟨rfl, b⟩
  have E := Lib.hid (chain E.out b)
  clear b
  go_wp2_with fail
  refine (H1.out _ E.out).mono ?_
  rintro e y2 ⟨vo, rfl, hr, b⟩
  have HR := Lib.hid (hr.lower E.out.size)
  have E := Lib.hid (chain E.out b)
  clear b hr
  go_wp2
  go_ret2
  exact ⟨vo, rfl, HR.out, E.out⟩

set_option maxRecDepth 100000 in
set_option maxHeartbeats 4000000 in
theorem grow_vecs (n : Nat) (w : World) (hn : n ≤ 1000000) :
    Calls Try.prog 64 #[.slice none 0 0, .int .i64 (n : Int)] w fun e w' => ∃ vo, e = .returned vo ∧ RowV w' w.heap.size vo [] ∧ Below w.heap.size w w' := by
  have w0 : IntKind.i64.wrap ((n : Int) - 0) = (n : Int) := by rw [Int.sub_zero]; exact wrap_in (by omega)
  have w1 : IntKind.i64.wrap (n : Int) = (n : Int) := wrap_in (by omega)
  have hn0 : ¬ (n : Int) < 0 := by omega
  by_cases h0 : n = 0
  · subst h0
    go_enter Try.func64, Try.ntmps64
    go_wp2
    go_ret
    exact ⟨_, rfl, RowV.nil _ _, Below.refl _ _⟩
  · have h1 : (0 : Int) < (n : Int) := by omega
    have hnc : Builtin.nextslicecap n 0 = n := by simp [Builtin.nextslicecap]; omega
    have hb1 : ¬ 281474976710656 < Builtin.nextslicecap n 0 * Try.t24.bytes := by rw [hnc, show Try.t24.bytes = 24 from by kernel_rfl]; omega
    have hb2 : (n : Int) * ((Try.t24.bytes : Nat) : Int) ≤ 281474976710656 := by rw [show Try.t24.bytes = 24 from by kernel_rfl]; omega
    go_enter Try.func64, Try.ntmps64
    go_wp2
    have c1 : n ≤ grownCap w n 0 24 := grownCap_ge w n 0 _
    have c2 : grownCap w n 0 24 ≤ maxLen := grownCap_le_maxLen w n 0 _ (by unfold maxLen; omega)
    refine bodyPost_ret (v := .slice (some ⟨w.heap.size, 0, none⟩) 0 (grownCap w n 0 24)) (by simp [results, Try.results64, go_sem]; rfl) rfl ⟨_, rfl, ?_, ?_⟩
    · refine RowV.of (L := []) rfl (Nat.le_refl _) (heap_alloc_new w _) (Nat.zero_le _) c2 ?_ (by simp [cv])
      have e : ∀ m, (Builtin.zeroCells #[Value.int IntKind.i64 0, Value.int IntKind.i64 0, Value.int IntKind.i64 0] m).size = m * 3 := fun m => by simp [Builtin.zeroCells]
      rw [Array.size_append, e, e]
      show n * 3 + (grownCap w n 0 24 - n) * 3 = grownCap w n 0 24 * 3
      omega
    · exact (below_one w _).drew

set_option maxRecDepth 100000 in
set_option maxHeartbeats 4000000 in
theorem concat_any (L M : List T3) (v1 v2 : Value) (g : Nat) (w : World) (hL : Rv w v1 L) (hM : Rv w v2 M) (hl : L.length ≤ 10000) (hm : M.length ≤ 10000) (hl0 : L ≠ []) (hm0 : M ≠ [])
    (k0 : w.cell? ⟨g, 0, none⟩ = some v1) (k1 : w.cell? ⟨g, 1, none⟩ = some v2) :
    Calls Try.prog 38 #[.slice (some ⟨g, 0, none⟩) 2 2] w fun e w' => ∃ vo, e = .returned vo ∧ RowV w' w.heap.size vo (L ++ M) ∧ Below w.heap.size w w' := by
  obtain ⟨p1, b1, o1, cap1, rfl, -⟩ := id hL
  obtain ⟨p2, b2, o2, cap2, rfl, -⟩ := id hM
  have HL := Lib.hid hL
  have HM := Lib.hid hM
  have K := Lib.hid (And.intro k0 k1)
  have hlH := Lib.hid hl
  have HL0 := Lib.hid hl0
  have HM0 := Lib.hid hm0
  clear hl0 hm0
  have hmH := Lib.hid hm
  obtain ⟨n1, hn1⟩ : ∃ q, q = L.length := ⟨_, rfl⟩
  obtain ⟨n2, hn2⟩ : ∃ q, q = M.length := ⟨_, rfl⟩
  rw [← hn1] at hl HL K k0 hL
  rw [← hn2] at hm HM K k1 hM
  have HN1 := Lib.hid hn1
  have HN2 := Lib.hid hn2
  clear hL hM hn1 hn2
  have w1 : IntKind.i64.wrap ((0 : Int) + (n1 : Int)) = ((n1 : Nat) : Int) := by rw [Int.zero_add]; exact wrap_in (by omega)
  have w2 : IntKind.i64.wrap ((n1 : Int) + (n2 : Int)) = ((n1 + n2 : Nat) : Int) := by rw [Int.natCast_add]; exact wrap_in (by omega)
  have h1 : ¬ (n1 : Int) < 0 := by omega
  have h2 : ¬ ((n1 + n2 : Nat) : Int) < 0 := by omega
  have HG := Lib.hid (fun w => grow_vecs (n1 + n2) w (by omega))
  generalize n1 + n2 = n3 at *
  go_enter Try.func38, Try.ntmps38
  go_wp2
  refine wp_loop_rounds 3 ?_
  rw [rounds_succ]
  go_wp2
  rw [rounds_succ]
  go_wp2
  rw [rounds_succ]
  go_wp2_with fail
  refine (HG.out w).mono ?_
  rintro e y ⟨v0, rfl, hr, b⟩
  have HR := Lib.hid hr
  have E := Lib.hid b
  have HL1 := Lib.hid (HL.out.below b)
  have HM1 := Lib.hid (HM.out.below b)
  have k0 := keep1 b K.out.1
  have k1 := keep1 b K.out.2
  have HY : Hid (w.heap.size ≤ y.heap.size) := b.size
  clear hr b
  go_wp2
  refine wp_loop_rounds 3 ?_
  rw [rounds_succ]
  go_wp2_with (first
    | (at_builtin; go_loud (refine wpList_append_V rfl rfl _ _ rfl rfl rfl HR.out HL1.out (by show 0 ≤ 1000000; decide) (by have := hlH.out; omega) HY.out (fun e => absurd e HL0.out) ?_); intro v6 w6 hrow6 hg6; have HR2 := Lib.hid hrow6; have E2 := Lib.hid (Below.grown_row E.out HY.out HR.out hg6); have hg7 := Lib.hid hg6; clear hrow6 hg6))
  have HM2 := Lib.hid (HM.out.below E2.out)
  have k0 := keep1 E2.out K.out.1
  have k1 := keep1 E2.out K.out.2
  have HY2 : Hid (w.heap.size ≤ w6.heap.size) := E2.out.size
  rw [rounds_succ]
  go_wp2_with (first
    | (at_builtin; go_loud (refine wpList_append_V rfl rfl _ _ rfl rfl rfl HR2.out HM2.out (by rw [List.nil_append]; have := hlH.out; omega) (by have := hmH.out; omega) HY2.out (fun e => absurd e HM0.out) ?_); intro v8 w8 hrow6 hg6; have HR3 := Lib.hid hrow6; have E3 := Lib.hid (Below.grown_row E2.out HY2.out HR2.out hg6); clear hrow6 hg6))
  rw [rounds_succ]
  go_wp2
  go_ret
  exact ⟨v8, rfl, by have := HR3.out; rwa [List.nil_append] at this, E3.out⟩

set_option maxRecDepth 100000 in
set_option maxHeartbeats 4000000 in
theorem merge_bad1 (pa pb : Option Addr) (na nb ca cb : Nat) (w : World) (H0 : ∀ w', Below w.heap.size w w' → Calls Try.prog 19 #[.slice pa na ca] w' (Ret (.bool false) w')) :
    Calls Try.prog 18 #[.slice pa na ca, .slice pb nb cb] w (Ret (.tuple #[.slice none 0 0, .int .i64 2]) w) := by
  have H0 := Lib.hid H0
  have E := Lib.hid (Below.refl w.heap.size w)
  go_enter Try.func18, Try.ntmps18
  go_wp2_with fail
  refine (H0.out _ (by first | exact E.out | exact E.out.drew)).mono ?_
  rintro e y ⟨rfl, b⟩
  have E := Lib.hid (chain E.out b)
  clear b
  go_wp2
  go_ret2
  exact ⟨rfl, by first | exact E.out | exact E.out.drew⟩

set_option maxRecDepth 100000 in
set_option maxHeartbeats 4000000 in
theorem merge_bad2 (pa pb : Option Addr) (na nb ca cb : Nat) (w : World) (H0 : ∀ w', Below w.heap.size w w' → Calls Try.prog 19 #[.slice pa na ca] w' (Ret (.bool true) w')) (H1 : ∀ w', Below w.heap.size w w' → Calls Try.prog 19 #[.slice pb nb cb] w' (Ret (.bool false) w')) :
    Calls Try.prog 18 #[.slice pa na ca, .slice pb nb cb] w (Ret (.tuple #[.slice none 0 0, .int .i64 2]) w) := by
  have H0 := Lib.hid H0
  have H1 := Lib.hid H1
  have E := Lib.hid (Below.refl w.heap.size w)
  go_enter Try.func18, Try.ntmps18
  go_wp2_with fail
  refine (H0.out _ (by first | exact E.out | exact E.out.drew)).mono ?_
  rintro e y ⟨rfl, b⟩
  have E := Lib.hid (chain E.out b)
  clear b
  go_wp2_with fail
  refine (H1.out _ (by first | exact E.out | exact E.out.drew)).mono ?_
  rintro e y ⟨rfl, b⟩
  have E := Lib.hid (chain E.out b)
  clear b
  go_wp2
  go_ret2
  exact ⟨rfl, by first | exact E.out | exact E.out.drew⟩

set_option maxRecDepth 100000 in
set_option maxHeartbeats 4000000 in
theorem merge_way (pa pb : Option Addr) (na nb ca cb : Nat) (w : World) (X M : List T3) (H0 : ∀ w', Below w.heap.size w w' → Calls Try.prog 19 #[.slice pa na ca] w' (Ret (.bool true) w')) (H1 : ∀ w', Below w.heap.size w w' → Calls Try.prog 19 #[.slice pb nb cb] w' (Ret (.bool true) w'))
    (H2 : ∀ g w', Below w.heap.size w w' → w'.cell? ⟨g, 0, none⟩ = some (.slice pa na ca) → w'.cell? ⟨g, 1, none⟩ = some (.slice pb nb cb) → Calls Try.prog 38 #[.slice (some ⟨g, 0, none⟩) 2 2] w' fun e w2 => ∃ vo, e = .returned vo ∧ RowV w2 w'.heap.size vo X ∧ Below w'.heap.size w' w2)
    (H3 : ∀ v w' B, RowV w' B v X → Calls Try.prog 33 #[v] w' fun e w2 => ∃ vo, e = .returned vo ∧ RowV w2 w'.heap.size vo M ∧ Below w'.heap.size w' w2) :
    Calls Try.prog 18 #[.slice pa na ca, .slice pb nb cb] w fun e w' => ∃ vo, e = .returned (.tuple #[vo, .int .i64 0]) ∧ RowV w' w.heap.size vo M ∧ Below w.heap.size w w' := by
  have H0 := Lib.hid H0
  have H1 := Lib.hid H1
  have H2 := Lib.hid H2
  have H3 := Lib.hid H3
  have E := Lib.hid (Below.refl w.heap.size w)
  go_enter Try.func18, Try.ntmps18
  go_wp2_with fail
  refine (H0.out _ (by first | exact E.out | exact E.out.drew)).mono ?_
  rintro e y ⟨rfl, b⟩
  have E := Lib.hid (chain E.out b)
  clear b
  go_wp2_with fail
  refine (H1.out _ (by first | exact E.out | exact E.out.drew)).mono ?_
  rintro e y1 ⟨rfl, b⟩
  have E := Lib.hid (chain E.out b)
  clear b
  go_wp2_with fail
  refine (H2.out _ _ (by first | exact E.out.alloc E.out.size _ | exact (E.out.alloc E.out.size _).drew | exact E.out.drew.alloc E.out.size _) (by simp [go_sem]) (by simp [go_sem])).mono ?_
  rintro e y2 ⟨v2, rfl, hr, b⟩
  have HR := Lib.hid hr
  have E := Lib.hid (chain (E.out.alloc E.out.size _) b)
  clear b hr
  go_wp2_with fail
  refine (H3.out _ _ _ HR.out).mono ?_
  rintro e y3 ⟨v3, rfl, hr, b⟩
  have HR := Lib.hid (hr.lower E.out.size)
  have E := Lib.hid (chain E.out b)
  clear b hr
  go_wp2
  go_ret2
  exact ⟨v3, rfl, HR.out, E.out⟩
end Go.Proofs.Ytpkfngfenkcjoaa

/- hull.edges: what a range over it is handed. -/
set_option linter.all false
namespace Go.Proofs.Ytpkfngfenkcjoaa
open Go.RowKit Go.Shelf
attribute [local go_sem] Oper.semAt_some

/-- The first indexes. -/
def ups (n : Nat) : (k : Nat) → k ≤ n → List (Fin n)
  | 0, _ => []
  | k + 1, h => ups n k (by omega) ++ [⟨k, by omega⟩]
theorem ups_length (n k : Nat) (h : k ≤ n) : (ups n k h).length = k := by
  induction k with
  | zero => rfl
  | succ k ih => simp [ups, ih]
theorem nx_lt {n : Nat} (i : Fin n) : (i.val + 1) % n < n := Nat.mod_lt _ (by have := i.isLt; omega)
/-- An edge. -/
def encE (L : List T3) (i : Fin L.length) : Array Value :=
  #[vv L[i.val].1 L[i.val].2.1 L[i.val].2.2, vv (L[(i.val + 1) % L.length]'(nx_lt i)).1 (L[(i.val + 1) % L.length]'(nx_lt i)).2.1 (L[(i.val + 1) % L.length]'(nx_lt i)).2.2]
theorem grown_of_below {W W' : World} (h : Below W.heap.size W W') : W.grownBy W' none := ⟨h.os, h.tape, h.output, h.size, fun k hk _ => h.block k hk⟩
theorem below_of_grown {W W' : World} (h : W.grownBy W' none) : Below W.heap.size W W' := ⟨h.os, h.tape, h.output, h.size, fun k hk => h.block k hk (by simp)⟩

theorem rv_same {W W' : World} {b off n cap : Nat} {L : List T3} (h : Rv W (.slice (some ⟨b, off, none⟩) n cap) L) (hk : ∀ a : Addr, a.block = b → W'.cell? a = W.cell? a) : Rv W' (.slice (some ⟨b, off, none⟩) n cap) L := by
  obtain ⟨p, b', off', cap', h1, h2, h3, h4, h5⟩ := h
  injection h1 with h1 hn hc
  refine ⟨some ⟨b, off, none⟩, b, off, cap, by rw [hn], by omega, by rw [hc]; exact h3, fun _ => rfl, fun k hk' => ?_⟩
  have h6 := h4 (by omega)
  rw [← h1] at h6
  cases h6
  obtain ⟨c0, c1, c2⟩ := h5 k hk'
  exact ⟨(hk ⟨b, _, none⟩ rfl).trans c0, (hk ⟨b, _, none⟩ rfl).trans c1, (hk ⟨b, _, none⟩ rfl).trans c2⟩
theorem yield_or {e : Ending} {A B : Prop} (h : (e = .returned (.bool true) ∧ A) ∨ (e = .returned (.bool false) ∧ B)) : ∃ β : Bool, e = .returned (.bool β) ∧ Hid ((β = true → A) ∧ (β = false → B)) := by
  rcases h with ⟨h1, h2⟩ | ⟨h1, h2⟩
  · exact ⟨true, h1, fun _ => h2, fun h => by cases h⟩
  · exact ⟨false, h1, fun h => (by cases h), fun _ => h2⟩

set_option maxRecDepth 100000 in
set_option maxHeartbeats 4000000 in
theorem edges1_in (Kp : World → World → Prop) (n : Nat) (hn : 1 ≤ n) (l Bs b off cap len : Nat) (L : List T3) (hlp : len = L.length) (hlen : L.length ≤ 1000000) (hkeep : ∀ W W', Kp W W' → ∀ a : Addr, (a.block = Bs ∨ a.block = b) → W'.cell? a = W.cell? a) (B : Nat) (J Jx : List (Fin L.length) → World → Prop) (hJ : AbidesFrom B J)
    (hY : ∀ pre x W, J pre W → pre.length < len → YieldAt Fence.wide (n - 1) Try.prog l (encE L x) W fun e W' =>
      (e = .returned (.bool true) ∧ J (pre ++ [x]) W' ∧ Kp W W') ∨ (e = .returned (.bool false) ∧ Jx (pre ++ [x]) W'))
    (W : World) (hBs : W.cell? ⟨Bs, 0, none⟩ = some (.slice (some ⟨b, off, none⟩) len cap)) (hc : Rv W (.slice (some ⟨b, off, none⟩) len cap) L) (h0 : J [] W) :
    CallsIn Fence.wide n Try.prog 42 #[.func (.yield l) #[] #[], .pointer (some ⟨Bs, 0, none⟩)] W fun e W' => (∃ v, e = .returned v) ∧
      ((∃ ys, ys = ups L.length L.length (Nat.le_refl _) ∧ J ys W') ∨ (∃ pre, (∃ k h, pre = ups L.length k h) ∧ Jx pre W')) := by
  refine callsIn_of_wp Try.func42 rfl trivial ?_ rfl
  simp only [Try.ntmps42, List.size_toArray, List.length_cons, List.length_nil, Nat.reduceAdd, Nat.reduceSub, Array.replicate_succ, Array.replicate_zero, List.push_toArray, List.append_toArray, List.nil_append, List.cons_append]
  have HC := Lib.hid hc
  have HBs := Lib.hid hBs
  have HLP := Lib.hid hlp
  have HLN := Lib.hid hlen
  have HJ := Lib.hid hJ
  have HK := Lib.hid hkeep
  have HY := Lib.hid hY
  clear hc hlp hlen hJ hkeep hY
  gi_wp2
  clear hBs
  gi_loopw [3, 4, 7] (fun _ _ i wr => ∃ (k : Nat) (hk : k ≤ L.length), k ≤ len ∧ i = .int .i64 (k : Int) ∧ Hid (J (ups L.length k hk) wr) ∧ Hid (wr.cell? ⟨Bs, 0, none⟩ = some (.slice (some ⟨b, off, none⟩) len cap)) ∧ Hid (Rv wr (.slice (some ⟨b, off, none⟩) len cap) L))
    (fun _ _ i _ => len - (intOf i).toNat)
  case atStart => exact ⟨0, Nat.zero_le _, Nat.zero_le _, rfl, h0, HBs.out, HC.out⟩
  case round =>
    obtain ⟨k, hk, hkl, rfl, hJs, hB, hR⟩ := hrel
    by_cases hlt : k < len
    · have hip : k < L.length := by have h5 : len = L.length := HLP.out; omega
      obtain ⟨x, y, z, hL⟩ : ∃ x y z, L[k] = (x, y, z) := ⟨_, _, _, rfl⟩
      obtain ⟨b', off', hp, c0, c1, c2⟩ := hR.out.at_ hip hL
      cases hp
      have HA := Lib.hid (fun w' (h : Rv w' (.slice (some ⟨b, off, none⟩) len cap) L) => after_any L _ k w' h (Nat.le_of_lt hip) (by omega) HLN.out)
      obtain ⟨f0, f1, f2, hf⟩ : ∃ x y z, L[(k + 1) % L.length]'(Nat.mod_lt _ (by omega)) = (x, y, z) := ⟨_, _, _, rfl⟩
      have HE : Hid (encE L ⟨k, hip⟩ = #[vv x y z, vv f0 f1 f2]) := by show _ = _; unfold encE; simp only []; rw [hL, hf]
      have HA : Hid (∀ w', Rv w' (.slice (some ⟨b, off, none⟩) len cap) L → Calls Try.prog 43 #[.slice (some ⟨b, off, none⟩) len cap, .int .i64 (k : Int)] w' (Ret (vv f0 f1 f2) w')) := by
        intro w' h
        have := HA.out w' h
        rw [hf] at this
        exact this
      have HUP : Hid (∃ h, ups L.length k hk ++ [⟨k, hip⟩] = ups L.length (k + 1) h) := ⟨hip, rfl⟩
      have hbs := hB.out
      clear hf hL
      gi_wp2
      refine any_world (p := fun W => Code.wpIn _ _ _ _ _ _ W) _ ?_
      intro u0 hu
      have VB : Hid (V3 u0 wr.heap.size x y z) := by rw [hu]; exact (vf_made _ _ _ _).1
      have HB2 : Hid (Below wr.heap.size wr u0) := by rw [hu]; exact below_one _ _
      obtain ⟨gx, hgx⟩ : ∃ g, g = wr.heap.size := ⟨_, rfl⟩
      rw [← hgx] at VB
      rw [← hgx]
      clear hu hgx c0 c1 c2 hbs
      obtain ⟨e0, e1, e2⟩ := VB.out
      have e3 := keep1 HB2.out hB.out
      have hmx : Try.prog.follows .mixedOrders = true := by kernel_rfl
      have E0 := Lib.hid (Below.refl u0.heap.size u0)
      gi_region_with_o (first
        | (refine ⟨trivial, ?_⟩
           gi_at_call 43
           refine (callsIn_wide.2 (HA.out _ (by first | exact (hR.out.below HB2.out) | exact hR.out.below HB2.out.drew))).mono ?_
           rintro e yw ⟨rfl, b5⟩
           (try (have b5 := undrew b5))
           have E1 := Lib.hid (chain E0.out b5)
           have VB1 := Lib.hid (VB.out.below E1.out)
           have hJy : Hid (J (ups L.length k hk) yw) := HJ.out _ _ _ none hJs.out (grown_of_below (chain HB2.out E1.out)) (fun r e => by cases e)
           obtain ⟨fn, tmps, assign, body, hy, hRd⟩ := HY.out _ ⟨k, hip⟩ yw hJy.out (by rw [ups_length]; exact hlt)
           rw [HE.out] at hy
           clear b5
           obtain ⟨e0, e1, e2⟩ := VB1.out)
        | (refine RoundIn.mono hRd ?_
           intro e W3 h3
           obtain ⟨β, rfl, h4⟩ := yield_or h3
           clear h3))
      all_goals
        have h5 := h4.out
        have hBy := keep1 (chain HB2.out E1.out) hB.out
        have hRy := hR.out.below (chain HB2.out E1.out)
        obtain ⟨hup, hue⟩ := HUP.out
        have HUE := Lib.hid hue
        clear hue h4
        cases β with
        | true =>
          obtain ⟨g1, g2⟩ := h5.1 rfl
          have hB3 : Hid (W3.cell? ⟨Bs, 0, none⟩ = some (.slice (some ⟨b, off, none⟩) len cap)) := (HK.out _ _ g2 ⟨Bs, 0, none⟩ (Or.inl rfl)).trans hBy
          have hR3 : Hid (Rv W3 (.slice (some ⟨b, off, none⟩) len cap) L) := rv_same hRy (fun a ha => HK.out _ _ g2 a (Or.inr ha))
          have hJ3 : Hid (J (ups L.length (k + 1) hup) W3) := by rw [← HUE.out]; exact g1
          have hll : len ≤ 1000000 := by have := HLN.out; have h5 : len = L.length := HLP.out; omega
          clear h5 g1 g2 hBy hRy e0 e1 e2 e3
          gi_wp2
          go_roundw
          case rel => exact ⟨k + 1, hup, by omega, by go_num, hJ3.out, hB3.out, hR3.out⟩
          case measure => simp [intOf]; omega
        | false =>
          have g1 := h5.2 rfl
          rw [HUE.out] at g1
          have hJ3 := Lib.hid g1
          clear h5 g1 hBy hRy e0 e1 e2 e3
          gi_wp2
          refine bodyPost_ret (results_none rfl _ _ _) rfl ?_
          exact ⟨⟨_, rfl⟩, .inr ⟨_, ⟨k + 1, hup, rfl⟩, hJ3.out⟩⟩
    · have e : k = L.length := by have h5 : len = L.length := HLP.out; omega
      subst e
      gi_wp2
      go_end0
      exact ⟨⟨_, rfl⟩, .inl ⟨_, rfl, hJs.out⟩⟩

set_option maxHeartbeats 1000000 in
theorem edges_in (n : Nat) (a : Option Addr) (len cap : Nat) (w : World) :
    CallsIn Fence.wide n Try.prog 20 #[.slice a len cap] w fun e w' => e = .returned (.func (.func 42) #[] #[.pointer (some ⟨w.heap.size, 0, none⟩)]) ∧ w' = w.alloc (.cells #[.slice a len cap] 22) := by
  refine callsIn_of_wp Try.func20 rfl trivial ?_ rfl
  simp only [Try.ntmps20, List.size_toArray, List.length_cons, List.length_nil, Nat.reduceAdd, Nat.reduceSub, Array.replicate_succ, Array.replicate_zero, List.push_toArray, List.append_toArray, List.nil_append, List.cons_append]
  gi_wp2
  go_ret
  exact ⟨rfl, rfl⟩

theorem edges_stops (Kp : World → World → Prop) (n : Nat) (hn : 1 ≤ n) (Bs b off len cap : Nat) (L : List T3) (hlen : L.length ≤ 1000000) (w : World) (hlp : len = L.length)
    (hc : w.cell? ⟨Bs, 0, none⟩ = some (.slice (some ⟨b, off, none⟩) len cap)) (hp : Rv w (.slice (some ⟨b, off, none⟩) len cap) L)
    (hkeep : ∀ W W', Kp W W' → ∀ a : Addr, (a.block = Bs ∨ a.block = b) → W'.cell? a = W.cell? a) :
    SeqStopsK Fence.wide n Try.prog 42 #[.pointer (some ⟨Bs, 0, none⟩)] (encE L) Kp (fun ys => ys = ups L.length L.length (Nat.le_refl _)) (fun pre => ∃ k h, pre = ups L.length k h) L.length w := fun l J Jx W hW hJ _ hY h0 => by
  subst hlp
  exact edges1_in Kp n hn l Bs b off cap L.length L rfl hlen hkeep W.heap.size J Jx hJ hY W (keep1 hW hc) (hp.below hW) h0
end Go.Proofs.Ytpkfngfenkcjoaa

/- hull.Area2: the walk. -/
set_option linter.all false
namespace Go.Proofs.Ytpkfngfenkcjoaa
open Go.RowKit Go.Shelf
attribute [local go_sem] Oper.semAt_some

theorem block_kept {W W' : World} {row : Option Nat} {g : Nat} {o : Obj} (h : W.heap[g]? = some o) (hc : o.isCells = true) (hg : W.grownBy W' row) (hr : ∀ r, row = some r → ∃ o : Obj, W.heap[r]? = some o ∧ o.isCells = false) : W'.heap[g]? = W.heap[g]? :=
  hg.block g (Array.getElem?_eq_some_iff.1 h).1 fun e => by
    obtain ⟨o', ho, hc'⟩ := hr g e.symm
    rw [h] at ho
    cases ho
    rw [hc] at hc'
    cases hc'
theorem cells_of {W : World} {a : Addr} {v : Value} (h : W.cell? a = some v) : ∃ o, W.heap[a.block]? = some o ∧ o.isCells = true := by
  unfold World.cell? at h
  split at h
  · next c t f e => exact ⟨_, e, rfl⟩
  · cases h
theorem ckept {W W' : World} {row : Option Nat} {a : Addr} {v : Value} (h : W.cell? a = some v) (hg : W.grownBy W' row) (hr : ∀ r, row = some r → ∃ o : Obj, W.heap[r]? = some o ∧ o.isCells = false) : W'.cell? a = some v := by
  obtain ⟨o, h1, h2⟩ := cells_of h
  exact (World.cell?_of_block (block_kept h1 h2 hg hr)).trans h
theorem fkept {W W' : World} {row : Option Nat} {a : Addr} {v : Value} {b : Bool} (h : W.cell? a = some v) (hf : W.frozen? a = b) (hg : W.grownBy W' row) (hr : ∀ r, row = some r → ∃ o : Obj, W.heap[r]? = some o ∧ o.isCells = false) : W'.frozen? a = b := by
  obtain ⟨o, h1, h2⟩ := cells_of h
  exact (World.frozen?_of_block (block_kept h1 h2 hg hr)).trans hf
theorem v3_kept {W W' : World} {row : Option Nat} {g : Nat} {x y z : Int} (h : V3 W g x y z) (hg : W.grownBy W' row) (hr : ∀ r, row = some r → ∃ o : Obj, W.heap[r]? = some o ∧ o.isCells = false) : V3 W' g x y z := ⟨ckept h.1 hg hr, ckept h.2.1 hg hr, ckept h.2.2 hg hr⟩
theorem rv_kept {W W' : World} {row : Option Nat} {v : Value} {L : List T3} (h : Rv W v L) (hg : W.grownBy W' row) (hr : ∀ r, row = some r → ∃ o : Obj, W.heap[r]? = some o ∧ o.isCells = false) : Rv W' v L := by
  obtain ⟨p, b, off, cap, h1, h2, h3, h4, h5⟩ := h
  exact ⟨p, b, off, cap, h1, h2, h3, h4, fun k hk => ⟨ckept (h5 k hk).1 hg hr, ckept (h5 k hk).2.1 hg hr, ckept (h5 k hk).2.2 hg hr⟩⟩
/-- The world between two rounds of Area2. -/
def AI (L : List T3) (v : Value) (Sb Bs : Nat) (s : Nat → Int) (w : World) (pre : List (Fin L.length)) (W : World) : Prop :=
  (∃ t, W.cell? ⟨Sb, 0, none⟩ = some (.int .i64 t) ∧ W.frozen? ⟨Sb, 0, none⟩ = false ∧ ∀ k h, pre = ups L.length k h → t = s k) ∧ W.cell? ⟨Bs, 0, none⟩ = some v ∧ Rv W v L ∧ Below w.heap.size w W
theorem ai_own (L : List T3) (v : Value) (Sb Bs : Nat) (s : Nat → Int) (w : World) (B : Nat) (hB : w.heap.size ≤ B) : OwnFrom B (AI L v Sb Bs s w) := by
  rintro pre W W' row ⟨⟨t, h1, h2, h3⟩, h4, h5, h6⟩ hg hr
  have hr' : ∀ r, row = some r → ∃ o : Obj, W.heap[r]? = some o ∧ o.isCells = false := fun r e => (hr r e).2
  exact ⟨⟨t, ckept h1 hg hr', fkept h1 h2 hg hr', h3⟩, ckept h4 hg hr', rv_kept h5 hg hr', Below.grown h6 hg h6.size (fun r e => Nat.le_trans hB (hr r e).1)⟩
/-- What a round keeps: two blocks. -/
def Ke (Bs b : Nat) (W W' : World) : Prop := W'.heap[Bs]? = W.heap[Bs]? ∧ W'.heap[b]? = W.heap[b]?
theorem ke_t {Bs b : Nat} : ∀ {A B C : World}, Ke Bs b A B → Ke Bs b B C → Ke Bs b A C := fun h k => ⟨k.1.trans h.1, k.2.trans h.2⟩
theorem ke_b {Bs b : Nat} {w : World} (hB : Bs < w.heap.size) (hb : b < w.heap.size) : ∀ (W : World) (l : Nat) (o o' : Obj), w.heap.size ≤ l → W.heap[l]? = some o → o.isCells = false → o.isWalk = false → Ke Bs b W (W.putObj l o') :=
  fun W l o o' hl _ _ _ => ⟨World.putObj_heap_other (by omega), World.putObj_heap_other (by omega)⟩
theorem ke_keep {Bs b : Nat} {W W' : World} (h : Ke Bs b W W') {a : Addr} (ha : a.block = Bs ∨ a.block = b) : W'.cell? a = W.cell? a := by
  rcases ha with ha | ha
  · exact World.cell?_of_block (by rw [ha]; exact h.1)
  · exact World.cell?_of_block (by rw [ha]; exact h.2)
theorem ai_step {L : List T3} {b off n cap Sb Bs B : Nat} {s : Nat → Int} {w W Y : World} {pre : List (Fin L.length)} {x : Fin L.length} {v2 : Int} (hI : AI L (.slice (some ⟨b, off, none⟩) n cap) Sb Bs s w pre W) (hb : Below W.heap.size W Y) (h1 : ¬ Sb = Bs) (h2 : w.heap.size ≤ Sb) (h3 : ¬ Sb = b) (h4 : b < W.heap.size)
    (h : ∀ k h, pre ++ [x] = ups L.length k h → v2 = s k) :
    KeepsFrom B W (Y.setCell ⟨Sb, 0, none⟩ (.int .i64 v2)) ∧ Ke Bs b W (Y.setCell ⟨Sb, 0, none⟩ (.int .i64 v2)) ∧ AI L (.slice (some ⟨b, off, none⟩) n cap) Sb Bs s w (pre ++ [x]) (Y.setCell ⟨Sb, 0, none⟩ (.int .i64 v2)) := by
  obtain ⟨⟨t, c1, f1, -⟩, c2, c3, c4⟩ := hI
  have l2 := World.block_lt_of_cell? W _ c2
  have hk : KeepsFrom B W Y := ⟨hb.size, fun k o _ hk _ => (hb.block k (Array.getElem?_eq_some_iff.1 hk).1).trans hk⟩
  refine ⟨hk.trans ((KeepsOthers.setCell _ _ _).from _), ⟨?_, ?_⟩, ⟨v2, ?_, ?_, h⟩, ?_, ?_, ?_⟩
  · rw [Below.heap_setCell _ _ _ _ (fun e => h1 e.symm), hb.block _ l2]
  · rw [Below.heap_setCell _ _ _ _ (fun e => h3 e.symm), hb.block _ h4]
  · exact World.cell?_setCell_same (h := keep1 hb c1) ..
  · rw [World.frozen?_setCell]; exact keepf hb c1 f1
  · rw [World.cell?_setCell_far _ _ _ _ (by exact h1)]; exact keep1 hb c2
  · exact rv_same (c3.below hb) (fun a ha => World.cell?_setCell_far _ _ _ _ (by simp only; rw [ha]; exact h3))
  · exact (chain c4 hb).setCell h2 _
/-- The index of a round behind some. -/
theorem ups_snoc {n k : Nat} {h : k ≤ n} {pre : List (Fin n)} {x : Fin n} (e : pre ++ [x] = ups n k h) : ∃ k' h', k = k' + 1 ∧ pre = ups n k' h' ∧ x.val = k' := by
  cases k with
  | zero => simp [ups] at e
  | succ k =>
    rw [ups] at e
    obtain ⟨e1, e2⟩ := List.append_inj' e rfl
    refine ⟨k, by omega, rfl, e1, ?_⟩
    have := congrArg (List.map Fin.val) e2
    simpa using this

set_option maxRecDepth 100000 in
set_option maxHeartbeats 4000000 in
theorem area_bad (p : Option Addr) (n cap : Nat) (w : World) (H0 : ∀ w', Below w.heap.size w w' → Calls Try.prog 19 #[.slice p n cap] w' (Ret (.bool false) w')) :
    Calls Try.prog 6 #[.slice p n cap] w (Ret (.tuple #[.int .i64 0, .int .i64 2]) w) := by
  have H0 := Lib.hid H0
  have E := Lib.hid (Below.refl w.heap.size w)
  go_enter Try.func6, Try.ntmps6
  go_wp2_with fail
  refine (H0.out _ E.out).mono ?_
  rintro e y ⟨rfl, b⟩
  have E := Lib.hid (chain E.out b)
  clear b
  go_wp2
  go_ret2
  exact ⟨rfl, E.out⟩

set_option maxRecDepth 100000 in
set_option maxHeartbeats 4000000 in
theorem area_walk (L : List T3) (b off n cap : Nat) (w : World) (hn : n = L.length) (hlen : L.length ≤ 10000) (hp : Rv w (.slice (some ⟨b, off, none⟩) n cap) L) (hb : b < w.heap.size)
    (ar : Fin L.length → Int) (s : Nat → Int) (h0 : s 0 = 0) (hs : ∀ i : Fin L.length, IntKind.i64.wrap (s i.val + ar i) = s (i.val + 1))
    (H0 : ∀ w', Below w.heap.size w w' → Calls Try.prog 19 #[.slice (some ⟨b, off, none⟩) n cap] w' (Ret (.bool true) w'))
    (H1 : ∀ (i : Fin L.length) w', Calls Try.prog 21 (encE L i) w' (Ret (.int .i64 (ar i)) w')) :
    Calls Try.prog 6 #[.slice (some ⟨b, off, none⟩) n cap] w (Ret (.tuple #[.int .i64 (s L.length), .int .i64 0]) w) := by
  have H0 := Lib.hid H0
  have H1 := Lib.hid H1
  have HP := Lib.hid hp
  have HN := Lib.hid hn
  have HS := Lib.hid hs
  have HS0 := Lib.hid h0
  have HLN := Lib.hid hlen
  have HBw := Lib.hid hb
  clear hp hn hs h0 hlen hb
  refine (callsIn_wide (n := 5)).1 ?_
  refine callsIn_of_wp_marks Try.func6 rfl trivial ?_ rfl
  simp only [Try.ntmps6, List.size_toArray, List.length_cons, List.length_nil, Nat.reduceAdd, Nat.reduceSub, Array.replicate_succ, Array.replicate_zero, List.push_toArray, List.append_toArray, List.nil_append, List.cons_append]
  gi_wp2_with fail
  refine ⟨trivial, ?_⟩
  refine (callsIn_wide.2 (H0.out _ (Below.refl _ _))).mono ?_
  rintro e0 w1 ⟨rfl, b1⟩
  have E1 := Lib.hid b1
  clear b1
  gi_wp2_with fail
  refine ⟨trivial, ?_⟩
  refine (edges_in _ (some ⟨b, off, none⟩) n cap _).mono ?_
  rintro e3 w2 ⟨rfl, hw2⟩
  have hs1 := E1.out.size
  have HW2 : Hid (AI L (.slice (some ⟨b, off, none⟩) n cap) w1.heap.size (w1.heap.size + 1) s w [] w2 ∧ w2.heap.size = w1.heap.size + 2) := by
    have h2 : w2 = (w1.alloc (.cells #[.int .i64 0] 3)).alloc (.cells #[.slice (some ⟨b, off, none⟩) n cap] 22) := hw2
    have hb : Below w1.heap.size w1 w2 := by rw [h2]; exact (below_one w1 _).alloc (by simp) _
    refine ⟨⟨⟨0, by rw [h2]; simp [go_sem], by rw [h2]; simp [go_sem], ?_⟩, by rw [h2]; simp [go_sem], (HP.out.below E1.out).below hb, chain E1.out hb⟩, by rw [h2]; simp⟩
    intro k h e
    have hk0 : k = 0 := by have h7 := congrArg List.length e; rw [ups_length] at h7; simpa using h7.symm
    subst hk0
    exact HS0.out.symm
  have hz2 : w2.heap.size = w1.heap.size + 2 := HW2.out.2
  clear hw2
  rw [World.size_alloc]
  gi_wp2
  refine wpIn_rangeFunc_ownH rfl (show 1 ≤ 5 by decide) (gf := 42) (lb := #[.pointer (some ⟨w1.heap.size + 1, 0, none⟩)]) rfl trivial (enters_of Try.func42 (by kernel_rfl) rfl)
    (edges_stops (Ke (w1.heap.size + 1) b) 4 (by decide) (w1.heap.size + 1) b off n cap L (by have := HLN.out; omega) w2 HN.out HW2.out.1.2.1 HW2.out.1.2.2.1 (fun W W' hk a ha => ke_keep hk ha))
    ke_t (ke_b (by omega) (by have := HBw.out; omega)) (Below.refl _ _) (fun _ => rfl)
    (AI L (.slice (some ⟨b, off, none⟩) n cap) w1.heap.size (w1.heap.size + 1) s w)
    (fun _ _ _ => False)
    (ai_own _ _ _ _ _ _ _ (by omega))
    (fun _ _ _ _ _ hs _ _ => hs)
    HW2.out.1
    (fun x a' W => ∃ Bx, (w2.heap.size ≤ Bx) ∧ (V3 W Bx L[x.val].1 L[x.val].2.1 L[x.val].2.2 ∧ V3 W (Bx + 1) (L[(x.val + 1) % L.length]'(nx_lt x)).1 (L[(x.val + 1) % L.length]'(nx_lt x)).2.1 (L[(x.val + 1) % L.length]'(nx_lt x)).2.2) ∧ a' = { tmps := #[.slice (some ⟨b, off, none⟩) n cap, undef, .int .i64 0, .int .i64 0, .pointer (some ⟨w1.heap.size, 0, none⟩), .pointer (some ⟨Bx, 0, none⟩), .pointer (some ⟨Bx + 1, 0, none⟩), .slice (some ⟨b, off, none⟩) n cap, .bool true, .bool false, .slice (some ⟨b, off, none⟩) n cap, .func (.func 42) #[] #[.pointer (some ⟨w1.heap.size + 1, 0, none⟩)], vv L[x.val].1 L[x.val].2.1 L[x.val].2.2, vv (L[(x.val + 1) % L.length]'(nx_lt x)).1 (L[(x.val + 1) % L.length]'(nx_lt x)).2.1 (L[(x.val + 1) % L.length]'(nx_lt x)).2.2, undef, undef, undef, undef, undef, undef], defers := [] })
    (fun x a' _ X Y row hs hg hr => by obtain ⟨Bx, h1, ⟨h2, h4⟩, h3⟩ := hs; exact ⟨Bx, h1, ⟨v3_kept h2 hg (fun r e => (hr r e).2), v3_kept h4 hg (fun r e => (hr r e).2)⟩, h3⟩)
    ?assign ?body ?done ?stop
  case assign =>
    rintro l pre x W K hI hK
    unfold encE
    have hI2 := (ai_own L (.slice (some ⟨b, off, none⟩) n cap) w1.heap.size (w1.heap.size + 1) s w w.heap.size (Nat.le_refl _)).alloc (.cells #[.int .i64 L[x.val].1, .int .i64 L[x.val].2.1, .int .i64 L[x.val].2.2] 24) hI
    have hI3 := (ai_own L (.slice (some ⟨b, off, none⟩) n cap) w1.heap.size (w1.heap.size + 1) s w w.heap.size (Nat.le_refl _)).alloc (.cells #[.int .i64 (L[(x.val + 1) % L.length]'(nx_lt x)).1, .int .i64 (L[(x.val + 1) % L.length]'(nx_lt x)).2.1, .int .i64 (L[(x.val + 1) % L.length]'(nx_lt x)).2.2] 24) hI2
    obtain ⟨⟨t, c1, -, -⟩, c2, c3, c4⟩ := hI
    have l1 := World.block_lt_of_cell? W _ c1
    have l2 := World.block_lt_of_cell? W _ c2
    have l3 : b < W.heap.size := Nat.lt_of_lt_of_le HBw.out c4.size
    simp only at l1 l2
    gi_wp2
    refine hK _ _ (((KeepsOthers.alloc _ _).trans (KeepsOthers.alloc _ _)).from _) ⟨?_, ?_⟩ hI3 ⟨W.heap.size, by omega, ⟨?_, ?_⟩, ?_⟩
    · rw [Below.heap_alloc _ _ _ (by simp; omega), Below.heap_alloc _ _ _ l2]
    · rw [Below.heap_alloc _ _ _ (by simp; omega), Below.heap_alloc _ _ _ l3]
    · exact (vf_made _ _ _ _).1.below (below_one _ _)
    · have := (vf_made (W.alloc (.cells #[.int .i64 L[x.val].1, .int .i64 L[x.val].2.1, .int .i64 L[x.val].2.2] 24)) (L[(x.val + 1) % L.length]'(nx_lt x)).1 (L[(x.val + 1) % L.length]'(nx_lt x)).2.1 (L[(x.val + 1) % L.length]'(nx_lt x)).2.2).1
      rw [World.size_alloc] at this
      exact this
    · rfl
  case body =>
    rintro l pre x a' W hl ⟨r, hr⟩ hI ⟨Bx, hBx, ⟨hX, hY⟩, rfl⟩ hlt
    have HI := Lib.hid hI
    obtain ⟨⟨t, c1, f1, hgood⟩, c2, c3, c4⟩ := hI
    have HX := Lib.hid hX
    have HY := Lib.hid hY
    have HG := Lib.hid hgood
    have HA : Hid (∀ w', Calls Try.prog 21 (encE L x) w' (Ret (.int .i64 (ar x)) w')) := fun w' => H1.out x w'
    have HSx : Hid (∀ k h, pre ++ [x] = ups L.length k h → IntKind.i64.wrap (t + ar x) = s k) := by
      intro k h e
      obtain ⟨k', h', rfl, e1, e2⟩ := ups_snoc e
      rw [HG.out k' h' e1, ← e2]
      exact HS.out x
    have l1 := World.block_lt_of_cell? W _ c1
    have l2 := World.block_lt_of_cell? W _ c2
    have l3 : b < W.heap.size := Nat.lt_of_lt_of_le HBw.out c4.size
    simp only at l1 l2
    unfold encE at HA
    have hb1 : ¬ w1.heap.size = b := by have := HBw.out; omega
    have C4 := Lib.hid c4
    have C2 := Lib.hid c2
    have C3 := Lib.hid c3
    have C1 := Lib.hid (And.intro c1 f1)
    clear hX hY hgood c2 c3 c4
    obtain ⟨x1, x2, x3, hx⟩ : ∃ p q o, L[x.val] = (p, q, o) := ⟨_, _, _, rfl⟩
    obtain ⟨y1, y2, y3, hy⟩ : ∃ a b c, (L[(x.val + 1) % L.length]'(nx_lt x)) = (a, b, c) := ⟨_, _, _, rfl⟩
    rw [hx, hy] at HA
    rw [hx] at HX
    rw [hy] at HY
    rw [hx, hy]
    simp only [] at HX HY HA
    simp only []
    generalize ar x = r at *
    obtain ⟨v2, hv2⟩ : ∃ v2, IntKind.i64.wrap (t + r) = v2 := ⟨_, rfl⟩
    rw [hv2] at HSx
    obtain ⟨d0, d1, d2⟩ := HX.out
    obtain ⟨d3, d4, d5⟩ := HY.out
    have hmx : Try.prog.follows .mixedOrders = true := by kernel_rfl
    have E0 := Lib.hid (Below.refl W.heap.size W)
    clear hx hy
    gi_wp2
    gi_region_with_o (first
      | (refine ⟨trivial, ?_⟩
         gi_at_call 21
         refine (CallsIn.inRound l (callsIn_wide.2 (HA.out _))).mono ?_
         rintro e yw ⟨rfl, b5⟩
         (try (have b5 := undrew b5))
         have E2 := Lib.hid (chain E0.out b5)
         have k1 := keep1 E2.out C1.out.1
         have g1 := keepf E2.out C1.out.1 C1.out.2
         clear b5))
    all_goals
      have HF := Lib.hid (ai_step (x := x) (v2 := v2) HI.out E2.out (B := w2.heap.size) (by omega) (by omega) hb1 l3 HSx.out)
      clear k1 g1 E2 HI
      gi_wp2
      exact HF.out
  case done =>
    rintro D xs W hD rfl ⟨⟨t, c1, f1, hgood⟩, c2, c3, c4⟩ hK
    have hg := hgood _ _ rfl
    subst hg
    have C4 := Lib.hid c4
    have HKD := Lib.hid hK
    clear hgood c2 c3 c4
    generalize s L.length = res at *
    gi_wp2
    refine ⟨by simp, .inl ⟨_, _, rfl, run_takeDeferred HKD.out, ?_⟩⟩
    refine ⟨.tuple #[.int .i64 res, .int .i64 0], (by simp [results, Try.results6, go_sem]), rfl, ?_⟩
    exact C4.out.trans (belowK_b (w := w) (Nat.le_refl _) _ D _ _ (by omega) HKD.out rfl rfl)
  case stop =>
    rintro D c2 pre W _ _ h _
    exact h.elim
end Go.Proofs.Ytpkfngfenkcjoaa

/- hull.Side: the walks. -/
set_option linter.all false
namespace Go.Proofs.Ytpkfngfenkcjoaa
open Go.RowKit Go.Shelf
attribute [local go_sem] Oper.semAt_some

set_option maxRecDepth 100000 in
set_option maxHeartbeats 4000000 in
theorem side_bad1 (p : Option Addr) (n cap : Nat) (p1 p2 p3 : Int) (w : World) (H0 : ∀ w', Below w.heap.size w w' → Calls Try.prog 19 #[.slice p n cap] w' (Ret (.bool false) w')) :
    Calls Try.prog 17 #[.slice p n cap, vv p1 p2 p3] w (Ret (.tuple #[.int .i64 0, .int .i64 2]) w) := by
  have H0 := Lib.hid H0
  go_enter Try.func17, Try.ntmps17
  go_upto_region 1 with (fail)
  obtain ⟨u0, hu⟩ : ∃ u0 : World, u0 = w.alloc (.cells #[.int .i64 p1, .int .i64 p2, .int .i64 p3] 24) := ⟨_, rfl⟩
  have E : Hid (Below w.heap.size w u0) := by rw [hu]; exact below_one _ _
  have VP : Hid (VF u0 w.heap.size (p1, p2, p3)) := by rw [hu]; exact vf_made _ _ _ _
  obtain ⟨gp, hgp⟩ : ∃ g, g = w.heap.size := ⟨_, rfl⟩
  have HGP := Lib.hid hgp
  rw [← hgp] at VP
  rw [← hu, ← hgp]
  clear hu hgp
  obtain ⟨⟨e0, e1, e2⟩, f0, f1, f2⟩ := VP.out
  go_wp2_with fail
  refine (H0.out _ (by first | exact E.out | exact E.out.drew)).mono ?_
  rintro e y ⟨rfl, b⟩
  have E := Lib.hid (chain E.out b)
  have VP := Lib.hid (VP.out.below b)
  clear b
  go_wp2
  go_ret2
  exact ⟨rfl, by first | exact E.out | exact E.out.drew⟩

set_option maxRecDepth 100000 in
set_option maxHeartbeats 4000000 in
theorem side_bad2 (p : Option Addr) (n cap : Nat) (p1 p2 p3 : Int) (w : World) (H0 : ∀ w', Below w.heap.size w w' → Calls Try.prog 19 #[.slice p n cap] w' (Ret (.bool true) w')) (H1 : ∀ w', Calls Try.prog 34 #[vv p1 p2 p3] w' (Ret (.bool false) w')) :
    Calls Try.prog 17 #[.slice p n cap, vv p1 p2 p3] w (Ret (.tuple #[.int .i64 0, .int .i64 2]) w) := by
  have H0 := Lib.hid H0
  have H1 := Lib.hid H1
  go_enter Try.func17, Try.ntmps17
  go_upto_region 1 with (fail)
  obtain ⟨u0, hu⟩ : ∃ u0 : World, u0 = w.alloc (.cells #[.int .i64 p1, .int .i64 p2, .int .i64 p3] 24) := ⟨_, rfl⟩
  have E : Hid (Below w.heap.size w u0) := by rw [hu]; exact below_one _ _
  have VP : Hid (VF u0 w.heap.size (p1, p2, p3)) := by rw [hu]; exact vf_made _ _ _ _
  obtain ⟨gp, hgp⟩ : ∃ g, g = w.heap.size := ⟨_, rfl⟩
  have HGP := Lib.hid hgp
  rw [← hgp] at VP
  rw [← hu, ← hgp]
  clear hu hgp
  obtain ⟨⟨e0, e1, e2⟩, f0, f1, f2⟩ := VP.out
  go_wp2_with fail
  refine (H0.out _ (by first | exact E.out | exact E.out.drew)).mono ?_
  rintro e y ⟨rfl, b⟩
  have E := Lib.hid (chain E.out b)
  have VP := Lib.hid (VP.out.below b)
  clear b
  clear e0 e1 e2 f0 f1 f2
  obtain ⟨⟨e0, e1, e2⟩, f0, f1, f2⟩ := VP.out
  go_wp2_with fail
  refine (H1.out _).mono ?_
  rintro e y ⟨rfl, b⟩
  have E := Lib.hid (chain E.out b)
  have VP := Lib.hid (VP.out.below b)
  clear b
  go_wp2
  go_ret2
  exact ⟨rfl, by first | exact E.out | exact E.out.drew⟩

set_option maxRecDepth 100000 in
set_option maxHeartbeats 4000000 in
theorem side_line (b off n cap q : Nat) (p1 p2 p3 a0 a1 a2 b0 b1 b2 r : Int) (w : World) (hn : n = q + 1) (hn2 : n ≤ 2)
    (K : w.cell? ⟨b, off, none⟩ = some (.int .i64 a0) ∧ w.cell? ⟨b, off + 1, none⟩ = some (.int .i64 a1) ∧ w.cell? ⟨b, off + 2, none⟩ = some (.int .i64 a2) ∧ w.cell? ⟨b, off + q * 3, none⟩ = some (.int .i64 b0) ∧ w.cell? ⟨b, off + q * 3 + 1, none⟩ = some (.int .i64 b1) ∧ w.cell? ⟨b, off + q * 3 + 2, none⟩ = some (.int .i64 b2))
    (H0 : ∀ w', Below w.heap.size w w' → Calls Try.prog 19 #[.slice (some ⟨b, off, none⟩) n cap] w' (Ret (.bool true) w')) (H1 : ∀ w', Calls Try.prog 34 #[vv p1 p2 p3] w' (Ret (.bool true) w')) (H2 : ∀ w', Calls Try.prog 36 #[vv a0 a1 a2, vv b0 b1 b2, vv p1 p2 0] w' (Ret (.int .i64 r) w')) :
    Calls Try.prog 17 #[.slice (some ⟨b, off, none⟩) n cap, vv p1 p2 p3] w (Ret (.tuple #[.int .i64 r, .int .i64 0]) w) := by
  have H0 := Lib.hid H0
  have H1 := Lib.hid H1
  have H2 := Lib.hid H2
  have K := Lib.hid K
  have w1 : IntKind.i64.wrap ((n : Int) - 1) = (q : Int) := by rw [show (n : Int) - 1 = (q : Int) by omega]; exact wrap_in (by omega)
  have i1 : (0 : Int) ≤ (q : Int) := by omega
  have i2 : (q : Int) < (n : Int) := by omega
  have i3 : (0 : Int) < (n : Int) := by omega
  have i4 : (n : Int) ≤ 2 := by omega
  have i5 : 0 < n := by omega
  have i6 : q < n := by omega
  clear hn hn2
  go_enter Try.func17, Try.ntmps17
  go_upto_region 1 with (fail)
  obtain ⟨u0, hu⟩ : ∃ u0 : World, u0 = w.alloc (.cells #[.int .i64 p1, .int .i64 p2, .int .i64 p3] 24) := ⟨_, rfl⟩
  have E : Hid (Below w.heap.size w u0) := by rw [hu]; exact below_one _ _
  have VP : Hid (VF u0 w.heap.size (p1, p2, p3)) := by rw [hu]; exact vf_made _ _ _ _
  obtain ⟨gp, hgp⟩ : ∃ g, g = w.heap.size := ⟨_, rfl⟩
  have HGP := Lib.hid hgp
  rw [← hgp] at VP
  rw [← hu, ← hgp]
  clear hu hgp
  obtain ⟨⟨e0, e1, e2⟩, f0, f1, f2⟩ := VP.out
  go_wp2_with fail
  refine (H0.out _ (by first | exact E.out | exact E.out.drew)).mono ?_
  rintro e y ⟨rfl, b⟩
  have E := Lib.hid (chain E.out b)
  have VP := Lib.hid (VP.out.below b)
  clear b
  clear e0 e1 e2 f0 f1 f2
  obtain ⟨⟨e0, e1, e2⟩, f0, f1, f2⟩ := VP.out
  go_wp2_with fail
  refine (H1.out _).mono ?_
  rintro e y ⟨rfl, b⟩
  have E := Lib.hid (chain E.out b)
  have VP := Lib.hid (VP.out.below b)
  clear b
  clear e0 e1 e2 f0 f1 f2
  obtain ⟨⟨e0, e1, e2⟩, f0, f1, f2⟩ := VP.out
  go_wp2_with fail
  refine (flat_any p1 p2 p3 _).mono ?_
  rintro e y ⟨rfl, b⟩
  have E := Lib.hid (chain E.out b)
  have VP := Lib.hid (VP.out.below b)
  clear b e0 e1 e2 f0 f1 f2
  obtain ⟨⟨e0, e1, e2⟩, f0, f1, f2⟩ := VP.out
  go_upto_region 4 with (fail)
  refine any_world (p := fun W => Code.wp _ _ _ _ W) _ ?_
  intro u1 hu
  have VP : Hid (VF u1 gp (p1, p2, 0)) := by rw [hu]; exact VP.out.set p1 p2 0
  have E : Hid (Below w.heap.size w u1) := by rw [hu]; exact below_set3 E.out (Nat.le_of_eq HGP.out.symm) _ _ _
  clear hu e0 e1 e2 f0 f1 f2
  obtain ⟨⟨e0, e1, e2⟩, f0, f1, f2⟩ := VP.out
  go_upto_region 5 with (fail)
  have k0 := keep1 E.out K.out.1
  have k1 := keep1 E.out K.out.2.1
  have k2 := keep1 E.out K.out.2.2.1
  have k3 := keep1 E.out K.out.2.2.2.1
  have k4 := keep1 E.out K.out.2.2.2.2.1
  have k5 := keep1 E.out K.out.2.2.2.2.2
  go_region_held3 (fun W' => W'.cell? ⟨b, off, none⟩ = some (.int .i64 a0) ∧ W'.cell? ⟨b, off + 1, none⟩ = some (.int .i64 a1) ∧ W'.cell? ⟨b, off + 2, none⟩ = some (.int .i64 a2) ∧ W'.cell? ⟨b, off + q * 3, none⟩ = some (.int .i64 b0) ∧ W'.cell? ⟨b, off + q * 3 + 1, none⟩ = some (.int .i64 b1) ∧ W'.cell? ⟨b, off + q * 3 + 2, none⟩ = some (.int .i64 b2) ∧ W'.cell? ⟨gp, 0, none⟩ = some (.int .i64 p1) ∧ W'.cell? ⟨gp, 1, none⟩ = some (.int .i64 p2) ∧ W'.cell? ⟨gp, 2, none⟩ = some (.int .i64 0)) (go_keep)
    (first
      | (go_at_call 36; (with_reducible refine (H2.out _).mono ?_); rintro e y ⟨rfl, b⟩; (try (have b := undrew b)); have E := Lib.hid (chain E.out b); have VP := Lib.hid (VP.out.below b); clear b; have k0 := keep1 E.out K.out.1; have k1 := keep1 E.out K.out.2.1; have k2 := keep1 E.out K.out.2.2.1; have k3 := keep1 E.out K.out.2.2.2.1; have k4 := keep1 E.out K.out.2.2.2.2.1; have k5 := keep1 E.out K.out.2.2.2.2.2; obtain ⟨⟨e0, e1, e2⟩, f0, f1, f2⟩ := VP.out)
      | fail)
  go_wp2
  go_ret2
  exact ⟨rfl, by first | exact E.out | exact E.out.drew⟩
/-- The world between two rounds of Side. -/
def SI (L : List T3) (v : Value) (Sb Bs : Nat) (s : Nat → Int) (w : World) (gp : Nat) (p1 p2 : Int) (pre : List (Fin L.length)) (W : World) : Prop := AI L v Sb Bs s w pre W ∧ V3 W gp p1 p2 0
theorem si_own (L : List T3) (v : Value) (Sb Bs : Nat) (s : Nat → Int) (w : World) (gp : Nat) (p1 p2 : Int) (B : Nat) (hB : w.heap.size ≤ B) : OwnFrom B (SI L v Sb Bs s w gp p1 p2) :=
  OwnFrom.and (ai_own L v Sb Bs s w B hB) (fun _ W W' row h hg hr => v3_kept h hg (fun r e => (hr r e).2))
theorem si_step {L : List T3} {b off n cap Sb Bs B gp : Nat} {p1 p2 : Int} {s : Nat → Int} {w W Y : World} {pre : List (Fin L.length)} {x : Fin L.length} {v2 : Int} (hI : SI L (.slice (some ⟨b, off, none⟩) n cap) Sb Bs s w gp p1 p2 pre W) (hb : Below W.heap.size W Y) (h1 : ¬ Sb = Bs) (h2 : w.heap.size ≤ Sb) (h3 : ¬ Sb = b) (h4 : b < W.heap.size) (h5 : ¬ gp = Sb)
    (h : ∀ k h, pre ++ [x] = ups L.length k h → v2 = s k) :
    KeepsFrom B W (Y.setCell ⟨Sb, 0, none⟩ (.int .i64 v2)) ∧ Ke Bs b W (Y.setCell ⟨Sb, 0, none⟩ (.int .i64 v2)) ∧ SI L (.slice (some ⟨b, off, none⟩) n cap) Sb Bs s w gp p1 p2 (pre ++ [x]) (Y.setCell ⟨Sb, 0, none⟩ (.int .i64 v2)) := by
  obtain ⟨a1, a2, a3⟩ := ai_step hI.1 hb h1 h2 h3 h4 h (B := B)
  refine ⟨a1, a2, a3, ?_⟩
  obtain ⟨v0, v1, v2'⟩ := hI.2.below hb
  have h6 : ¬ Sb = gp := fun e => h5 e.symm
  exact ⟨by rw [World.cell?_setCell_far _ _ _ _ (by exact h6)]; exact v0, by rw [World.cell?_setCell_far _ _ _ _ (by exact h6)]; exact v1, by rw [World.cell?_setCell_far _ _ _ _ (by exact h6)]; exact v2'⟩

set_option maxRecDepth 100000 in
set_option maxHeartbeats 4000000 in
theorem side_walk (L : List T3) (b off n cap : Nat) (p1 p2 p3 : Int) (w : World) (hn : n = L.length) (hn2 : ¬ (n : Int) ≤ 2) (hlen : L.length ≤ 10000) (hp : Rv w (.slice (some ⟨b, off, none⟩) n cap) L) (hb : b < w.heap.size)
    (ar : Fin L.length → Int) (s : Nat → Int) (h0 : s 0 = 1) (hs : ∀ i : Fin L.length, min (s i.val) (ar i) = s (i.val + 1))
    (H0 : ∀ w', Below w.heap.size w w' → Calls Try.prog 19 #[.slice (some ⟨b, off, none⟩) n cap] w' (Ret (.bool true) w'))
    (HQ : ∀ w', Calls Try.prog 34 #[vv p1 p2 p3] w' (Ret (.bool true) w'))
    (H1 : ∀ (i : Fin L.length) w', Calls Try.prog 37 (encE L i ++ #[vv p1 p2 0]) w' (Ret (.int .i64 (ar i)) w')) :
    Calls Try.prog 17 #[.slice (some ⟨b, off, none⟩) n cap, vv p1 p2 p3] w (Ret (.tuple #[.int .i64 (s L.length), .int .i64 0]) w) := by
  have H0 := Lib.hid H0
  have HQ := Lib.hid HQ
  have H1 := Lib.hid H1
  have HP := Lib.hid hp
  have HN := Lib.hid hn
  have HS := Lib.hid hs
  have HS0 := Lib.hid h0
  have HLN := Lib.hid hlen
  have HBw := Lib.hid hb
  clear hp hn hs h0 hlen hb
  refine (callsIn_wide (n := 5)).1 ?_
  refine callsIn_of_wp_marks Try.func17 rfl trivial ?_ rfl
  simp only [Try.ntmps17, List.size_toArray, List.length_cons, List.length_nil, Nat.reduceAdd, Nat.reduceSub, Array.replicate_succ, Array.replicate_zero, List.push_toArray, List.append_toArray, List.nil_append, List.cons_append]
  gi_upto_region 1 with (fail)
  obtain ⟨u0, hu⟩ : ∃ u0 : World, u0 = w.alloc (.cells #[.int .i64 p1, .int .i64 p2, .int .i64 p3] 24) := ⟨_, rfl⟩
  have E : Hid (Below w.heap.size w u0) := by rw [hu]; exact below_one _ _
  have VP : Hid (VF u0 w.heap.size (p1, p2, p3)) := by rw [hu]; exact vf_made _ _ _ _
  obtain ⟨gp, hgp⟩ : ∃ g, g = w.heap.size := ⟨_, rfl⟩
  have HGP := Lib.hid hgp
  rw [← hgp] at VP
  rw [← hu, ← hgp]
  clear hu hgp
  obtain ⟨⟨e0, e1, e2⟩, f0, f1, f2⟩ := VP.out
  gi_wp2_with fail
  refine ⟨trivial, ?_⟩
  refine (callsIn_wide.2 (H0.out _ E.out)).mono ?_
  rintro e y ⟨rfl, b1⟩
  have E := Lib.hid (chain E.out b1)
  have VP := Lib.hid (VP.out.below b1)
  clear b1 e0 e1 e2 f0 f1 f2
  obtain ⟨⟨e0, e1, e2⟩, f0, f1, f2⟩ := VP.out
  gi_wp2_with fail
  refine ⟨trivial, ?_⟩
  refine (callsIn_wide.2 (HQ.out _)).mono ?_
  rintro e y ⟨rfl, b1⟩
  have E := Lib.hid (chain E.out b1)
  have VP := Lib.hid (VP.out.below b1)
  clear b1 e0 e1 e2 f0 f1 f2
  obtain ⟨⟨e0, e1, e2⟩, f0, f1, f2⟩ := VP.out
  gi_wp2_with fail
  refine ⟨trivial, ?_⟩
  refine (callsIn_wide.2 (flat_any p1 p2 p3 _)).mono ?_
  rintro e y ⟨rfl, b1⟩
  have E := Lib.hid (chain E.out b1)
  have VP := Lib.hid (VP.out.below b1)
  clear b1 e0 e1 e2 f0 f1 f2
  obtain ⟨⟨e0, e1, e2⟩, f0, f1, f2⟩ := VP.out
  gi_upto_region 4 with (fail)
  refine any_world (p := fun W => Code.wpIn _ _ _ _ _ _ W) _ ?_
  intro w1 hu
  have VP : Hid (VF w1 gp (p1, p2, 0)) := by rw [hu]; exact VP.out.set p1 p2 0
  have E1 : Hid (Below w.heap.size w w1) := by rw [hu]; exact below_set3 E.out (Nat.le_of_eq HGP.out.symm) _ _ _
  have HGL : Hid (w.heap.size < w1.heap.size) := by have h5 : gp = w.heap.size := HGP.out; have := World.block_lt_of_cell? w1 _ VP.out.1.1; simp only at this; show _ < _; omega
  clear hu e0 e1 e2 f0 f1 f2 E
  gi_wp2_with fail
  refine ⟨trivial, ?_⟩
  refine (edges_in _ (some ⟨b, off, none⟩) n cap _).mono ?_
  rintro e3 w2 ⟨rfl, hw2⟩
  have hs1 := E1.out.size
  have HW2 : Hid (SI L (.slice (some ⟨b, off, none⟩) n cap) w1.heap.size (w1.heap.size + 1) s w gp p1 p2 [] w2 ∧ w2.heap.size = w1.heap.size + 2) := by
    have h2 : w2 = (w1.alloc (.cells #[.int .i64 1] 3)).alloc (.cells #[.slice (some ⟨b, off, none⟩) n cap] 22) := hw2
    have hb : Below w1.heap.size w1 w2 := by rw [h2]; exact (below_one w1 _).alloc (by simp) _
    refine ⟨⟨⟨⟨1, by rw [h2]; simp [go_sem], by rw [h2]; simp [go_sem], ?_⟩, by rw [h2]; simp [go_sem], (HP.out.below E1.out).below hb, chain E1.out hb⟩, VP.out.1.below hb⟩, by rw [h2]; simp⟩
    intro k h e
    have hk0 : k = 0 := by have h7 := congrArg List.length e; rw [ups_length] at h7; simpa using h7.symm
    subst hk0
    exact HS0.out.symm
  have hz2 : w2.heap.size = w1.heap.size + 2 := HW2.out.2
  clear hw2
  rw [World.size_alloc]
  gi_wp2
  refine wpIn_rangeFunc_ownH rfl (show 1 ≤ 5 by decide) (gf := 42) (lb := #[.pointer (some ⟨w1.heap.size + 1, 0, none⟩)]) rfl trivial (enters_of Try.func42 (by kernel_rfl) rfl)
    (edges_stops (Ke (w1.heap.size + 1) b) 4 (by decide) (w1.heap.size + 1) b off n cap L (by have := HLN.out; omega) w2 HN.out HW2.out.1.1.2.1 HW2.out.1.1.2.2.1 (fun W W' hk a ha => ke_keep hk ha))
    ke_t (ke_b (by omega) (by have := HBw.out; omega)) (Below.refl _ _) (fun _ => rfl)
    (SI L (.slice (some ⟨b, off, none⟩) n cap) w1.heap.size (w1.heap.size + 1) s w gp p1 p2)
    (fun _ _ _ => False)
    (si_own _ _ _ _ _ _ _ _ _ _ (by omega))
    (fun _ _ _ _ _ hs _ _ => hs)
    HW2.out.1
    (fun x a' W => ∃ Bx, (w2.heap.size ≤ Bx) ∧ (V3 W Bx L[x.val].1 L[x.val].2.1 L[x.val].2.2 ∧ V3 W (Bx + 1) (L[(x.val + 1) % L.length]'(nx_lt x)).1 (L[(x.val + 1) % L.length]'(nx_lt x)).2.1 (L[(x.val + 1) % L.length]'(nx_lt x)).2.2) ∧ a' = { tmps := #[.slice (some ⟨b, off, none⟩) n cap, vv p1 p2 p3, undef, .pointer (some ⟨gp, 0, none⟩), .int .i64 0, .int .i64 0, .pointer (some ⟨w1.heap.size, 0, none⟩), .pointer (some ⟨Bx, 0, none⟩), .pointer (some ⟨Bx + 1, 0, none⟩), .slice (some ⟨b, off, none⟩) n cap, .bool true, .bool false, .bool false, .agg #[.int .i64 p1, .int .i64 p2, .int .i64 p3], .bool true, .bool false, .bool false, .agg #[.int .i64 p1, .int .i64 p2, .int .i64 p3], vv p1 p2 0, .slice (some ⟨b, off, none⟩) n cap, .int .i64 n, .bool (decide ((n : Int) ≤ 2)), undef, undef, undef, undef, undef, undef, undef, undef, undef, undef, undef, .slice (some ⟨b, off, none⟩) n cap, .func (.func 42) #[] #[.pointer (some ⟨w1.heap.size + 1, 0, none⟩)], vv L[x.val].1 L[x.val].2.1 L[x.val].2.2, vv (L[(x.val + 1) % L.length]'(nx_lt x)).1 (L[(x.val + 1) % L.length]'(nx_lt x)).2.1 (L[(x.val + 1) % L.length]'(nx_lt x)).2.2, undef, undef, undef, undef, undef, undef, undef], defers := [] })
    (fun x a' _ X Y row hs hg hr => by obtain ⟨Bx, h1, ⟨h2, h4⟩, h3⟩ := hs; exact ⟨Bx, h1, ⟨v3_kept h2 hg (fun r e => (hr r e).2), v3_kept h4 hg (fun r e => (hr r e).2)⟩, h3⟩)
    ?assign ?body ?done ?stop
  case assign =>
    rintro l pre x W K hI hK
    unfold encE
    have hI2 := (si_own L (.slice (some ⟨b, off, none⟩) n cap) w1.heap.size (w1.heap.size + 1) s w gp p1 p2 w.heap.size (Nat.le_refl _)).alloc (.cells #[.int .i64 L[x.val].1, .int .i64 L[x.val].2.1, .int .i64 L[x.val].2.2] 24) hI
    have hI3 := (si_own L (.slice (some ⟨b, off, none⟩) n cap) w1.heap.size (w1.heap.size + 1) s w gp p1 p2 w.heap.size (Nat.le_refl _)).alloc (.cells #[.int .i64 (L[(x.val + 1) % L.length]'(nx_lt x)).1, .int .i64 (L[(x.val + 1) % L.length]'(nx_lt x)).2.1, .int .i64 (L[(x.val + 1) % L.length]'(nx_lt x)).2.2] 24) hI2
    obtain ⟨⟨⟨t, c1, -, -⟩, c2, c3, c4⟩, c5⟩ := hI
    have l1 := World.block_lt_of_cell? W _ c1
    have l2 := World.block_lt_of_cell? W _ c2
    have l3 : b < W.heap.size := Nat.lt_of_lt_of_le HBw.out c4.size
    simp only at l1 l2
    gi_wp2
    refine hK _ _ (((KeepsOthers.alloc _ _).trans (KeepsOthers.alloc _ _)).from _) ⟨?_, ?_⟩ hI3 ⟨W.heap.size, by omega, ⟨?_, ?_⟩, ?_⟩
    · rw [Below.heap_alloc _ _ _ (by simp; omega), Below.heap_alloc _ _ _ l2]
    · rw [Below.heap_alloc _ _ _ (by simp; omega), Below.heap_alloc _ _ _ l3]
    · exact (vf_made _ _ _ _).1.below (below_one _ _)
    · have := (vf_made (W.alloc (.cells #[.int .i64 L[x.val].1, .int .i64 L[x.val].2.1, .int .i64 L[x.val].2.2] 24)) (L[(x.val + 1) % L.length]'(nx_lt x)).1 (L[(x.val + 1) % L.length]'(nx_lt x)).2.1 (L[(x.val + 1) % L.length]'(nx_lt x)).2.2).1
      rw [World.size_alloc] at this
      exact this
    · rfl
  case body =>
    rintro l pre x a' W hl ⟨r, hr⟩ hI ⟨Bx, hBx, ⟨hX, hY⟩, rfl⟩ hlt
    have HI := Lib.hid hI
    obtain ⟨⟨⟨t, c1, f1, hgood⟩, c2, c3, c4⟩, c5⟩ := hI
    have C5 := Lib.hid c5
    have HX := Lib.hid hX
    have HY := Lib.hid hY
    have HG := Lib.hid hgood
    have HA : Hid (∀ w', Calls Try.prog 37 (encE L x ++ #[vv p1 p2 0]) w' (Ret (.int .i64 (ar x)) w')) := fun w' => H1.out x w'
    have HSx : Hid (∀ k h, pre ++ [x] = ups L.length k h → min t (ar x) = s k) := by
      intro k h e
      obtain ⟨k', h', rfl, e1, e2⟩ := ups_snoc e
      rw [HG.out k' h' e1, ← e2]
      exact HS.out x
    have l1 := World.block_lt_of_cell? W _ c1
    have l2 := World.block_lt_of_cell? W _ c2
    have l3 : b < W.heap.size := Nat.lt_of_lt_of_le HBw.out c4.size
    simp only at l1 l2
    unfold encE at HA
    have hb1 : ¬ w1.heap.size = b := by have := HBw.out; omega
    have C4 := Lib.hid c4
    have C2 := Lib.hid c2
    have C3 := Lib.hid c3
    have C1 := Lib.hid (And.intro c1 f1)
    clear hX hY hgood c2 c3 c4 c5
    obtain ⟨x1, x2, x3, hx⟩ : ∃ p q o, L[x.val] = (p, q, o) := ⟨_, _, _, rfl⟩
    obtain ⟨y1, y2, y3, hy⟩ : ∃ a b c, (L[(x.val + 1) % L.length]'(nx_lt x)) = (a, b, c) := ⟨_, _, _, rfl⟩
    rw [hx, hy] at HA
    rw [hx] at HX
    rw [hy] at HY
    rw [hx, hy]
    simp only [] at HX HY HA
    simp only []
    generalize ar x = r at *
    obtain ⟨v2, hv2⟩ : ∃ v2, min t r = v2 := ⟨_, rfl⟩
    rw [hv2] at HSx
    obtain ⟨d0, d1, d2⟩ := HX.out
    obtain ⟨d3, d4, d5⟩ := HY.out
    obtain ⟨d6, d7, d8⟩ := C5.out
    simp only [List.push_toArray, List.append_toArray, List.cons_append, List.nil_append] at HA
    have hmx : Try.prog.follows .mixedOrders = true := by kernel_rfl
    have E0 := Lib.hid (Below.refl W.heap.size W)
    clear hx hy
    gi_wp2
    gi_region_with_o (first
      | (refine ⟨trivial, ?_⟩
         gi_at_call 37
         refine (CallsIn.inRound l (callsIn_wide.2 (HA.out _))).mono ?_
         rintro e yw ⟨rfl, b5⟩
         (try (have b5 := undrew b5))
         have E2 := Lib.hid (chain E0.out b5)
         have k1 := keep1 E2.out C1.out.1
         have g1 := keepf E2.out C1.out.1 C1.out.2
         obtain ⟨d6, d7, d8⟩ := C5.out.below E2.out
         obtain ⟨d0, d1, d2⟩ := HX.out.below E2.out
         obtain ⟨d3, d4, d5⟩ := HY.out.below E2.out
         clear b5))
    all_goals
      have HF := Lib.hid (si_step (x := x) (v2 := v2) HI.out E2.out (B := w2.heap.size) (by omega) (by omega) hb1 l3 (by have h5 : gp = w.heap.size := HGP.out; have h6 := HGL.out; omega) HSx.out)
      clear k1 g1 E2 HI
      gi_wp2
      exact HF.out
  case done =>
    rintro D xs W hD rfl ⟨⟨⟨t, c1, f1, hgood⟩, c2, c3, c4⟩, c5⟩ hK
    have hg := hgood _ _ rfl
    subst hg
    have C4 := Lib.hid c4
    have HKD := Lib.hid hK
    clear hgood c2 c3 c4 c5
    generalize s L.length = res at *
    gi_wp2
    refine ⟨by simp, .inl ⟨_, _, rfl, run_takeDeferred HKD.out, ?_⟩⟩
    refine ⟨.tuple #[.int .i64 res, .int .i64 0], (by simp [results, Try.results17, go_sem]), rfl, ?_⟩
    exact C4.out.trans (belowK_b (w := w) (Nat.le_refl _) _ D _ _ (by omega) HKD.out rfl rfl)
  case stop =>
    rintro D c2 pre W _ _ h _
    exact h.elim
end Go.Proofs.Ytpkfngfenkcjoaa

/- hull.opposites: what a range over it is handed. -/
set_option linter.all false
namespace Go.Proofs.Ytpkfngfenkcjoaa
open Go.RowKit Go.Shelf
attribute [local go_sem] Oper.semAt_some

theorem way_any (L : List T3) (v : Value) (i : Nat) (w : World) (h : Rv w v L) (hi : i < L.length) (hmx : L.length ≤ 1000000) (hv : ∀ a ∈ L, inV 1048576 a.1 a.2.1 a.2.2 = true) :
    Calls Try.prog 46 #[v, .int .i64 (i : Int)] w (Ret (vv ((L[(i + 1) % L.length]'(Nat.mod_lt _ (by omega))).1 - L[i].1) ((L[(i + 1) % L.length]'(Nat.mod_lt _ (by omega))).2.1 - L[i].2.1) ((L[(i + 1) % L.length]'(Nat.mod_lt _ (by omega))).2.2 - L[i].2.2)) w) := by
  obtain ⟨p, b, off, cap, rfl, h2, h3, h4, h5⟩ := id h
  obtain rfl := h4 (by omega)
  obtain ⟨c0, c1, c2⟩ := h5 i hi
  have v1 := hv _ (List.getElem_mem hi)
  have v2 := hv _ (List.getElem_mem (Nat.mod_lt (i + 1) (show 0 < L.length by omega)))
  obtain ⟨a1, a2, a3⟩ := bv_of v1
  obtain ⟨b1, b2, b3⟩ := bv_of v2
  refine way_walk b off L.length cap i _ _ _ _ _ _ _ _ _ w hi c0 c1 c2 (fun w' hb => after_any L _ i w' (h.below hb) (Nat.le_of_lt hi) (by omega) hmx) (fun w' => ?_)
  have hs := Sub_any (x1 := (L[(i + 1) % L.length]'(Nat.mod_lt _ (by omega))).1) (x2 := (L[(i + 1) % L.length]'(Nat.mod_lt _ (by omega))).2.1) (x3 := (L[(i + 1) % L.length]'(Nat.mod_lt _ (by omega))).2.2) (y1 := L[i].1) (y2 := L[i].2.1) (y3 := L[i].2.2) (inV_iff.2 ⟨by omega, by omega, by omega⟩) (inV_iff.2 ⟨by omega, by omega, by omega⟩) w'
  unfold ckd at hs
  rw [if_pos (inV_iff.2 ⟨by omega, by omega, by omega⟩)] at hs
  exact hs

/-- The pairs, one after another. -/
def stp (c : Nat → Nat → Bool) : Nat → Nat × Nat
  | 0 => (0, 1)
  | k + 1 => if c (stp c k).1 (stp c k).2 then ((stp c k).1, (stp c k).2 + 1) else ((stp c k).1 + 1, (stp c k).2)
def prs (c : Nat → Nat → Bool) (k : Nat) : List (Nat × Nat) := (List.range k).map (stp c)
theorem prs_succ (c : Nat → Nat → Bool) (k : Nat) : prs c (k + 1) = prs c k ++ [stp c k] := by simp [prs, List.range_succ]
theorem prs_length (c : Nat → Nat → Bool) (k : Nat) : (prs c k).length = k := by simp [prs]
theorem stp_sum (c : Nat → Nat → Bool) (k : Nat) : (stp c k).1 + (stp c k).2 = k + 1 := by
  induction k with
  | zero => rfl
  | succ k ih => rw [stp]; split <;> simp only [] <;> omega
abbrev FP (n : Nat) := Fin n × Fin n
def vl {n : Nat} (p : FP n) : Nat × Nat := (p.1.val, p.2.val)
def encP {n : Nat} (p : FP n) : Array Value := #[.int .i64 (p.1.val : Int), .int .i64 (p.2.val : Int)]

set_option maxRecDepth 100000 in
set_option maxHeartbeats 4000000 in
theorem opp1_in (Kp : World → World → Prop) (n : Nat) (hn : 1 ≤ n) (l Bs b off cap len N : Nat) (L : List T3) (hlp : len = L.length) (hlen : L.length ≤ 10000) (hkeep : ∀ W W', Kp W W' → ∀ a : Addr, (a.block = Bs ∨ a.block = b) → W'.cell? a = W.cell? a) (B : Nat) (J Jx : List (FP L.length) → World → Prop) (hJ : AbidesFrom B J)
    (f : Nat → T3) (t : Nat → Nat → Int) (c : Nat → Nat → Bool) (hct : ∀ i j, c i j = decide (t i j = 1))
    (hW : ∀ i, i < len → ∀ w', Rv w' (.slice (some ⟨b, off, none⟩) len cap) L → Calls Try.prog 46 #[.slice (some ⟨b, off, none⟩) len cap, .int .i64 (i : Int)] w' (Ret (vv (f i).1 (f i).2.1 (f i).2.2) w'))
    (hT : ∀ i j, i < len → j < len → ∀ w', Calls Try.prog 37 #[vv 0 0 0, vv (f i).1 (f i).2.1 (f i).2.2, vv (f j).1 (f j).2.1 (f j).2.2] w' (Ret (.int .i64 (t i j)) w'))
    (hN : ∀ k, k < N → (stp c k).1 < (stp c k).2 ∧ (stp c k).2 < len) (hE : ¬ ((stp c N).1 < (stp c N).2 ∧ (stp c N).2 < len))
    (hY : ∀ pre x W, J pre W → pre.length < N → YieldAt Fence.wide (n - 1) Try.prog l (encP x) W fun e W' =>
      (e = .returned (.bool true) ∧ J (pre ++ [x]) W' ∧ Kp W W') ∨ (e = .returned (.bool false) ∧ Jx (pre ++ [x]) W'))
    (W : World) (hBs : W.cell? ⟨Bs, 0, none⟩ = some (.slice (some ⟨b, off, none⟩) len cap)) (hc : Rv W (.slice (some ⟨b, off, none⟩) len cap) L) (h0 : J [] W) :
    CallsIn Fence.wide n Try.prog 45 #[.func (.yield l) #[] #[], .pointer (some ⟨Bs, 0, none⟩)] W fun e W' => (∃ v, e = .returned v) ∧
      ((∃ ys, ys.map vl = prs c N ∧ J ys W') ∨ (∃ pre, (∃ k, k ≤ N ∧ pre.map vl = prs c k) ∧ Jx pre W')) := by
  refine callsIn_of_wp Try.func45 rfl trivial ?_ rfl
  simp only [Try.ntmps45, List.size_toArray, List.length_cons, List.length_nil, Nat.reduceAdd, Nat.reduceSub, Array.replicate_succ, Array.replicate_zero, List.push_toArray, List.append_toArray, List.nil_append, List.cons_append]
  have HC := Lib.hid hc
  have HBs := Lib.hid hBs
  have HLP := Lib.hid hlp
  have HLN := Lib.hid hlen
  have HJ := Lib.hid hJ
  have HK := Lib.hid hkeep
  have HY := Lib.hid hY
  have HW := Lib.hid hW
  have HT := Lib.hid hT
  have HCT := Lib.hid hct
  have HN := Lib.hid hN
  have HE := Lib.hid hE
  clear hc hlp hlen hJ hkeep hY hBs hW hT hct hN hE
  gi_wp2
  gi_loopw [3, 4] (fun si sj wr => ∃ (k i j : Nat), k ≤ N ∧ i + j = k + 1 ∧ si = .int .i64 (i : Int) ∧ sj = .int .i64 (j : Int) ∧ Hid (stp c k = (i, j)) ∧ Hid (∃ ps : List (FP L.length), ps.map vl = prs c k ∧ J ps wr) ∧ Hid (wr.cell? ⟨Bs, 0, none⟩ = some (.slice (some ⟨b, off, none⟩) len cap)) ∧ Hid (Rv wr (.slice (some ⟨b, off, none⟩) len cap) L))
    (fun si sj _ => N + 1 - ((intOf si).toNat + (intOf sj).toNat))
  case atStart => exact ⟨0, 0, 1, Nat.zero_le _, rfl, rfl, rfl, rfl, ⟨[], rfl, h0⟩, HBs.out, HC.out⟩
  case round =>
    obtain ⟨k, i, j, hk, hij, rfl, rfl, hst, hJ', hB, hR⟩ := hrel
    obtain ⟨ps, hps, hj⟩ := hJ'.out
    have hJs := Lib.hid hj
    have HPS := Lib.hid hps
    have hpl : ps.length = k := by have := congrArg List.length hps; rw [List.length_map, prs_length] at this; exact this
    clear hj hps hJ'
    have hbs := hB.out
    have hll : len ≤ 10000 := by have := HLN.out; have h5 : len = L.length := HLP.out; omega
    by_cases hlt : k < N
    · have hboth := HN.out k hlt
      rw [hst.out] at hboth
      obtain ⟨q1, q2⟩ := hboth
      have q1' : (i : Int) < (j : Int) := by omega
      have q2' : (j : Int) < (len : Int) := by omega
      obtain ⟨xi, hxi⟩ : ∃ xi : Fin L.length, xi.val = i := ⟨⟨i, by have h5 : len = L.length := HLP.out; omega⟩, rfl⟩
      obtain ⟨xj, hxj⟩ : ∃ xj : Fin L.length, xj.val = j := ⟨⟨j, by have h5 : len = L.length := HLP.out; omega⟩, rfl⟩
      obtain ⟨fn, tmps, assign, body, hy, hRd⟩ := HY.out ps (xi, xj) wr hJs.out (by rw [hpl]; exact hlt)
      unfold encP at hy
      dsimp only at hy
      rw [hxi, hxj] at hy
      have HPR : Hid ((ps ++ [((xi, xj) : FP L.length)]).map vl = prs c (k + 1)) := by
        show _ = _
        rw [prs_succ, hst.out, List.map_append, HPS.out, ← hxi, ← hxj]
        rfl
      clear hxi hxj
      gi_wp2
      refine RoundIn.mono hRd ?_
      rintro e W3 (⟨rfl, hJ3, hk3⟩ | ⟨rfl, hJx3⟩)
      · have HJ3 := Lib.hid hJ3
        have HB3 : Hid (W3.cell? ⟨Bs, 0, none⟩ = some (.slice (some ⟨b, off, none⟩) len cap)) := (HK.out _ _ hk3 ⟨Bs, 0, none⟩ (Or.inl rfl)).trans hB.out
        have HR3 : Hid (Rv W3 (.slice (some ⟨b, off, none⟩) len cap) L) := rv_same hR.out (fun a ha => HK.out _ _ hk3 a (Or.inr ha))
        skip
        obtain ⟨fi1, fi2, fi3, hfi⟩ : ∃ x y z, f i = (x, y, z) := ⟨_, _, _, rfl⟩
        obtain ⟨fj1, fj2, fj3, hfj⟩ : ∃ x y z, f j = (x, y, z) := ⟨_, _, _, rfl⟩
        have HWi : Hid (∀ w', Rv w' (.slice (some ⟨b, off, none⟩) len cap) L → Calls Try.prog 46 #[.slice (some ⟨b, off, none⟩) len cap, .int .i64 (i : Int)] w' (Ret (vv fi1 fi2 fi3) w')) := by
          have := HW.out i (by omega); rw [hfi] at this; exact this
        have HWj : Hid (∀ w', Rv w' (.slice (some ⟨b, off, none⟩) len cap) L → Calls Try.prog 46 #[.slice (some ⟨b, off, none⟩) len cap, .int .i64 (j : Int)] w' (Ret (vv fj1 fj2 fj3) w')) := by
          have := HW.out j q2; rw [hfj] at this; exact this
        have HTij : Hid (∀ w', Calls Try.prog 37 #[vv 0 0 0, vv fi1 fi2 fi3, vv fj1 fj2 fj3] w' (Ret (.int .i64 (t i j)) w')) := by
          have := HT.out i j (by omega) q2; rw [hfi, hfj] at this; exact this
        have b3 := HB3.out
        have hmx : Try.prog.follows .mixedOrders = true := by kernel_rfl
        have E0 := Lib.hid (Below.refl W3.heap.size W3)
        have HCc := HCT.out i j
        clear hJ3 hk3 hy hbs hfi hfj hRd hB hR hJs
        by_cases hr : t i j = 1
        · have HST : Hid (stp c (k + 1) = (i, j + 1)) := by
            show _ = _
            rw [stp, hst.out]
            simp only []
            rw [if_pos (by rw [HCc]; simp [hr])]
          rw [hr] at HTij
          clear hr HCc hst
          gi_wp2
          gi_region_with_o (first
          | (refine ⟨trivial, ?_⟩
             gi_at_call 46
             with_reducible refine (callsIn_wide.2 (HWi.out _ (by first | exact HR3.out.below E0.out | exact HR3.out.below E0.out.drew))).mono ?_
             rintro e yw ⟨rfl, b5⟩
             (try (have b5 := undrew b5))
             have E0 := Lib.hid (chain E0.out b5)
             have b3 := keep1 E0.out HB3.out
             clear b5)
          | (refine ⟨trivial, ?_⟩
             gi_at_call 46
             with_reducible refine (callsIn_wide.2 (HWj.out _ (by first | exact HR3.out.below E0.out | exact HR3.out.below E0.out.drew))).mono ?_
             rintro e yw ⟨rfl, b5⟩
             (try (have b5 := undrew b5))
             have E0 := Lib.hid (chain E0.out b5)
             have b3 := keep1 E0.out HB3.out
             clear b5)
          | (refine ⟨trivial, ?_⟩
             gi_at_call 37
             with_reducible refine (callsIn_wide.2 (HTij.out _)).mono ?_
             rintro e yw ⟨rfl, b5⟩
             (try (have b5 := undrew b5))
             have E0 := Lib.hid (chain E0.out b5)
             have b3 := keep1 E0.out HB3.out
             clear b5))
          all_goals
            have HJ4 : Hid (∃ ps : List (FP L.length), ps.map vl = prs c (k + 1) ∧ J ps yw) := ⟨_, HPR.out, HJ.out _ _ _ none HJ3.out (grown_of_below E0.out) (fun r e => by cases e)⟩
            have HB4 := Lib.hid b3
            have HR4 := Lib.hid (HR3.out.below E0.out)
            clear b3 E0
            gi_wp2
            go_roundw
            case rel => exact ⟨k + 1, i, j + 1, by omega, by omega, by go_num, by go_num, HST.out, HJ4.out, HB4.out, HR4.out⟩
            case measure => simp [intOf]; omega
        · have HST : Hid (stp c (k + 1) = (i + 1, j)) := by
            show _ = _
            rw [stp, hst.out]
            simp only []
            rw [if_neg (by rw [HCc]; simp [hr])]
          generalize t i j = r at *
          clear HCc hst
          gi_wp2
          gi_region_with_o (first
          | (refine ⟨trivial, ?_⟩
             gi_at_call 46
             with_reducible refine (callsIn_wide.2 (HWi.out _ (by first | exact HR3.out.below E0.out | exact HR3.out.below E0.out.drew))).mono ?_
             rintro e yw ⟨rfl, b5⟩
             (try (have b5 := undrew b5))
             have E0 := Lib.hid (chain E0.out b5)
             have b3 := keep1 E0.out HB3.out
             clear b5)
          | (refine ⟨trivial, ?_⟩
             gi_at_call 46
             with_reducible refine (callsIn_wide.2 (HWj.out _ (by first | exact HR3.out.below E0.out | exact HR3.out.below E0.out.drew))).mono ?_
             rintro e yw ⟨rfl, b5⟩
             (try (have b5 := undrew b5))
             have E0 := Lib.hid (chain E0.out b5)
             have b3 := keep1 E0.out HB3.out
             clear b5)
          | (refine ⟨trivial, ?_⟩
             gi_at_call 37
             with_reducible refine (callsIn_wide.2 (HTij.out _)).mono ?_
             rintro e yw ⟨rfl, b5⟩
             (try (have b5 := undrew b5))
             have E0 := Lib.hid (chain E0.out b5)
             have b3 := keep1 E0.out HB3.out
             clear b5))
          all_goals
            have HJ4 : Hid (∃ ps : List (FP L.length), ps.map vl = prs c (k + 1) ∧ J ps yw) := ⟨_, HPR.out, HJ.out _ _ _ none HJ3.out (grown_of_below E0.out) (fun r e => by cases e)⟩
            have HB4 := Lib.hid b3
            have HR4 := Lib.hid (HR3.out.below E0.out)
            clear b3 E0
            gi_wp2
            go_roundw
            case rel => exact ⟨k + 1, i + 1, j, by omega, by omega, by go_num, by go_num, HST.out, HJ4.out, HB4.out, HR4.out⟩
            case measure => simp [intOf]; omega
      · have hJ5 := Lib.hid hJx3
        clear hJx3 hbs hy
        gi_wp2
        refine bodyPost_ret (results_none rfl _ _ _) rfl ?_
        exact ⟨⟨_, rfl⟩, .inr ⟨_, ⟨k + 1, by omega, HPR.out⟩, hJ5.out⟩⟩
    · obtain rfl : k = N := by omega
      have hE := HE.out
      rw [hst.out] at hE
      simp only [] at hE
      by_cases q1 : i < j
      · have q1' : (i : Int) < (j : Int) := by omega
        have q2 : ¬ j < len := fun h => hE ⟨q1, h⟩
        have q2' : ¬ (j : Int) < (len : Int) := by omega
        clear hE
        gi_wp2
        go_end0
        exact ⟨⟨_, rfl⟩, .inl ⟨_, HPS.out, hJs.out⟩⟩
      · have q1' : ¬ (i : Int) < (j : Int) := by omega
        clear hE
        gi_wp2
        go_end0
        exact ⟨⟨_, rfl⟩, .inl ⟨_, HPS.out, hJs.out⟩⟩

set_option maxHeartbeats 1000000 in
theorem opposites_in (n : Nat) (a : Option Addr) (len cap : Nat) (w : World) :
    CallsIn Fence.wide n Try.prog 22 #[.slice a len cap] w fun e w' => e = .returned (.func (.func 45) #[] #[.pointer (some ⟨w.heap.size, 0, none⟩)]) ∧ w' = w.alloc (.cells #[.slice a len cap] 22) := by
  refine callsIn_of_wp Try.func22 rfl trivial ?_ rfl
  simp only [Try.ntmps22, List.size_toArray, List.length_cons, List.length_nil, Nat.reduceAdd, Nat.reduceSub, Array.replicate_succ, Array.replicate_zero, List.push_toArray, List.append_toArray, List.nil_append, List.cons_append]
  gi_wp2
  go_ret
  exact ⟨rfl, rfl⟩

theorem opp_stops (Kp : World → World → Prop) (n : Nat) (hn : 1 ≤ n) (Bs b off len cap N : Nat) (L : List T3) (hlen : L.length ≤ 10000) (w : World) (hlp : len = L.length)
    (hc : w.cell? ⟨Bs, 0, none⟩ = some (.slice (some ⟨b, off, none⟩) len cap)) (hp : Rv w (.slice (some ⟨b, off, none⟩) len cap) L)
    (hkeep : ∀ W W', Kp W W' → ∀ a : Addr, (a.block = Bs ∨ a.block = b) → W'.cell? a = W.cell? a)
    (f : Nat → T3) (t : Nat → Nat → Int) (c : Nat → Nat → Bool) (hct : ∀ i j, c i j = decide (t i j = 1))
    (hW : ∀ i, i < len → ∀ w', Rv w' (.slice (some ⟨b, off, none⟩) len cap) L → Calls Try.prog 46 #[.slice (some ⟨b, off, none⟩) len cap, .int .i64 (i : Int)] w' (Ret (vv (f i).1 (f i).2.1 (f i).2.2) w'))
    (hT : ∀ i j, i < len → j < len → ∀ w', Calls Try.prog 37 #[vv 0 0 0, vv (f i).1 (f i).2.1 (f i).2.2, vv (f j).1 (f j).2.1 (f j).2.2] w' (Ret (.int .i64 (t i j)) w'))
    (hN : ∀ k, k < N → (stp c k).1 < (stp c k).2 ∧ (stp c k).2 < len) (hE : ¬ ((stp c N).1 < (stp c N).2 ∧ (stp c N).2 < len)) :
    SeqStopsK Fence.wide n Try.prog 45 #[.pointer (some ⟨Bs, 0, none⟩)] encP Kp (fun ys : List (FP L.length) => ys.map vl = prs c N) (fun pre => ∃ k, k ≤ N ∧ pre.map vl = prs c k) N w := fun l J Jx W hW' hJ _ hY h0 => by
  subst hlp
  exact opp1_in Kp n hn l Bs b off cap L.length N L rfl hlen hkeep W.heap.size J Jx hJ f t c hct hW hT hN hE hY W (keep1 hW' hc) (hp.below hW') h0
end Go.Proofs.Ytpkfngfenkcjoaa

/- A region that draws its order, in the body of a range over a function: walked as everywhere (wpAnyH), and what that gives inside the round. No function is spoken of here. -/
namespace Go.Proofs.Ytpkfngfenkcjoaa
open Go.RowKit

/-- Every way out but a panic and the one without room. -/
def Roomy (Q : Exit → Act → World → Prop) (e : Exit) (a : Act) (w : World) : Prop := e ≠ .outgrown ∧ (∀ c, e ≠ .panic c) ∧ Q e a w
theorem roomy_no {Q : Exit → Act → World → Prop} : ¬ LetsOut (Roomy Q) := fun ⟨_, _, h, _⟩ => h rfl
theorem rowsIn_wide {n : Nat} {P : Program} {row : String} {args : Array Value} {w : World} {R : Value → World → Prop} (h : Rows P row args w R) : RowsIn Fence.wide n P row args w R :=
  fun c cs _ => let ⟨v, w', r, s⟩ := h c cs; ⟨v, w', r, stepsIn_wide.2 s⟩
theorem uponIn_of_upon {n l : Nat} {P : Program} {o : Oper} {a : Act} {K : Act → World → Prop} {Q : Exit → Act → World → Prop} {r : Result Next} (h : o.upon P a K (Roomy Q) r) : o.uponIn (Fence.wide.inRound l) n P a K Q r := by
  cases r with
  | ok nx w' =>
    cases nx with
    | value v => exact h
    | skip => exact h
    | defer d => exact h
    | enter f args =>
      refine ⟨(by intro hd; cases hd), CallsIn.inRound l (callsIn_wide.2 (Calls.mono h ?_))⟩
      intro e w'' he
      cases e with
      | returned v => exact he
      | panicked chain => exact absurd rfl (he.2.1 chain)
      | outgrown => exact absurd he roomy_no
    | row row args => exact ⟨(by intro hd; cases hd), rowsIn_wide h⟩
    | _ => exact h.elim
  | halt hh w' =>
    cases hh with
    | panic v => exact absurd rfl (h.2.1 _)
    | _ => exact h.elim
theorem wpOpIn_of_wpOp {n l : Nat} {P : Program} {ops : Array Oper} {Q : Exit → Act → World → Prop} (hdef : ∀ (i : Nat) (o : Oper), ops[i]? = some o → ∀ c : Call, o.op ≠ Op.defer c) {i : Nat} {K : Act → World → Prop} {a : Act} {w : World}
    (h : wpOp P ops (Roomy Q) i K a w) : wpOpIn (Fence.wide.inRound l) n P ops Q i K a w := by
  unfold wpOp at h
  unfold wpOpIn
  cases ho : ops[i]? with
  | none => rw [ho] at h; exact h
  | some o =>
    rw [ho] at h
    simp only at h ⊢
    split
    · next hw =>
      rw [if_pos hw] at h
      rcases h with h | ⟨_, h⟩
      · refine ⟨fun _ _ => trivial, ?_⟩
        rw [show o.semAt (Fence.wide.inRound l).round a.eval = execOp a.eval o from Oper.semAt_some l _ _ (hdef i o ho)]
        exact uponIn_of_upon h
      · exact absurd h roomy_no
    · next hw =>
      rw [if_neg hw] at h
      exact ⟨fun _ _ => trivial, h⟩
theorem wpAnyIn_of_held {n l : Nat} {P : Program} {ops : Array Oper} {Q : Exit → Act → World → Prop} {S : World → Prop} {md : Region.Mode} (hdef : ∀ (i : Nat) (o : Oper), ops[i]? = some o → ∀ c : Call, o.op ≠ Op.defer c) :
    ∀ (fuel : Nat) (listed : Array Bool) (a : Act) (w : World), wpAnyH P md ops (Roomy Q) S fuel listed a w → wpAnyIn (Fence.wide.inRound l) n P md ops Q fuel listed a w
  | 0, _, _, _, h => ⟨h.1, h.2.2.2⟩
  | fuel + 1, _, _, _, h => ⟨fun e => (h.1 e).2.2, fun i hi => wpOpIn_of_wpOp hdef (wpOp_mono (fun a' w' h' => wpAnyIn_of_held hdef fuel _ a' w' h'.2) (h.2 i hi))⟩
/-- The beginning of the walk. -/
theorem round_held {n l id : Nat} {P : Program} {ops : Array Oper} {Q : Exit → Act → World → Prop} {S : World → Prop} {a : Act} {w : World} (hm : P.follows .mixedOrders = true) (hdef : ∀ (i : Nat) (o : Oper), ops[i]? = some o → ∀ c : Call, o.op ≠ Op.defer c) (hS : S w.drew)
    (h : S w.drew → wpAnyH P .any ops (Roomy Q) S ops.size (Array.replicate ops.size false) a w.drew) : (Code.region id ops true).wpIn (Fence.wide.inRound l) n P Q a w :=
  wpIn_region_any hm (wpAnyIn_of_held hdef ops.size _ a _ (h hS))
theorem roomy_take {Q : Exit → Act → World → Prop} {f : Act → Act} : ∀ c a w, Roomy Q (.panic c) (f a) w → Roomy Q (.panic c) a w := fun c _ _ h => absurd rfl (h.2.1 c)
theorem roomy_done {Q : Exit → Act → World → Prop} {a : Act} {w : World} (h : Q .normal a w) : Roomy Q .normal a w := ⟨(by intro h; cases h), (by intro c h; cases h), h⟩
end Go.Proofs.Ytpkfngfenkcjoaa

/- A region that draws its order, in the wide fence, behind a range over a function: walked as everywhere (wpAnyH), and what that gives inside the round. No function is spoken of here. -/
set_option linter.all false
namespace Go.Proofs.Ytpkfngfenkcjoaa
open Go.RowKit

theorem uponW_of_upon {n : Nat} {P : Program} {o : Oper} {a : Act} {K : Act → World → Prop} {Q : Exit → Act → World → Prop} {r : Result Next} (h : o.upon P a K (Roomy Q) r) : o.uponIn Fence.wide n P a K Q r := by
  cases r with
  | ok nx w' =>
    cases nx with
    | value v => exact h
    | skip => exact h
    | defer d => exact h
    | enter f args =>
      refine ⟨(by intro hd; cases hd), callsIn_wide.2 (Calls.mono h ?_)⟩
      intro e w'' he
      cases e with
      | returned v => exact he
      | panicked chain => exact absurd rfl (he.2.1 chain)
      | outgrown => exact absurd he roomy_no
    | row row args => exact ⟨(by intro hd; cases hd), rowsIn_wide h⟩
    | _ => exact h.elim
  | halt hh w' =>
    cases hh with
    | panic v => exact absurd rfl (h.2.1 _)
    | _ => exact h.elim
theorem wpOpW_of_wpOp {n : Nat} {P : Program} {ops : Array Oper} {Q : Exit → Act → World → Prop} (hdef : ∀ (i : Nat) (o : Oper), ops[i]? = some o → ∀ c : Call, o.op ≠ Op.defer c) {i : Nat} {K : Act → World → Prop} {a : Act} {w : World}
    (h : wpOp P ops (Roomy Q) i K a w) : wpOpIn Fence.wide n P ops Q i K a w := by
  unfold wpOp at h
  unfold wpOpIn
  cases ho : ops[i]? with
  | none => rw [ho] at h; exact h
  | some o =>
    rw [ho] at h
    simp only at h ⊢
    split
    · next hw =>
      rw [if_pos hw] at h
      rcases h with h | ⟨_, h⟩
      · refine ⟨fun _ _ => trivial, ?_⟩
        rw [show o.semAt Fence.wide.round a.eval = execOp a.eval o from rfl]
        exact uponW_of_upon h
      · exact absurd h roomy_no
    · next hw =>
      rw [if_neg hw] at h
      exact ⟨fun _ _ => trivial, h⟩
theorem wpAnyW_of_held {n : Nat} {P : Program} {ops : Array Oper} {Q : Exit → Act → World → Prop} {S : World → Prop} {md : Region.Mode} (hdef : ∀ (i : Nat) (o : Oper), ops[i]? = some o → ∀ c : Call, o.op ≠ Op.defer c) :
    ∀ (fuel : Nat) (listed : Array Bool) (a : Act) (w : World), wpAnyH P md ops (Roomy Q) S fuel listed a w → wpAnyIn Fence.wide n P md ops Q fuel listed a w
  | 0, _, _, _, h => ⟨h.1, h.2.2.2⟩
  | fuel + 1, _, _, _, h => ⟨fun e => (h.1 e).2.2, fun i hi => wpOpW_of_wpOp hdef (wpOp_mono (fun a' w' h' => wpAnyW_of_held hdef fuel _ a' w' h'.2) (h.2 i hi))⟩
/-- The beginning of the walk. -/
theorem wide_held {n id : Nat} {P : Program} {ops : Array Oper} {Q : Exit → Act → World → Prop} {S : World → Prop} {a : Act} {w : World} (hm : P.follows .mixedOrders = true) (hdef : ∀ (i : Nat) (o : Oper), ops[i]? = some o → ∀ c : Call, o.op ≠ Op.defer c) (hS : S w.drew)
    (h : S w.drew → wpAnyH P .any ops (Roomy Q) S ops.size (Array.replicate ops.size false) a w.drew) : (Code.region id ops true).wpIn Fence.wide n P Q a w :=
  wpIn_region_any hm (wpAnyW_of_held hdef ops.size _ a _ (h hS))
end Go.Proofs.Ytpkfngfenkcjoaa
