/- WideHolds gives true for all three wide integers (P1.9), and leaves its arguments as they were. No condition. -/
import Derived.Test.YtlmklhffafcmmaaT13
import Derived.Test.YtlmklhffafcmmaaT10
import Derived.Test.YtlmklhffafcmmaaRows
import Derived.Test.YtlmklhffafcmmaaT9
import Derived.ProofKit
import Derived.OpenShut
import Derived.ShutString
import Derived.ChangeOld
import Derived.Below
import Derived.Lib.SmallJoins

/- The law WideHolds: the walk over what its calls give. -/
namespace Go.Proofs.Ytlmklhffafcmmaa
open Go.RowKit

theorem WL.three (w : World) (a b c : Bool) (s t r : ByteArray) (ty : TypeId) : WL (w.alloc (.cells #[.bool a, .string s, .bool b, .string t, .bool c, .string r] ty)) w.heap.size [(a, s), (b, t), (c, r)] := by
  intro k hk
  match k, hk with
  | 0, _ => exact ⟨by simp [go_sem], by simp [go_sem]⟩
  | 1, _ => exact ⟨by simp [go_sem], by simp [go_sem]⟩
  | 2, _ => exact ⟨by simp [go_sem], by simp [go_sem]⟩

set_option maxRecDepth 100000 in
set_option maxHeartbeats 8000000 in
theorem holds_long (a b c : Bool) (s t r : ByteArray) (w : World) (hsh : shortL [(a, s), (b, t), (c, r)] = false) :
    Calls Try.prog 10 #[.agg #[.bool a, .string s], .agg #[.bool b, .string t], .agg #[.bool c, .string r]] w (Ret (.bool true) w) := by
  have H_known := Lib.hid known_true
  obtain ⟨w0, hw0⟩ : ∃ w0 : World, w0 = (((w.alloc (.cells #[.bool a, .string s] 23)).alloc (.cells #[.bool b, .string t] 23)).alloc (.cells #[.bool c, .string r] 23)).alloc (.cells #[.bool a, .string s, .bool b, .string t, .bool c, .string r] 23) := ⟨_, rfl⟩
  have hb0 : Hid (Below w.heap.size w w0) := by rw [hw0]; exact ((((Below.refl _ _).alloc (Nat.le_refl _) _).alloc (by simp) _).alloc (by simp; omega) _).alloc (by simp; omega) _
  have I1 : Hid (ZC (.bool a) (.string s) w0 w.heap.size) := by rw [hw0]; exact (((ZC.new rfl).alloc _).alloc _).alloc _
  have I2 : Hid (ZC (.bool b) (.string t) w0 (w.heap.size + 1)) := by rw [hw0]; exact ((ZC.new (by simp)).alloc _).alloc _
  have I3 : Hid (ZC (.bool c) (.string r) w0 (w.heap.size + 1 + 1)) := by rw [hw0]; exact (ZC.new (by simp)).alloc _
  have HSH := short_any [(a, s), (b, t), (c, r)] 3 (w.heap.size + 1 + 1 + 1) w0 rfl (by decide) (by rw [hw0]; have := WL.three (((w.alloc (.cells #[.bool a, .string s] 23)).alloc (.cells #[.bool b, .string t] 23)).alloc (.cells #[.bool c, .string r] 23)) a b c s t r 23; simpa using this)
  rw [hsh] at HSH
  have HSh := Lib.hid HSH
  have Hw0 := Lib.hid hw0
  clear HSH hw0 hsh
  unfold Ret at *
  unfold BPost at HSh
  go_enter Try.func10, Try.ntmps10
  go_wp2_with fail
  rw [← Hw0.out]
  refine HSh.out.mono ?_
  rintro e x0 ⟨rfl, b0⟩
  have D := Lib.hid b0
  clear b0
  go_wp2_with fail
  refine (H_known.out _).mono ?_
  rintro e x1 ⟨rfl, b1⟩
  have HZ := Lib.hid (chain hb0.out (chain D.out b1))
  clear b1
  go_wp2
  go_ret
  exact ⟨rfl, HZ.out⟩

set_option maxRecDepth 100000 in
set_option maxHeartbeats 8000000 in
theorem holds_bad (a b c : Bool) (s t r : ByteArray) (w : World) (z1 : s.size ≤ 60) (z2 : t.size ≤ 60) (z3 : r.size ≤ 60) (hsh : shortL [(a, s), (b, t), (c, r)] = true) (hvl : validL [(a, s), (b, t), (c, r)] = false) :
    Calls Try.prog 10 #[.agg #[.bool a, .string s], .agg #[.bool b, .string t], .agg #[.bool c, .string r]] w (Ret (.bool true) w) := by
  have H_known := Lib.hid known_true
  obtain ⟨w0, hw0⟩ : ∃ w0 : World, w0 = (((w.alloc (.cells #[.bool a, .string s] 23)).alloc (.cells #[.bool b, .string t] 23)).alloc (.cells #[.bool c, .string r] 23)).alloc (.cells #[.bool a, .string s, .bool b, .string t, .bool c, .string r] 23) := ⟨_, rfl⟩
  have hb0 : Hid (Below w.heap.size w w0) := by rw [hw0]; exact ((((Below.refl _ _).alloc (Nat.le_refl _) _).alloc (by simp) _).alloc (by simp; omega) _).alloc (by simp; omega) _
  have I1 : Hid (ZC (.bool a) (.string s) w0 w.heap.size) := by rw [hw0]; exact (((ZC.new rfl).alloc _).alloc _).alloc _
  have I2 : Hid (ZC (.bool b) (.string t) w0 (w.heap.size + 1)) := by rw [hw0]; exact ((ZC.new (by simp)).alloc _).alloc _
  have I3 : Hid (ZC (.bool c) (.string r) w0 (w.heap.size + 1 + 1)) := by rw [hw0]; exact (ZC.new (by simp)).alloc _
  have HSH := short_any [(a, s), (b, t), (c, r)] 3 (w.heap.size + 1 + 1 + 1) w0 rfl (by decide) (by rw [hw0]; have := WL.three (((w.alloc (.cells #[.bool a, .string s] 23)).alloc (.cells #[.bool b, .string t] 23)).alloc (.cells #[.bool c, .string r] 23)) a b c s t r 23; simpa using this)
  rw [hsh] at HSH
  have H_val := Lib.hid (fun g w h => valid_any [(a, s), (b, t), (c, r)] 3 g w rfl (by decide) h (by intro x hx; simp at hx; rcases hx with rfl | rfl | rfl <;> (show _ ≤ _; simp; omega)))
  rw [hvl] at H_val
  unfold BPost at H_val
  clear hvl
  have HSh := Lib.hid HSH
  have Hw0 := Lib.hid hw0
  clear HSH hw0 hsh
  unfold Ret at *
  unfold BPost at HSh
  go_enter Try.func10, Try.ntmps10
  go_wp2_with fail
  rw [← Hw0.out]
  refine HSh.out.mono ?_
  rintro e x0 ⟨rfl, b0⟩
  have D := Lib.hid b0
  clear b0
  obtain ⟨k0, k1, _⟩ := I1.out.next D.out
  obtain ⟨k2, k3, _⟩ := I2.out.next D.out
  obtain ⟨k4, k5, _⟩ := I3.out.next D.out
  go_wp2_with fail
  refine (H_val.out _ _ (WL.three _ _ _ _ _ _ _ _)).mono ?_
  rintro e yv ⟨rfl, b9⟩
  have E := Lib.hid (chain (below_one _ _) b9)
  have D := Lib.hid (chain D.out E.out)
  clear b9 E k0 k1 k2 k3 k4 k5
  go_wp2_with fail
  refine (H_known.out _).mono ?_
  rintro e x1 ⟨rfl, b1⟩
  have HZ := Lib.hid (chain hb0.out (chain D.out b1))
  clear b1
  go_wp2
  go_ret
  exact ⟨rfl, HZ.out⟩

set_option maxRecDepth 100000 in
set_option maxHeartbeats 8000000 in
theorem holds_walk_zero (a b c : Bool) (s t r : ByteArray) (w : World) (l1 : s.size ≤ 60) (l2 : t.size ≤ 60) (l3 : r.size ≤ 60) (hsh : shortL [(a, s), (b, t), (c, r)] = true) (hvl : validL [(a, s), (b, t), (c, r)] = true)
    (a1 m1 x1 y1 z1 a2 a3 : Bool) (s1 sm sx sy sz s2 s3 tt : ByteArray) (g g2 : Int) (hg : g = 0)
    (h_ab : ∀ w, Calls Try.prog 27 #[.agg #[.bool a, .string s], .agg #[.bool b, .string t]] w fun e w' => e = .returned (.tuple #[.agg #[.bool a1, .string s1], .int .i64 0]) ∧ Below w.heap.size w w')
    (h_ba : ∀ w, Calls Try.prog 27 #[.agg #[.bool b, .string t], .agg #[.bool a, .string s]] w fun e w' => e = .returned (.tuple #[.agg #[.bool a1, .string s1], .int .i64 0]) ∧ Below w.heap.size w w')
    (h_m : ∀ w, Calls Try.prog 34 #[.agg #[.bool a, .string s], .agg #[.bool b, .string t]] w fun e w' => e = .returned (.tuple #[.agg #[.bool m1, .string sm], .int .i64 0]) ∧ Below w.heap.size w w')
    (h_n : ∀ w, Calls Try.prog 34 #[.agg #[.bool b, .string t], .agg #[.bool a, .string s]] w fun e w' => e = .returned (.tuple #[.agg #[.bool m1, .string sm], .int .i64 0]) ∧ Below w.heap.size w w')
    (h_x : ∀ w, Calls Try.prog 34 #[.agg #[.bool a1, .string s1], .agg #[.bool c, .string r]] w fun e w' => e = .returned (.tuple #[.agg #[.bool x1, .string sx], .int .i64 0]) ∧ Below w.heap.size w w')
    (h_y : ∀ w, Calls Try.prog 34 #[.agg #[.bool a, .string s], .agg #[.bool c, .string r]] w fun e w' => e = .returned (.tuple #[.agg #[.bool y1, .string sy], .int .i64 0]) ∧ Below w.heap.size w w')
    (h_z : ∀ w, Calls Try.prog 34 #[.agg #[.bool b, .string t], .agg #[.bool c, .string r]] w fun e w' => e = .returned (.tuple #[.agg #[.bool z1, .string sz], .int .i64 0]) ∧ Below w.heap.size w w')
    (h_s : ∀ w, Calls Try.prog 27 #[.agg #[.bool y1, .string sy], .agg #[.bool z1, .string sz]] w fun e w' => e = .returned (.tuple #[.agg #[.bool x1, .string sx], .int .i64 0]) ∧ Below w.heap.size w w')
    (h_bk : ∀ w, Calls Try.prog 28 #[.agg #[.bool a1, .string s1], .agg #[.bool b, .string t]] w fun e w' => e = .returned (.tuple #[.agg #[.bool a, .string s], .int .i64 0]) ∧ Below w.heap.size w w')
    (h_sg : ∀ w, Calls Try.prog 16 #[.agg #[.bool b, .string t]] w fun e w' => e = .returned (.int .i64 g) ∧ Below w.heap.size w w')
    (h_t : ∀ w, Calls Try.prog 42 #[.agg #[.bool a, .string s]] w fun e w' => e = .returned (.tuple #[.string tt, .int .i64 0]) ∧ Below w.heap.size w w')
    (h_p : ∀ w, Calls Try.prog 44 #[.string tt] w fun e w' => e = .returned (.tuple #[.agg #[.bool a, .string s], .int .i64 0]) ∧ Below w.heap.size w w')
    (h_ac : ∀ w, Calls Try.prog 27 #[.agg #[.bool a, .string s], .agg #[.bool c, .string r]] w fun e w' => e = .returned (.tuple #[.agg #[.bool a2, .string s2], .int .i64 0]) ∧ Below w.heap.size w w')
    (h_bc : ∀ w, Calls Try.prog 27 #[.agg #[.bool b, .string t], .agg #[.bool c, .string r]] w fun e w' => e = .returned (.tuple #[.agg #[.bool a3, .string s3], .int .i64 0]) ∧ Below w.heap.size w w')
    (h_c1 : ∀ w, Calls Try.prog 15 #[.agg #[.bool a2, .string s2], .agg #[.bool a3, .string s3]] w fun e w' => e = .returned (.int .i64 g2) ∧ Below w.heap.size w w')
    (h_c2 : ∀ w, Calls Try.prog 15 #[.agg #[.bool a, .string s], .agg #[.bool b, .string t]] w fun e w' => e = .returned (.int .i64 g2) ∧ Below w.heap.size w w') :
    Calls Try.prog 10 #[.agg #[.bool a, .string s], .agg #[.bool b, .string t], .agg #[.bool c, .string r]] w (Ret (.bool true) w) := by
  have H_ab := Lib.hid h_ab
  have H_ba := Lib.hid h_ba
  have H_m := Lib.hid h_m
  have H_n := Lib.hid h_n
  have H_x := Lib.hid h_x
  have H_y := Lib.hid h_y
  have H_z := Lib.hid h_z
  have H_s := Lib.hid h_s
  have H_bk := Lib.hid h_bk
  have H_sg := Lib.hid h_sg
  have H_t := Lib.hid h_t
  have H_p := Lib.hid h_p
  have H_ac := Lib.hid h_ac
  have H_bc := Lib.hid h_bc
  have H_c1 := Lib.hid h_c1
  have H_c2 := Lib.hid h_c2
  clear h_ab h_ba h_m h_n h_x h_y h_z h_s h_bk h_sg h_t h_p h_ac h_bc h_c1 h_c2
  have H_known := Lib.hid known_true
  obtain ⟨w0, hw0⟩ : ∃ w0 : World, w0 = (((w.alloc (.cells #[.bool a, .string s] 23)).alloc (.cells #[.bool b, .string t] 23)).alloc (.cells #[.bool c, .string r] 23)).alloc (.cells #[.bool a, .string s, .bool b, .string t, .bool c, .string r] 23) := ⟨_, rfl⟩
  have hb0 : Hid (Below w.heap.size w w0) := by rw [hw0]; exact ((((Below.refl _ _).alloc (Nat.le_refl _) _).alloc (by simp) _).alloc (by simp; omega) _).alloc (by simp; omega) _
  have I1 : Hid (ZC (.bool a) (.string s) w0 w.heap.size) := by rw [hw0]; exact (((ZC.new rfl).alloc _).alloc _).alloc _
  have I2 : Hid (ZC (.bool b) (.string t) w0 (w.heap.size + 1)) := by rw [hw0]; exact ((ZC.new (by simp)).alloc _).alloc _
  have I3 : Hid (ZC (.bool c) (.string r) w0 (w.heap.size + 1 + 1)) := by rw [hw0]; exact (ZC.new (by simp)).alloc _
  have HSH := short_any [(a, s), (b, t), (c, r)] 3 (w.heap.size + 1 + 1 + 1) w0 rfl (by decide) (by rw [hw0]; have := WL.three (((w.alloc (.cells #[.bool a, .string s] 23)).alloc (.cells #[.bool b, .string t] 23)).alloc (.cells #[.bool c, .string r] 23)) a b c s t r 23; simpa using this)
  rw [hsh] at HSH
  have H_val := Lib.hid (fun g w h => valid_any [(a, s), (b, t), (c, r)] 3 g w rfl (by decide) h (by intro x hx; simp at hx; rcases hx with rfl | rfl | rfl <;> (show _ ≤ _; simp; omega)))
  rw [hvl] at H_val
  unfold BPost at H_val
  clear hvl
  have HSh := Lib.hid HSH
  have Hw0 := Lib.hid hw0
  clear HSH hw0 hsh
  unfold Ret at *
  unfold BPost at HSh
  go_enter Try.func10, Try.ntmps10
  go_wp2_with fail
  rw [← Hw0.out]
  refine HSh.out.mono ?_
  rintro e x0 ⟨rfl, b0⟩
  have D := Lib.hid b0
  clear b0
  obtain ⟨k0, k1, _⟩ := I1.out.next D.out
  obtain ⟨k2, k3, _⟩ := I2.out.next D.out
  obtain ⟨k4, k5, _⟩ := I3.out.next D.out
  go_wp2_with fail
  refine (H_val.out _ _ (WL.three _ _ _ _ _ _ _ _)).mono ?_
  rintro e yv ⟨rfl, b9⟩
  have E := Lib.hid (chain (below_one _ _) b9)
  have D := Lib.hid (chain D.out E.out)
  clear b9 E k0 k1 k2 k3 k4 k5
  obtain ⟨k3a, k3b, _⟩ := I1.out.next D.out
  obtain ⟨k4a, k4b, _⟩ := I2.out.next D.out
  go_wp2_with fail
  refine (H_ab.out _).mono ?_
  rintro e y7 ⟨rfl, b9⟩
  obtain ⟨u7, hu7⟩ : ∃ u : World, u = y7.alloc (.cells #[.bool a1, .string s1] 23) := ⟨_, rfl⟩
  have E : Hid (Below yv.heap.size yv u7) := by rw [hu7]; exact b9.alloc b9.size _
  have D := Lib.hid (chain D.out E.out)
  have T7 : Hid (ZC (.bool a1) (.string s1) u7 y7.heap.size) := by rw [hu7]; exact ZC.new rfl
  have Hu7 := Lib.hid hu7
  clear hu7 b9 E
  clear k3a k3b k4a k4b
  go_upto_region 4 with (fail)
  rw [← Hu7.out]
  clear Hu7
  obtain ⟨k4a, k4b, _⟩ := I2.out.next D.out
  obtain ⟨k3a, k3b, _⟩ := I1.out.next D.out
  go_wp2_with fail
  refine (H_ba.out _).mono ?_
  rintro e y9 ⟨rfl, b9⟩
  obtain ⟨u9, hu9⟩ : ∃ u : World, u = y9.alloc (.cells #[.bool a1, .string s1] 23) := ⟨_, rfl⟩
  have E : Hid (Below u7.heap.size u7 u9) := by rw [hu9]; exact b9.alloc b9.size _
  have D := Lib.hid (chain D.out E.out)
  have T7 := Lib.hid (T7.out.next E.out)
  have T9 : Hid (ZC (.bool a1) (.string s1) u9 y9.heap.size) := by rw [hu9]; exact ZC.new rfl
  have Hu9 := Lib.hid hu9
  clear hu9 b9 E
  clear k4a k4b k3a k3b
  go_upto_region 5 with (fail)
  rw [← Hu9.out]
  clear Hu9
  obtain ⟨k3a, k3b, _⟩ := I1.out.next D.out
  obtain ⟨k4a, k4b, _⟩ := I2.out.next D.out
  go_wp2_with fail
  refine (H_m.out _).mono ?_
  rintro e y11 ⟨rfl, b9⟩
  obtain ⟨u11, hu11⟩ : ∃ u : World, u = y11.alloc (.cells #[.bool m1, .string sm] 23) := ⟨_, rfl⟩
  have E : Hid (Below u9.heap.size u9 u11) := by rw [hu11]; exact b9.alloc b9.size _
  have D := Lib.hid (chain D.out E.out)
  have T7 := Lib.hid (T7.out.next E.out)
  have T9 := Lib.hid (T9.out.next E.out)
  have T11 : Hid (ZC (.bool m1) (.string sm) u11 y11.heap.size) := by rw [hu11]; exact ZC.new rfl
  have Hu11 := Lib.hid hu11
  clear hu11 b9 E
  clear k3a k3b k4a k4b
  go_upto_region 6 with (fail)
  rw [← Hu11.out]
  clear Hu11
  obtain ⟨k4a, k4b, _⟩ := I2.out.next D.out
  obtain ⟨k3a, k3b, _⟩ := I1.out.next D.out
  go_wp2_with fail
  refine (H_n.out _).mono ?_
  rintro e y13 ⟨rfl, b9⟩
  obtain ⟨u13, hu13⟩ : ∃ u : World, u = y13.alloc (.cells #[.bool m1, .string sm] 23) := ⟨_, rfl⟩
  have E : Hid (Below u11.heap.size u11 u13) := by rw [hu13]; exact b9.alloc b9.size _
  have D := Lib.hid (chain D.out E.out)
  have T7 := Lib.hid (T7.out.next E.out)
  have T9 := Lib.hid (T9.out.next E.out)
  have T11 := Lib.hid (T11.out.next E.out)
  have T13 : Hid (ZC (.bool m1) (.string sm) u13 y13.heap.size) := by rw [hu13]; exact ZC.new rfl
  have Hu13 := Lib.hid hu13
  clear hu13 b9 E
  clear k4a k4b k3a k3b
  go_upto_region 7 with (fail)
  rw [← Hu13.out]
  clear Hu13
  obtain ⟨k7a, k7b, _⟩ := T7.out
  obtain ⟨k9a, k9b, _⟩ := T9.out
  obtain ⟨k11a, k11b, _⟩ := T11.out
  obtain ⟨k13a, k13b, _⟩ := T13.out
  obtain ⟨k5a, k5b, _⟩ := I3.out.next D.out
  go_wp2_with fail
  refine (H_x.out _).mono ?_
  rintro e y15 ⟨rfl, b9⟩
  obtain ⟨u15, hu15⟩ : ∃ u : World, u = y15.alloc (.cells #[.bool x1, .string sx] 23) := ⟨_, rfl⟩
  have E : Hid (Below u13.heap.size u13 u15) := by rw [hu15]; exact b9.alloc b9.size _
  have D := Lib.hid (chain D.out E.out)
  have T7 := Lib.hid (T7.out.next E.out)
  have T9 := Lib.hid (T9.out.next E.out)
  have T11 := Lib.hid (T11.out.next E.out)
  have T13 := Lib.hid (T13.out.next E.out)
  have T15 : Hid (ZC (.bool x1) (.string sx) u15 y15.heap.size) := by rw [hu15]; exact ZC.new rfl
  have Hu15 := Lib.hid hu15
  clear hu15 b9 E
  clear k7a k7b k9a k9b k11a k11b k13a k13b k5a k5b
  go_upto_region 10 with (fail)
  rw [← Hu15.out]
  clear Hu15
  obtain ⟨k3a, k3b, _⟩ := I1.out.next D.out
  obtain ⟨k5a, k5b, _⟩ := I3.out.next D.out
  go_wp2_with fail
  refine (H_y.out _).mono ?_
  rintro e y16 ⟨rfl, b9⟩
  obtain ⟨u16, hu16⟩ : ∃ u : World, u = y16.alloc (.cells #[.bool y1, .string sy] 23) := ⟨_, rfl⟩
  have E : Hid (Below u15.heap.size u15 u16) := by rw [hu16]; exact b9.alloc b9.size _
  have D := Lib.hid (chain D.out E.out)
  have T7 := Lib.hid (T7.out.next E.out)
  have T9 := Lib.hid (T9.out.next E.out)
  have T11 := Lib.hid (T11.out.next E.out)
  have T13 := Lib.hid (T13.out.next E.out)
  have T15 := Lib.hid (T15.out.next E.out)
  have T16 : Hid (ZC (.bool y1) (.string sy) u16 y16.heap.size) := by rw [hu16]; exact ZC.new rfl
  have Hu16 := Lib.hid hu16
  clear hu16 b9 E
  clear k3a k3b k5a k5b
  go_upto_region 11 with (fail)
  rw [← Hu16.out]
  clear Hu16
  obtain ⟨k4a, k4b, _⟩ := I2.out.next D.out
  obtain ⟨k5a, k5b, _⟩ := I3.out.next D.out
  go_wp2_with fail
  refine (H_z.out _).mono ?_
  rintro e y17 ⟨rfl, b9⟩
  obtain ⟨u17, hu17⟩ : ∃ u : World, u = y17.alloc (.cells #[.bool z1, .string sz] 23) := ⟨_, rfl⟩
  have E : Hid (Below u16.heap.size u16 u17) := by rw [hu17]; exact b9.alloc b9.size _
  have D := Lib.hid (chain D.out E.out)
  have T7 := Lib.hid (T7.out.next E.out)
  have T9 := Lib.hid (T9.out.next E.out)
  have T11 := Lib.hid (T11.out.next E.out)
  have T13 := Lib.hid (T13.out.next E.out)
  have T15 := Lib.hid (T15.out.next E.out)
  have T16 := Lib.hid (T16.out.next E.out)
  have T17 : Hid (ZC (.bool z1) (.string sz) u17 y17.heap.size) := by rw [hu17]; exact ZC.new rfl
  have Hu17 := Lib.hid hu17
  clear hu17 b9 E
  clear k4a k4b k5a k5b
  go_upto_region 12 with (fail)
  rw [← Hu17.out]
  clear Hu17
  obtain ⟨k16a, k16b, _⟩ := T16.out
  obtain ⟨k17a, k17b, _⟩ := T17.out
  go_wp2_with fail
  refine (H_s.out _).mono ?_
  rintro e y18 ⟨rfl, b9⟩
  obtain ⟨u18, hu18⟩ : ∃ u : World, u = y18.alloc (.cells #[.bool x1, .string sx] 23) := ⟨_, rfl⟩
  have E : Hid (Below u17.heap.size u17 u18) := by rw [hu18]; exact b9.alloc b9.size _
  have D := Lib.hid (chain D.out E.out)
  have T7 := Lib.hid (T7.out.next E.out)
  have T9 := Lib.hid (T9.out.next E.out)
  have T11 := Lib.hid (T11.out.next E.out)
  have T13 := Lib.hid (T13.out.next E.out)
  have T15 := Lib.hid (T15.out.next E.out)
  have T16 := Lib.hid (T16.out.next E.out)
  have T17 := Lib.hid (T17.out.next E.out)
  have T18 : Hid (ZC (.bool x1) (.string sx) u18 y18.heap.size) := by rw [hu18]; exact ZC.new rfl
  have Hu18 := Lib.hid hu18
  clear hu18 b9 E
  clear k16a k16b k17a k17b
  go_upto_region 13 with (fail)
  rw [← Hu18.out]
  clear Hu18
  obtain ⟨k15a, k15b, _⟩ := T15.out
  obtain ⟨k18a, k18b, _⟩ := T18.out
  obtain ⟨k7a, k7b, _⟩ := T7.out
  obtain ⟨k4a, k4b, _⟩ := I2.out.next D.out
  go_wp2_with fail
  refine (H_bk.out _).mono ?_
  rintro e y19 ⟨rfl, b9⟩
  obtain ⟨u19, hu19⟩ : ∃ u : World, u = y19.alloc (.cells #[.bool a, .string s] 23) := ⟨_, rfl⟩
  have E : Hid (Below u18.heap.size u18 u19) := by rw [hu19]; exact b9.alloc b9.size _
  have D := Lib.hid (chain D.out E.out)
  have T7 := Lib.hid (T7.out.next E.out)
  have T9 := Lib.hid (T9.out.next E.out)
  have T11 := Lib.hid (T11.out.next E.out)
  have T13 := Lib.hid (T13.out.next E.out)
  have T15 := Lib.hid (T15.out.next E.out)
  have T16 := Lib.hid (T16.out.next E.out)
  have T17 := Lib.hid (T17.out.next E.out)
  have T18 := Lib.hid (T18.out.next E.out)
  have T19 : Hid (ZC (.bool a) (.string s) u19 y19.heap.size) := by rw [hu19]; exact ZC.new rfl
  have Hu19 := Lib.hid hu19
  clear hu19 b9 E
  clear k15a k15b k18a k18b k7a k7b k4a k4b
  go_upto_region 16 with (fail)
  rw [← Hu19.out]
  clear Hu19
  obtain ⟨k19a, k19b, _⟩ := T19.out
  obtain ⟨k3a, k3b, _⟩ := I1.out.next D.out
  obtain ⟨k4a, k4b, _⟩ := I2.out.next D.out
  go_wp2_with fail
  refine (H_sg.out _).mono ?_
  rintro e y4 ⟨rfl, b9⟩
  have E := Lib.hid b9
  have D := Lib.hid (chain D.out E.out)
  have T7 := Lib.hid (T7.out.next E.out)
  have T9 := Lib.hid (T9.out.next E.out)
  have T11 := Lib.hid (T11.out.next E.out)
  have T13 := Lib.hid (T13.out.next E.out)
  have T15 := Lib.hid (T15.out.next E.out)
  have T16 := Lib.hid (T16.out.next E.out)
  have T17 := Lib.hid (T17.out.next E.out)
  have T18 := Lib.hid (T18.out.next E.out)
  have T19 := Lib.hid (T19.out.next E.out)
  clear b9 E
  clear k19a k19b k3a k3b k4a k4b
  obtain ⟨k3a, k3b, _⟩ := I1.out.next D.out
  go_wp2_with fail
  refine (H_t.out _).mono ?_
  rintro e y23 ⟨rfl, b9⟩
  have E := Lib.hid b9
  have D := Lib.hid (chain D.out E.out)
  have T7 := Lib.hid (T7.out.next E.out)
  have T9 := Lib.hid (T9.out.next E.out)
  have T11 := Lib.hid (T11.out.next E.out)
  have T13 := Lib.hid (T13.out.next E.out)
  have T15 := Lib.hid (T15.out.next E.out)
  have T16 := Lib.hid (T16.out.next E.out)
  have T17 := Lib.hid (T17.out.next E.out)
  have T18 := Lib.hid (T18.out.next E.out)
  have T19 := Lib.hid (T19.out.next E.out)
  clear b9 E
  clear k3a k3b
  go_wp2_with fail
  refine (H_p.out _).mono ?_
  rintro e y24 ⟨rfl, b9⟩
  obtain ⟨u24, hu24⟩ : ∃ u : World, u = y24.alloc (.cells #[.bool a, .string s] 23) := ⟨_, rfl⟩
  have E : Hid (Below y23.heap.size y23 u24) := by rw [hu24]; exact b9.alloc b9.size _
  have D := Lib.hid (chain D.out E.out)
  have T7 := Lib.hid (T7.out.next E.out)
  have T9 := Lib.hid (T9.out.next E.out)
  have T11 := Lib.hid (T11.out.next E.out)
  have T13 := Lib.hid (T13.out.next E.out)
  have T15 := Lib.hid (T15.out.next E.out)
  have T16 := Lib.hid (T16.out.next E.out)
  have T17 := Lib.hid (T17.out.next E.out)
  have T18 := Lib.hid (T18.out.next E.out)
  have T19 := Lib.hid (T19.out.next E.out)
  have T24 : Hid (ZC (.bool a) (.string s) u24 y24.heap.size) := by rw [hu24]; exact ZC.new rfl
  have Hu24 := Lib.hid hu24
  clear hu24 b9 E
  go_upto_region 24 with (fail)
  rw [← Hu24.out]
  clear Hu24
  obtain ⟨k3a, k3b, _⟩ := I1.out.next D.out
  obtain ⟨k5a, k5b, _⟩ := I3.out.next D.out
  go_wp2_with fail
  refine (H_ac.out _).mono ?_
  rintro e y25 ⟨rfl, b9⟩
  obtain ⟨u25, hu25⟩ : ∃ u : World, u = y25.alloc (.cells #[.bool a2, .string s2] 23) := ⟨_, rfl⟩
  have E : Hid (Below u24.heap.size u24 u25) := by rw [hu25]; exact b9.alloc b9.size _
  have D := Lib.hid (chain D.out E.out)
  have T7 := Lib.hid (T7.out.next E.out)
  have T9 := Lib.hid (T9.out.next E.out)
  have T11 := Lib.hid (T11.out.next E.out)
  have T13 := Lib.hid (T13.out.next E.out)
  have T15 := Lib.hid (T15.out.next E.out)
  have T16 := Lib.hid (T16.out.next E.out)
  have T17 := Lib.hid (T17.out.next E.out)
  have T18 := Lib.hid (T18.out.next E.out)
  have T19 := Lib.hid (T19.out.next E.out)
  have T24 := Lib.hid (T24.out.next E.out)
  have T25 : Hid (ZC (.bool a2) (.string s2) u25 y25.heap.size) := by rw [hu25]; exact ZC.new rfl
  have Hu25 := Lib.hid hu25
  clear hu25 b9 E
  clear k3a k3b k5a k5b
  go_upto_region 25 with (fail)
  rw [← Hu25.out]
  clear Hu25
  obtain ⟨k4a, k4b, _⟩ := I2.out.next D.out
  obtain ⟨k5a, k5b, _⟩ := I3.out.next D.out
  go_wp2_with fail
  refine (H_bc.out _).mono ?_
  rintro e y26 ⟨rfl, b9⟩
  obtain ⟨u26, hu26⟩ : ∃ u : World, u = y26.alloc (.cells #[.bool a3, .string s3] 23) := ⟨_, rfl⟩
  have E : Hid (Below u25.heap.size u25 u26) := by rw [hu26]; exact b9.alloc b9.size _
  have D := Lib.hid (chain D.out E.out)
  have T7 := Lib.hid (T7.out.next E.out)
  have T9 := Lib.hid (T9.out.next E.out)
  have T11 := Lib.hid (T11.out.next E.out)
  have T13 := Lib.hid (T13.out.next E.out)
  have T15 := Lib.hid (T15.out.next E.out)
  have T16 := Lib.hid (T16.out.next E.out)
  have T17 := Lib.hid (T17.out.next E.out)
  have T18 := Lib.hid (T18.out.next E.out)
  have T19 := Lib.hid (T19.out.next E.out)
  have T24 := Lib.hid (T24.out.next E.out)
  have T25 := Lib.hid (T25.out.next E.out)
  have T26 : Hid (ZC (.bool a3) (.string s3) u26 y26.heap.size) := by rw [hu26]; exact ZC.new rfl
  have Hu26 := Lib.hid hu26
  clear hu26 b9 E
  clear k4a k4b k5a k5b
  go_upto_region 26 with (fail)
  rw [← Hu26.out]
  clear Hu26
  obtain ⟨k24a, k24b, _⟩ := T24.out
  obtain ⟨k3a, k3b, _⟩ := I1.out.next D.out
  obtain ⟨k25a, k25b, _⟩ := T25.out
  obtain ⟨k26a, k26b, _⟩ := T26.out
  obtain ⟨k4a, k4b, _⟩ := I2.out.next D.out
  go_region_held3 (fun W' => W'.cell? ⟨y24.heap.size, 0, none⟩ = some (.bool a) ∧ W'.cell? ⟨y24.heap.size, 1, none⟩ = some (.string s) ∧ W'.cell? ⟨w.heap.size, 0, none⟩ = some (.bool a) ∧ W'.cell? ⟨w.heap.size, 1, none⟩ = some (.string s) ∧ W'.cell? ⟨y25.heap.size, 0, none⟩ = some (.bool a2) ∧ W'.cell? ⟨y25.heap.size, 1, none⟩ = some (.string s2) ∧ W'.cell? ⟨y26.heap.size, 0, none⟩ = some (.bool a3) ∧ W'.cell? ⟨y26.heap.size, 1, none⟩ = some (.string s3) ∧ W'.cell? ⟨w.heap.size + 1, 0, none⟩ = some (.bool b) ∧ W'.cell? ⟨w.heap.size + 1, 1, none⟩ = some (.string t)) (go_keep)
    (first
      | (go_at_call 15; (with_reducible refine (H_c1.out _).mono ?_); rintro e y ⟨rfl, b9⟩; have E := Lib.hid (show Below u26.heap.size u26 y by first | exact chain E.out b9 | exact chain ((Below.refl _ _).drew) b9); have p24a := keep1 E.out k24a; have p24b := keep1 E.out k24b; have p3a := keep1 E.out k3a; have p3b := keep1 E.out k3b; have p25a := keep1 E.out k25a; have p25b := keep1 E.out k25b; have p26a := keep1 E.out k26a; have p26b := keep1 E.out k26b; have p4a := keep1 E.out k4a; have p4b := keep1 E.out k4b; clear b9)
      | (go_at_call 15; (with_reducible refine (H_c2.out _).mono ?_); rintro e y ⟨rfl, b9⟩; have E := Lib.hid (show Below u26.heap.size u26 y by first | exact chain E.out b9 | exact chain ((Below.refl _ _).drew) b9); have p24a := keep1 E.out k24a; have p24b := keep1 E.out k24b; have p3a := keep1 E.out k3a; have p3b := keep1 E.out k3b; have p25a := keep1 E.out k25a; have p25b := keep1 E.out k25b; have p26a := keep1 E.out k26a; have p26b := keep1 E.out k26b; have p4a := keep1 E.out k4a; have p4b := keep1 E.out k4b; clear b9)
      | (go_at_call 12; (with_reducible refine (H_known.out _).mono ?_); rintro e y ⟨rfl, b9⟩; have E := Lib.hid (show Below u26.heap.size u26 y by first | exact chain E.out b9 | exact chain ((Below.refl _ _).drew) b9); have p24a := keep1 E.out k24a; have p24b := keep1 E.out k24b; have p3a := keep1 E.out k3a; have p3b := keep1 E.out k3b; have p25a := keep1 E.out k25a; have p25b := keep1 E.out k25b; have p26a := keep1 E.out k26a; have p26b := keep1 E.out k26b; have p4a := keep1 E.out k4a; have p4b := keep1 E.out k4b; clear b9)
      | fail)
  have D := Lib.hid (chain D.out E.out)
  have HZ := Lib.hid (chain hb0.out D.out)
  go_wp2
  go_ret
  exact ⟨rfl, HZ.out⟩

set_option maxRecDepth 100000 in
set_option maxHeartbeats 8000000 in
theorem holds_walk_some (a b c : Bool) (s t r : ByteArray) (w : World) (l1 : s.size ≤ 60) (l2 : t.size ≤ 60) (l3 : r.size ≤ 60) (hsh : shortL [(a, s), (b, t), (c, r)] = true) (hvl : validL [(a, s), (b, t), (c, r)] = true)
    (a1 m1 x1 y1 z1 a2 a3 : Bool) (s1 sm sx sy sz s2 s3 tt : ByteArray) (g g2 : Int) (hg : ¬ g = 0)
    (h_ab : ∀ w, Calls Try.prog 27 #[.agg #[.bool a, .string s], .agg #[.bool b, .string t]] w fun e w' => e = .returned (.tuple #[.agg #[.bool a1, .string s1], .int .i64 0]) ∧ Below w.heap.size w w')
    (h_ba : ∀ w, Calls Try.prog 27 #[.agg #[.bool b, .string t], .agg #[.bool a, .string s]] w fun e w' => e = .returned (.tuple #[.agg #[.bool a1, .string s1], .int .i64 0]) ∧ Below w.heap.size w w')
    (h_m : ∀ w, Calls Try.prog 34 #[.agg #[.bool a, .string s], .agg #[.bool b, .string t]] w fun e w' => e = .returned (.tuple #[.agg #[.bool m1, .string sm], .int .i64 0]) ∧ Below w.heap.size w w')
    (h_n : ∀ w, Calls Try.prog 34 #[.agg #[.bool b, .string t], .agg #[.bool a, .string s]] w fun e w' => e = .returned (.tuple #[.agg #[.bool m1, .string sm], .int .i64 0]) ∧ Below w.heap.size w w')
    (h_x : ∀ w, Calls Try.prog 34 #[.agg #[.bool a1, .string s1], .agg #[.bool c, .string r]] w fun e w' => e = .returned (.tuple #[.agg #[.bool x1, .string sx], .int .i64 0]) ∧ Below w.heap.size w w')
    (h_y : ∀ w, Calls Try.prog 34 #[.agg #[.bool a, .string s], .agg #[.bool c, .string r]] w fun e w' => e = .returned (.tuple #[.agg #[.bool y1, .string sy], .int .i64 0]) ∧ Below w.heap.size w w')
    (h_z : ∀ w, Calls Try.prog 34 #[.agg #[.bool b, .string t], .agg #[.bool c, .string r]] w fun e w' => e = .returned (.tuple #[.agg #[.bool z1, .string sz], .int .i64 0]) ∧ Below w.heap.size w w')
    (h_s : ∀ w, Calls Try.prog 27 #[.agg #[.bool y1, .string sy], .agg #[.bool z1, .string sz]] w fun e w' => e = .returned (.tuple #[.agg #[.bool x1, .string sx], .int .i64 0]) ∧ Below w.heap.size w w')
    (h_bk : ∀ w, Calls Try.prog 28 #[.agg #[.bool a1, .string s1], .agg #[.bool b, .string t]] w fun e w' => e = .returned (.tuple #[.agg #[.bool a, .string s], .int .i64 0]) ∧ Below w.heap.size w w')
    (h_sg : ∀ w, Calls Try.prog 16 #[.agg #[.bool b, .string t]] w fun e w' => e = .returned (.int .i64 g) ∧ Below w.heap.size w w')
    (h_q : ∀ w, Calls Try.prog 35 #[.agg #[.bool m1, .string sm], .agg #[.bool b, .string t]] w fun e w' => e = .returned (.tuple #[.agg #[.bool a, .string s], .agg #[.bool false, .string ⟨#[]⟩], .int .i64 0]) ∧ Below w.heap.size w w')
    (h_sr : ∀ w, Calls Try.prog 16 #[.agg #[.bool false, .string ⟨#[]⟩]] w fun e w' => e = .returned (.int .i64 0) ∧ Below w.heap.size w w')
    (h_t : ∀ w, Calls Try.prog 42 #[.agg #[.bool a, .string s]] w fun e w' => e = .returned (.tuple #[.string tt, .int .i64 0]) ∧ Below w.heap.size w w')
    (h_p : ∀ w, Calls Try.prog 44 #[.string tt] w fun e w' => e = .returned (.tuple #[.agg #[.bool a, .string s], .int .i64 0]) ∧ Below w.heap.size w w')
    (h_ac : ∀ w, Calls Try.prog 27 #[.agg #[.bool a, .string s], .agg #[.bool c, .string r]] w fun e w' => e = .returned (.tuple #[.agg #[.bool a2, .string s2], .int .i64 0]) ∧ Below w.heap.size w w')
    (h_bc : ∀ w, Calls Try.prog 27 #[.agg #[.bool b, .string t], .agg #[.bool c, .string r]] w fun e w' => e = .returned (.tuple #[.agg #[.bool a3, .string s3], .int .i64 0]) ∧ Below w.heap.size w w')
    (h_c1 : ∀ w, Calls Try.prog 15 #[.agg #[.bool a2, .string s2], .agg #[.bool a3, .string s3]] w fun e w' => e = .returned (.int .i64 g2) ∧ Below w.heap.size w w')
    (h_c2 : ∀ w, Calls Try.prog 15 #[.agg #[.bool a, .string s], .agg #[.bool b, .string t]] w fun e w' => e = .returned (.int .i64 g2) ∧ Below w.heap.size w w') :
    Calls Try.prog 10 #[.agg #[.bool a, .string s], .agg #[.bool b, .string t], .agg #[.bool c, .string r]] w (Ret (.bool true) w) := by
  have H_ab := Lib.hid h_ab
  have H_ba := Lib.hid h_ba
  have H_m := Lib.hid h_m
  have H_n := Lib.hid h_n
  have H_x := Lib.hid h_x
  have H_y := Lib.hid h_y
  have H_z := Lib.hid h_z
  have H_s := Lib.hid h_s
  have H_bk := Lib.hid h_bk
  have H_sg := Lib.hid h_sg
  have H_q := Lib.hid h_q
  have H_sr := Lib.hid h_sr
  have H_t := Lib.hid h_t
  have H_p := Lib.hid h_p
  have H_ac := Lib.hid h_ac
  have H_bc := Lib.hid h_bc
  have H_c1 := Lib.hid h_c1
  have H_c2 := Lib.hid h_c2
  clear h_ab h_ba h_m h_n h_x h_y h_z h_s h_bk h_sg h_q h_sr h_t h_p h_ac h_bc h_c1 h_c2
  have H_known := Lib.hid known_true
  obtain ⟨w0, hw0⟩ : ∃ w0 : World, w0 = (((w.alloc (.cells #[.bool a, .string s] 23)).alloc (.cells #[.bool b, .string t] 23)).alloc (.cells #[.bool c, .string r] 23)).alloc (.cells #[.bool a, .string s, .bool b, .string t, .bool c, .string r] 23) := ⟨_, rfl⟩
  have hb0 : Hid (Below w.heap.size w w0) := by rw [hw0]; exact ((((Below.refl _ _).alloc (Nat.le_refl _) _).alloc (by simp) _).alloc (by simp; omega) _).alloc (by simp; omega) _
  have I1 : Hid (ZC (.bool a) (.string s) w0 w.heap.size) := by rw [hw0]; exact (((ZC.new rfl).alloc _).alloc _).alloc _
  have I2 : Hid (ZC (.bool b) (.string t) w0 (w.heap.size + 1)) := by rw [hw0]; exact ((ZC.new (by simp)).alloc _).alloc _
  have I3 : Hid (ZC (.bool c) (.string r) w0 (w.heap.size + 1 + 1)) := by rw [hw0]; exact (ZC.new (by simp)).alloc _
  have HSH := short_any [(a, s), (b, t), (c, r)] 3 (w.heap.size + 1 + 1 + 1) w0 rfl (by decide) (by rw [hw0]; have := WL.three (((w.alloc (.cells #[.bool a, .string s] 23)).alloc (.cells #[.bool b, .string t] 23)).alloc (.cells #[.bool c, .string r] 23)) a b c s t r 23; simpa using this)
  rw [hsh] at HSH
  have H_val := Lib.hid (fun g w h => valid_any [(a, s), (b, t), (c, r)] 3 g w rfl (by decide) h (by intro x hx; simp at hx; rcases hx with rfl | rfl | rfl <;> (show _ ≤ _; simp; omega)))
  rw [hvl] at H_val
  unfold BPost at H_val
  clear hvl
  have HSh := Lib.hid HSH
  have Hw0 := Lib.hid hw0
  clear HSH hw0 hsh
  unfold Ret at *
  unfold BPost at HSh
  go_enter Try.func10, Try.ntmps10
  go_wp2_with fail
  rw [← Hw0.out]
  refine HSh.out.mono ?_
  rintro e x0 ⟨rfl, b0⟩
  have D := Lib.hid b0
  clear b0
  obtain ⟨k0, k1, _⟩ := I1.out.next D.out
  obtain ⟨k2, k3, _⟩ := I2.out.next D.out
  obtain ⟨k4, k5, _⟩ := I3.out.next D.out
  go_wp2_with fail
  refine (H_val.out _ _ (WL.three _ _ _ _ _ _ _ _)).mono ?_
  rintro e yv ⟨rfl, b9⟩
  have E := Lib.hid (chain (below_one _ _) b9)
  have D := Lib.hid (chain D.out E.out)
  clear b9 E k0 k1 k2 k3 k4 k5
  obtain ⟨k3a, k3b, _⟩ := I1.out.next D.out
  obtain ⟨k4a, k4b, _⟩ := I2.out.next D.out
  go_wp2_with fail
  refine (H_ab.out _).mono ?_
  rintro e y7 ⟨rfl, b9⟩
  obtain ⟨u7, hu7⟩ : ∃ u : World, u = y7.alloc (.cells #[.bool a1, .string s1] 23) := ⟨_, rfl⟩
  have E : Hid (Below yv.heap.size yv u7) := by rw [hu7]; exact b9.alloc b9.size _
  have D := Lib.hid (chain D.out E.out)
  have T7 : Hid (ZC (.bool a1) (.string s1) u7 y7.heap.size) := by rw [hu7]; exact ZC.new rfl
  have Hu7 := Lib.hid hu7
  clear hu7 b9 E
  clear k3a k3b k4a k4b
  go_upto_region 4 with (fail)
  rw [← Hu7.out]
  clear Hu7
  obtain ⟨k4a, k4b, _⟩ := I2.out.next D.out
  obtain ⟨k3a, k3b, _⟩ := I1.out.next D.out
  go_wp2_with fail
  refine (H_ba.out _).mono ?_
  rintro e y9 ⟨rfl, b9⟩
  obtain ⟨u9, hu9⟩ : ∃ u : World, u = y9.alloc (.cells #[.bool a1, .string s1] 23) := ⟨_, rfl⟩
  have E : Hid (Below u7.heap.size u7 u9) := by rw [hu9]; exact b9.alloc b9.size _
  have D := Lib.hid (chain D.out E.out)
  have T7 := Lib.hid (T7.out.next E.out)
  have T9 : Hid (ZC (.bool a1) (.string s1) u9 y9.heap.size) := by rw [hu9]; exact ZC.new rfl
  have Hu9 := Lib.hid hu9
  clear hu9 b9 E
  clear k4a k4b k3a k3b
  go_upto_region 5 with (fail)
  rw [← Hu9.out]
  clear Hu9
  obtain ⟨k3a, k3b, _⟩ := I1.out.next D.out
  obtain ⟨k4a, k4b, _⟩ := I2.out.next D.out
  go_wp2_with fail
  refine (H_m.out _).mono ?_
  rintro e y11 ⟨rfl, b9⟩
  obtain ⟨u11, hu11⟩ : ∃ u : World, u = y11.alloc (.cells #[.bool m1, .string sm] 23) := ⟨_, rfl⟩
  have E : Hid (Below u9.heap.size u9 u11) := by rw [hu11]; exact b9.alloc b9.size _
  have D := Lib.hid (chain D.out E.out)
  have T7 := Lib.hid (T7.out.next E.out)
  have T9 := Lib.hid (T9.out.next E.out)
  have T11 : Hid (ZC (.bool m1) (.string sm) u11 y11.heap.size) := by rw [hu11]; exact ZC.new rfl
  have Hu11 := Lib.hid hu11
  clear hu11 b9 E
  clear k3a k3b k4a k4b
  go_upto_region 6 with (fail)
  rw [← Hu11.out]
  clear Hu11
  obtain ⟨k4a, k4b, _⟩ := I2.out.next D.out
  obtain ⟨k3a, k3b, _⟩ := I1.out.next D.out
  go_wp2_with fail
  refine (H_n.out _).mono ?_
  rintro e y13 ⟨rfl, b9⟩
  obtain ⟨u13, hu13⟩ : ∃ u : World, u = y13.alloc (.cells #[.bool m1, .string sm] 23) := ⟨_, rfl⟩
  have E : Hid (Below u11.heap.size u11 u13) := by rw [hu13]; exact b9.alloc b9.size _
  have D := Lib.hid (chain D.out E.out)
  have T7 := Lib.hid (T7.out.next E.out)
  have T9 := Lib.hid (T9.out.next E.out)
  have T11 := Lib.hid (T11.out.next E.out)
  have T13 : Hid (ZC (.bool m1) (.string sm) u13 y13.heap.size) := by rw [hu13]; exact ZC.new rfl
  have Hu13 := Lib.hid hu13
  clear hu13 b9 E
  clear k4a k4b k3a k3b
  go_upto_region 7 with (fail)
  rw [← Hu13.out]
  clear Hu13
  obtain ⟨k7a, k7b, _⟩ := T7.out
  obtain ⟨k9a, k9b, _⟩ := T9.out
  obtain ⟨k11a, k11b, _⟩ := T11.out
  obtain ⟨k13a, k13b, _⟩ := T13.out
  obtain ⟨k5a, k5b, _⟩ := I3.out.next D.out
  go_wp2_with fail
  refine (H_x.out _).mono ?_
  rintro e y15 ⟨rfl, b9⟩
  obtain ⟨u15, hu15⟩ : ∃ u : World, u = y15.alloc (.cells #[.bool x1, .string sx] 23) := ⟨_, rfl⟩
  have E : Hid (Below u13.heap.size u13 u15) := by rw [hu15]; exact b9.alloc b9.size _
  have D := Lib.hid (chain D.out E.out)
  have T7 := Lib.hid (T7.out.next E.out)
  have T9 := Lib.hid (T9.out.next E.out)
  have T11 := Lib.hid (T11.out.next E.out)
  have T13 := Lib.hid (T13.out.next E.out)
  have T15 : Hid (ZC (.bool x1) (.string sx) u15 y15.heap.size) := by rw [hu15]; exact ZC.new rfl
  have Hu15 := Lib.hid hu15
  clear hu15 b9 E
  clear k7a k7b k9a k9b k11a k11b k13a k13b k5a k5b
  go_upto_region 10 with (fail)
  rw [← Hu15.out]
  clear Hu15
  obtain ⟨k3a, k3b, _⟩ := I1.out.next D.out
  obtain ⟨k5a, k5b, _⟩ := I3.out.next D.out
  go_wp2_with fail
  refine (H_y.out _).mono ?_
  rintro e y16 ⟨rfl, b9⟩
  obtain ⟨u16, hu16⟩ : ∃ u : World, u = y16.alloc (.cells #[.bool y1, .string sy] 23) := ⟨_, rfl⟩
  have E : Hid (Below u15.heap.size u15 u16) := by rw [hu16]; exact b9.alloc b9.size _
  have D := Lib.hid (chain D.out E.out)
  have T7 := Lib.hid (T7.out.next E.out)
  have T9 := Lib.hid (T9.out.next E.out)
  have T11 := Lib.hid (T11.out.next E.out)
  have T13 := Lib.hid (T13.out.next E.out)
  have T15 := Lib.hid (T15.out.next E.out)
  have T16 : Hid (ZC (.bool y1) (.string sy) u16 y16.heap.size) := by rw [hu16]; exact ZC.new rfl
  have Hu16 := Lib.hid hu16
  clear hu16 b9 E
  clear k3a k3b k5a k5b
  go_upto_region 11 with (fail)
  rw [← Hu16.out]
  clear Hu16
  obtain ⟨k4a, k4b, _⟩ := I2.out.next D.out
  obtain ⟨k5a, k5b, _⟩ := I3.out.next D.out
  go_wp2_with fail
  refine (H_z.out _).mono ?_
  rintro e y17 ⟨rfl, b9⟩
  obtain ⟨u17, hu17⟩ : ∃ u : World, u = y17.alloc (.cells #[.bool z1, .string sz] 23) := ⟨_, rfl⟩
  have E : Hid (Below u16.heap.size u16 u17) := by rw [hu17]; exact b9.alloc b9.size _
  have D := Lib.hid (chain D.out E.out)
  have T7 := Lib.hid (T7.out.next E.out)
  have T9 := Lib.hid (T9.out.next E.out)
  have T11 := Lib.hid (T11.out.next E.out)
  have T13 := Lib.hid (T13.out.next E.out)
  have T15 := Lib.hid (T15.out.next E.out)
  have T16 := Lib.hid (T16.out.next E.out)
  have T17 : Hid (ZC (.bool z1) (.string sz) u17 y17.heap.size) := by rw [hu17]; exact ZC.new rfl
  have Hu17 := Lib.hid hu17
  clear hu17 b9 E
  clear k4a k4b k5a k5b
  go_upto_region 12 with (fail)
  rw [← Hu17.out]
  clear Hu17
  obtain ⟨k16a, k16b, _⟩ := T16.out
  obtain ⟨k17a, k17b, _⟩ := T17.out
  go_wp2_with fail
  refine (H_s.out _).mono ?_
  rintro e y18 ⟨rfl, b9⟩
  obtain ⟨u18, hu18⟩ : ∃ u : World, u = y18.alloc (.cells #[.bool x1, .string sx] 23) := ⟨_, rfl⟩
  have E : Hid (Below u17.heap.size u17 u18) := by rw [hu18]; exact b9.alloc b9.size _
  have D := Lib.hid (chain D.out E.out)
  have T7 := Lib.hid (T7.out.next E.out)
  have T9 := Lib.hid (T9.out.next E.out)
  have T11 := Lib.hid (T11.out.next E.out)
  have T13 := Lib.hid (T13.out.next E.out)
  have T15 := Lib.hid (T15.out.next E.out)
  have T16 := Lib.hid (T16.out.next E.out)
  have T17 := Lib.hid (T17.out.next E.out)
  have T18 : Hid (ZC (.bool x1) (.string sx) u18 y18.heap.size) := by rw [hu18]; exact ZC.new rfl
  have Hu18 := Lib.hid hu18
  clear hu18 b9 E
  clear k16a k16b k17a k17b
  go_upto_region 13 with (fail)
  rw [← Hu18.out]
  clear Hu18
  obtain ⟨k15a, k15b, _⟩ := T15.out
  obtain ⟨k18a, k18b, _⟩ := T18.out
  obtain ⟨k7a, k7b, _⟩ := T7.out
  obtain ⟨k4a, k4b, _⟩ := I2.out.next D.out
  go_wp2_with fail
  refine (H_bk.out _).mono ?_
  rintro e y19 ⟨rfl, b9⟩
  obtain ⟨u19, hu19⟩ : ∃ u : World, u = y19.alloc (.cells #[.bool a, .string s] 23) := ⟨_, rfl⟩
  have E : Hid (Below u18.heap.size u18 u19) := by rw [hu19]; exact b9.alloc b9.size _
  have D := Lib.hid (chain D.out E.out)
  have T7 := Lib.hid (T7.out.next E.out)
  have T9 := Lib.hid (T9.out.next E.out)
  have T11 := Lib.hid (T11.out.next E.out)
  have T13 := Lib.hid (T13.out.next E.out)
  have T15 := Lib.hid (T15.out.next E.out)
  have T16 := Lib.hid (T16.out.next E.out)
  have T17 := Lib.hid (T17.out.next E.out)
  have T18 := Lib.hid (T18.out.next E.out)
  have T19 : Hid (ZC (.bool a) (.string s) u19 y19.heap.size) := by rw [hu19]; exact ZC.new rfl
  have Hu19 := Lib.hid hu19
  clear hu19 b9 E
  clear k15a k15b k18a k18b k7a k7b k4a k4b
  go_upto_region 16 with (fail)
  rw [← Hu19.out]
  clear Hu19
  obtain ⟨k19a, k19b, _⟩ := T19.out
  obtain ⟨k3a, k3b, _⟩ := I1.out.next D.out
  obtain ⟨k4a, k4b, _⟩ := I2.out.next D.out
  go_wp2_with fail
  refine (H_sg.out _).mono ?_
  rintro e y4 ⟨rfl, b9⟩
  have E := Lib.hid b9
  have D := Lib.hid (chain D.out E.out)
  have T7 := Lib.hid (T7.out.next E.out)
  have T9 := Lib.hid (T9.out.next E.out)
  have T11 := Lib.hid (T11.out.next E.out)
  have T13 := Lib.hid (T13.out.next E.out)
  have T15 := Lib.hid (T15.out.next E.out)
  have T16 := Lib.hid (T16.out.next E.out)
  have T17 := Lib.hid (T17.out.next E.out)
  have T18 := Lib.hid (T18.out.next E.out)
  have T19 := Lib.hid (T19.out.next E.out)
  clear b9 E
  clear k19a k19b k3a k3b k4a k4b
  obtain ⟨k11a, k11b, _⟩ := T11.out
  obtain ⟨k4a, k4b, _⟩ := I2.out.next D.out
  go_wp2_with fail
  refine (H_q.out _).mono ?_
  rintro e y20 ⟨rfl, b9⟩
  obtain ⟨u20, hu20⟩ : ∃ u : World, u = (y20.alloc (.cells #[.bool a, .string s] 23)).alloc (.cells #[.bool false, .string ⟨#[]⟩] 23) := ⟨_, rfl⟩
  have E : Hid (Below y4.heap.size y4 u20) := by rw [hu20]; exact (b9.alloc b9.size _).alloc (by simp; exact Nat.le_succ_of_le b9.size) _
  have D := Lib.hid (chain D.out E.out)
  have T7 := Lib.hid (T7.out.next E.out)
  have T9 := Lib.hid (T9.out.next E.out)
  have T11 := Lib.hid (T11.out.next E.out)
  have T13 := Lib.hid (T13.out.next E.out)
  have T15 := Lib.hid (T15.out.next E.out)
  have T16 := Lib.hid (T16.out.next E.out)
  have T17 := Lib.hid (T17.out.next E.out)
  have T18 := Lib.hid (T18.out.next E.out)
  have T19 := Lib.hid (T19.out.next E.out)
  have T20 : Hid (ZC (.bool a) (.string s) u20 y20.heap.size) := by rw [hu20]; exact (ZC.new rfl).alloc _
  have T21 : Hid (ZC (.bool false) (.string ⟨#[]⟩) u20 (y20.heap.size + 1)) := by rw [hu20]; exact ZC.new (by simp)
  have Hu20 := Lib.hid hu20
  clear hu20 b9 E
  clear k11a k11b k4a k4b
  go_upto_region 20 with (fail)
  rw [← Hu20.out]
  clear Hu20
  obtain ⟨k20a, k20b, _⟩ := T20.out
  obtain ⟨k3a, k3b, _⟩ := I1.out.next D.out
  obtain ⟨k21a, k21b, _⟩ := T21.out
  go_wp2_with fail
  refine (H_sr.out _).mono ?_
  rintro e y21b ⟨rfl, b9⟩
  have E := Lib.hid b9
  have D := Lib.hid (chain D.out E.out)
  have T7 := Lib.hid (T7.out.next E.out)
  have T9 := Lib.hid (T9.out.next E.out)
  have T11 := Lib.hid (T11.out.next E.out)
  have T13 := Lib.hid (T13.out.next E.out)
  have T15 := Lib.hid (T15.out.next E.out)
  have T16 := Lib.hid (T16.out.next E.out)
  have T17 := Lib.hid (T17.out.next E.out)
  have T18 := Lib.hid (T18.out.next E.out)
  have T19 := Lib.hid (T19.out.next E.out)
  have T21 := Lib.hid (T21.out.next E.out)
  have T20 := Lib.hid (T20.out.next E.out)
  clear b9 E
  clear k20a k20b k3a k3b k21a k21b
  obtain ⟨k3a, k3b, _⟩ := I1.out.next D.out
  go_wp2_with fail
  refine (H_t.out _).mono ?_
  rintro e y23 ⟨rfl, b9⟩
  have E := Lib.hid b9
  have D := Lib.hid (chain D.out E.out)
  have T7 := Lib.hid (T7.out.next E.out)
  have T9 := Lib.hid (T9.out.next E.out)
  have T11 := Lib.hid (T11.out.next E.out)
  have T13 := Lib.hid (T13.out.next E.out)
  have T15 := Lib.hid (T15.out.next E.out)
  have T16 := Lib.hid (T16.out.next E.out)
  have T17 := Lib.hid (T17.out.next E.out)
  have T18 := Lib.hid (T18.out.next E.out)
  have T19 := Lib.hid (T19.out.next E.out)
  have T21 := Lib.hid (T21.out.next E.out)
  have T20 := Lib.hid (T20.out.next E.out)
  clear b9 E
  clear k3a k3b
  go_wp2_with fail
  refine (H_p.out _).mono ?_
  rintro e y24 ⟨rfl, b9⟩
  obtain ⟨u24, hu24⟩ : ∃ u : World, u = y24.alloc (.cells #[.bool a, .string s] 23) := ⟨_, rfl⟩
  have E : Hid (Below y23.heap.size y23 u24) := by rw [hu24]; exact b9.alloc b9.size _
  have D := Lib.hid (chain D.out E.out)
  have T7 := Lib.hid (T7.out.next E.out)
  have T9 := Lib.hid (T9.out.next E.out)
  have T11 := Lib.hid (T11.out.next E.out)
  have T13 := Lib.hid (T13.out.next E.out)
  have T15 := Lib.hid (T15.out.next E.out)
  have T16 := Lib.hid (T16.out.next E.out)
  have T17 := Lib.hid (T17.out.next E.out)
  have T18 := Lib.hid (T18.out.next E.out)
  have T19 := Lib.hid (T19.out.next E.out)
  have T21 := Lib.hid (T21.out.next E.out)
  have T20 := Lib.hid (T20.out.next E.out)
  have T24 : Hid (ZC (.bool a) (.string s) u24 y24.heap.size) := by rw [hu24]; exact ZC.new rfl
  have Hu24 := Lib.hid hu24
  clear hu24 b9 E
  go_upto_region 24 with (fail)
  rw [← Hu24.out]
  clear Hu24
  obtain ⟨k3a, k3b, _⟩ := I1.out.next D.out
  obtain ⟨k5a, k5b, _⟩ := I3.out.next D.out
  go_wp2_with fail
  refine (H_ac.out _).mono ?_
  rintro e y25 ⟨rfl, b9⟩
  obtain ⟨u25, hu25⟩ : ∃ u : World, u = y25.alloc (.cells #[.bool a2, .string s2] 23) := ⟨_, rfl⟩
  have E : Hid (Below u24.heap.size u24 u25) := by rw [hu25]; exact b9.alloc b9.size _
  have D := Lib.hid (chain D.out E.out)
  have T7 := Lib.hid (T7.out.next E.out)
  have T9 := Lib.hid (T9.out.next E.out)
  have T11 := Lib.hid (T11.out.next E.out)
  have T13 := Lib.hid (T13.out.next E.out)
  have T15 := Lib.hid (T15.out.next E.out)
  have T16 := Lib.hid (T16.out.next E.out)
  have T17 := Lib.hid (T17.out.next E.out)
  have T18 := Lib.hid (T18.out.next E.out)
  have T19 := Lib.hid (T19.out.next E.out)
  have T21 := Lib.hid (T21.out.next E.out)
  have T20 := Lib.hid (T20.out.next E.out)
  have T24 := Lib.hid (T24.out.next E.out)
  have T25 : Hid (ZC (.bool a2) (.string s2) u25 y25.heap.size) := by rw [hu25]; exact ZC.new rfl
  have Hu25 := Lib.hid hu25
  clear hu25 b9 E
  clear k3a k3b k5a k5b
  go_upto_region 25 with (fail)
  rw [← Hu25.out]
  clear Hu25
  obtain ⟨k4a, k4b, _⟩ := I2.out.next D.out
  obtain ⟨k5a, k5b, _⟩ := I3.out.next D.out
  go_wp2_with fail
  refine (H_bc.out _).mono ?_
  rintro e y26 ⟨rfl, b9⟩
  obtain ⟨u26, hu26⟩ : ∃ u : World, u = y26.alloc (.cells #[.bool a3, .string s3] 23) := ⟨_, rfl⟩
  have E : Hid (Below u25.heap.size u25 u26) := by rw [hu26]; exact b9.alloc b9.size _
  have D := Lib.hid (chain D.out E.out)
  have T7 := Lib.hid (T7.out.next E.out)
  have T9 := Lib.hid (T9.out.next E.out)
  have T11 := Lib.hid (T11.out.next E.out)
  have T13 := Lib.hid (T13.out.next E.out)
  have T15 := Lib.hid (T15.out.next E.out)
  have T16 := Lib.hid (T16.out.next E.out)
  have T17 := Lib.hid (T17.out.next E.out)
  have T18 := Lib.hid (T18.out.next E.out)
  have T19 := Lib.hid (T19.out.next E.out)
  have T21 := Lib.hid (T21.out.next E.out)
  have T20 := Lib.hid (T20.out.next E.out)
  have T24 := Lib.hid (T24.out.next E.out)
  have T25 := Lib.hid (T25.out.next E.out)
  have T26 : Hid (ZC (.bool a3) (.string s3) u26 y26.heap.size) := by rw [hu26]; exact ZC.new rfl
  have Hu26 := Lib.hid hu26
  clear hu26 b9 E
  clear k4a k4b k5a k5b
  go_upto_region 26 with (fail)
  rw [← Hu26.out]
  clear Hu26
  obtain ⟨k24a, k24b, _⟩ := T24.out
  obtain ⟨k3a, k3b, _⟩ := I1.out.next D.out
  obtain ⟨k25a, k25b, _⟩ := T25.out
  obtain ⟨k26a, k26b, _⟩ := T26.out
  obtain ⟨k4a, k4b, _⟩ := I2.out.next D.out
  go_region_held3 (fun W' => W'.cell? ⟨y24.heap.size, 0, none⟩ = some (.bool a) ∧ W'.cell? ⟨y24.heap.size, 1, none⟩ = some (.string s) ∧ W'.cell? ⟨w.heap.size, 0, none⟩ = some (.bool a) ∧ W'.cell? ⟨w.heap.size, 1, none⟩ = some (.string s) ∧ W'.cell? ⟨y25.heap.size, 0, none⟩ = some (.bool a2) ∧ W'.cell? ⟨y25.heap.size, 1, none⟩ = some (.string s2) ∧ W'.cell? ⟨y26.heap.size, 0, none⟩ = some (.bool a3) ∧ W'.cell? ⟨y26.heap.size, 1, none⟩ = some (.string s3) ∧ W'.cell? ⟨w.heap.size + 1, 0, none⟩ = some (.bool b) ∧ W'.cell? ⟨w.heap.size + 1, 1, none⟩ = some (.string t)) (go_keep)
    (first
      | (go_at_call 15; (with_reducible refine (H_c1.out _).mono ?_); rintro e y ⟨rfl, b9⟩; have E := Lib.hid (show Below u26.heap.size u26 y by first | exact chain E.out b9 | exact chain ((Below.refl _ _).drew) b9); have p24a := keep1 E.out k24a; have p24b := keep1 E.out k24b; have p3a := keep1 E.out k3a; have p3b := keep1 E.out k3b; have p25a := keep1 E.out k25a; have p25b := keep1 E.out k25b; have p26a := keep1 E.out k26a; have p26b := keep1 E.out k26b; have p4a := keep1 E.out k4a; have p4b := keep1 E.out k4b; clear b9)
      | (go_at_call 15; (with_reducible refine (H_c2.out _).mono ?_); rintro e y ⟨rfl, b9⟩; have E := Lib.hid (show Below u26.heap.size u26 y by first | exact chain E.out b9 | exact chain ((Below.refl _ _).drew) b9); have p24a := keep1 E.out k24a; have p24b := keep1 E.out k24b; have p3a := keep1 E.out k3a; have p3b := keep1 E.out k3b; have p25a := keep1 E.out k25a; have p25b := keep1 E.out k25b; have p26a := keep1 E.out k26a; have p26b := keep1 E.out k26b; have p4a := keep1 E.out k4a; have p4b := keep1 E.out k4b; clear b9)
      | (go_at_call 12; (with_reducible refine (H_known.out _).mono ?_); rintro e y ⟨rfl, b9⟩; have E := Lib.hid (show Below u26.heap.size u26 y by first | exact chain E.out b9 | exact chain ((Below.refl _ _).drew) b9); have p24a := keep1 E.out k24a; have p24b := keep1 E.out k24b; have p3a := keep1 E.out k3a; have p3b := keep1 E.out k3b; have p25a := keep1 E.out k25a; have p25b := keep1 E.out k25b; have p26a := keep1 E.out k26a; have p26b := keep1 E.out k26b; have p4a := keep1 E.out k4a; have p4b := keep1 E.out k4b; clear b9)
      | fail)
  have D := Lib.hid (chain D.out E.out)
  have HZ := Lib.hid (chain hb0.out D.out)
  go_wp2
  go_ret
  exact ⟨rfl, HZ.out⟩
end Go.Proofs.Ytlmklhffafcmmaa

/- The law WideHolds gives true. -/
namespace Go.Proofs.Ytlmklhffafcmmaa
open Go.RowKit

theorem abs_mul_lt {x y : Int} {P Q : Nat} (h1 : x.natAbs < P) (h2 : y.natAbs < Q) : (x * y).natAbs < P * Q := by
  rw [Int.natAbs_mul]
  exact Nat.mul_lt_mul'' h1 h2
/-- Sizes. -/
theorem holds_sizes {x y z : Int} {P : Nat} (hx : x.natAbs < P) (hy : y.natAbs < P) (hz : z.natAbs < P) (hP : 2 * P * P ≤ Top) :
    x.natAbs < Top ∧ y.natAbs < Top ∧ z.natAbs < Top ∧ (x + y).natAbs < Top ∧ (x * y).natAbs < Top ∧ ((x + y) * z).natAbs < Top ∧ (x * z).natAbs < Top ∧ (y * z).natAbs < Top ∧ (x + z).natAbs < Top ∧ (y + z).natAbs < Top := by
  have hPP : P * P ≤ Top := by rw [Nat.mul_assoc] at hP; omega
  have h2P : 2 * P ≤ Top := by
    have h1 : 2 * P * 1 ≤ 2 * P * P := Nat.mul_le_mul_left _ (by omega)
    omega
  have s1 : (x + y).natAbs < 2 * P := by omega
  have s2 : (x + z).natAbs < 2 * P := by omega
  have s3 : (y + z).natAbs < 2 * P := by omega
  exact ⟨by omega, by omega, by omega, by omega, Nat.lt_of_lt_of_le (abs_mul_lt hx hy) hPP, Nat.lt_of_lt_of_le (abs_mul_lt s1 hz) hP, Nat.lt_of_lt_of_le (abs_mul_lt hx hz) hPP, Nat.lt_of_lt_of_le (abs_mul_lt hy hz) hPP, by omega, by omega⟩
theorem two_pp {k : Nat} (hk : k = 60) : 2 * 256 ^ k * 256 ^ k ≤ Top := by
  have h1 : 2 * 256 ^ k * 256 ^ k ≤ 256 ^ (k + k + 1) := by
    rw [Nat.pow_succ, Nat.pow_add, Nat.mul_assoc, Nat.mul_comm 2]
    exact Nat.mul_le_mul_left _ (by decide)
  refine Nat.le_trans h1 ?_
  rw [pow_256]
  exact Nat.pow_le_pow_right (by decide) (by rw [TopBits_eq]; omega)
theorem pow_ten {n k : Nat} (h : n < 256 ^ k) : n < 10 ^ (3 * k) := by
  rw [Nat.pow_mul]
  exact Nat.lt_of_lt_of_le h (Nat.pow_le_pow_left (by decide) k)

theorem holds_good (x y z : Int) (w : World) (P k : Nat) (hk : k = 60) (hP : P = 256 ^ k) (hx : x.natAbs < P) (hy : y.natAbs < P) (hz : z.natAbs < P)
    (l1 : (zs x).size ≤ 60) (l2 : (zs y).size ≤ 60) (l3 : (zs z).size ≤ 60)
    (hsh : shortL [(zb x, zs x), (zb y, zs y), (zb z, zs z)] = true) (hvl : validL [(zb x, zs x), (zb y, zs y), (zb z, zs z)] = true) :
    Calls Try.prog 10 #[Z x, Z y, Z z] w (Ret (.bool true) w) := by
  obtain ⟨b1, b2, b3, b4, b5, b6, b7, b8, b9, b10⟩ := holds_sizes hx hy hz (by rw [hP]; exact two_pp hk)
  have hx10 : x.natAbs < 10 ^ (3 * k) := pow_ten (by rw [← hP]; exact hx)
  have h_ab := fun w => zz_add x y w b1 b2 b4
  have h_ba : ∀ w, Calls Try.prog 27 #[Z y, Z x] w (Ret (.tuple #[Z (x + y), .int .i64 0]) w) := fun w => by
    have h := zz_add y x w b2 b1 (by rw [Int.add_comm]; exact b4)
    rwa [Int.add_comm y x] at h
  have h_m := fun w => zz_mul x y w b1 b2 b5
  have h_n : ∀ w, Calls Try.prog 34 #[Z y, Z x] w (Ret (.tuple #[Z (x * y), .int .i64 0]) w) := fun w => by
    have h := zz_mul y x w b2 b1 (by rw [Int.mul_comm]; exact b5)
    rwa [Int.mul_comm y x] at h
  have h_x := fun w => zz_mul (x + y) z w b4 b3 b6
  have h_y := fun w => zz_mul x z w b1 b3 b7
  have h_z := fun w => zz_mul y z w b2 b3 b8
  have h_s : ∀ w, Calls Try.prog 27 #[Z (x * z), Z (y * z)] w (Ret (.tuple #[Z ((x + y) * z), .int .i64 0]) w) := fun w => by
    have h := zz_add (x * z) (y * z) w b7 b8 (by rw [← Int.add_mul]; exact b6)
    rwa [← Int.add_mul] at h
  have h_bk : ∀ w, Calls Try.prog 28 #[Z (x + y), Z y] w (Ret (.tuple #[Z x, .int .i64 0]) w) := fun w => by
    have h := zz_sub (x + y) y w b4 b2 (by rw [Int.add_sub_cancel]; exact b1)
    rwa [Int.add_sub_cancel] at h
  have h_sg := fun w => zz_sign y w b2
  have h_t := fun w => zz_text x w (3 * k) b1 hx10 (by omega)
  have h_p := fun w => parse_tx x w (3 * k) b1 hx10 (by omega) (by omega)
  have h_ac := fun w => zz_add x z w b1 b3 b9
  have h_bc := fun w => zz_add y z w b2 b3 b10
  have h_c1 : ∀ w, Calls Try.prog 15 #[Z (x + z), Z (y + z)] w (Ret (.int .i64 (x - y).sign) w) := fun w => by
    have h := zz_cmp (x + z) (y + z) w b9 b10
    rwa [show x + z - (y + z) = x - y by omega] at h
  have h_c2 := fun w => zz_cmp x y w b1 b2
  by_cases h0 : y = 0
  · exact holds_walk_zero (zb x) (zb y) (zb z) (zs x) (zs y) (zs z) w l1 l2 l3 hsh hvl _ _ _ _ _ _ _ _ _ _ _ _ _ _ (tx x) y.sign (x - y).sign (by rw [h0]; rfl) h_ab h_ba h_m h_n h_x h_y h_z h_s h_bk h_sg h_t h_p h_ac h_bc h_c1 h_c2
  · have h_q : ∀ w, Calls Try.prog 35 #[Z (x * y), Z y] w (Ret (.tuple #[Z x, .agg #[.bool false, .string ⟨#[]⟩], .int .i64 0]) w) := fun w => by
      have h := zz_quo (x * y) y w b5 b2 h0
      rw [Int.mul_ediv_cancel _ h0, Int.mul_emod_left] at h
      exact h
    have h_sr : ∀ w, Calls Try.prog 16 #[.agg #[.bool false, .string ⟨#[]⟩]] w (Ret (.int .i64 0) w) := fun w => zz_sign 0 w (W_Top2 W0)
    exact holds_walk_some (zb x) (zb y) (zb z) (zs x) (zs y) (zs z) w l1 l2 l3 hsh hvl _ _ _ _ _ _ _ _ _ _ _ _ _ _ (tx x) y.sign (x - y).sign (fun e => h0 (Int.sign_eq_zero_iff_zero.1 e)) h_ab h_ba h_m h_n h_x h_y h_z h_s h_bk h_sg h_q h_sr h_t h_p h_ac h_bc h_c1 h_c2

theorem short3_true {a b c : Bool} {s t r : ByteArray} (h1 : s.size ≤ 60) (h2 : t.size ≤ 60) (h3 : r.size ≤ 60) : shortL [(a, s), (b, t), (c, r)] = true := by simp [shortL, h1, h2, h3]
theorem holds_any (a b c : Bool) (s t r : ByteArray) (w : World) : Calls Try.prog 10 #[.agg #[.bool a, .string s], .agg #[.bool b, .string t], .agg #[.bool c, .string r]] w (Ret (.bool true) w) := by
  by_cases hs : s.size ≤ 60 ∧ t.size ≤ 60 ∧ r.size ≤ 60
  · obtain ⟨l1, l2, l3⟩ := hs
    have hsh : shortL [(a, s), (b, t), (c, r)] = true := short3_true l1 l2 l3
    cases hvl : validL [(a, s), (b, t), (c, r)] with
    | false => exact holds_bad a b c s t r w l1 l2 l3 hsh hvl
    | true =>
      have hv : vld a s = true ∧ vld b t = true ∧ vld c r = true := by simpa [validL, Bool.and_eq_true] using hvl
      obtain ⟨v1, v2, v3⟩ := hv
      have e1 := zb_sg v1
      have e2 := zb_sg v2
      have e3 := zb_sg v3
      obtain ⟨k, hk⟩ : ∃ k : Nat, k = 60 := ⟨_, rfl⟩
      obtain ⟨P, hP⟩ : ∃ P : Nat, P = 256 ^ k := ⟨_, rfl⟩
      have g := holds_good (sg a (bv s)) (sg b (bv t)) (sg c (bv r)) w P k hk hP (by rw [sg_abs, hP]; exact bv60 hk l1) (by rw [sg_abs, hP]; exact bv60 hk l2) (by rw [sg_abs, hP]; exact bv60 hk l3)
      unfold Z at g
      rw [e1.1, e1.2, e2.1, e2.2, e3.1, e3.2] at g
      exact g l1 l2 l3 hsh hvl
  · refine holds_long a b c s t r w ?_
    cases hsh : shortL [(a, s), (b, t), (c, r)] with
    | false => rfl
    | true =>
      have : s.size ≤ 60 ∧ t.size ≤ 60 ∧ r.size ≤ 60 := by simpa [shortL] using hsh
      exact absurd this hs
end Go.Proofs.Ytlmklhffafcmmaa

/- WideInts gives true for every int and every wide integer (P1.2), and leaves its arguments as they were. No condition. -/
namespace Go.Proofs.Ytlmklhffafcmmaa
open Go.ChangeShapes Go.WideShapes Go.ChangeAt Go.RowKit Go.Joins
open Go.ChangeMaps (open_string shut_string)

theorem Try.own : ownKnob Try.prog.godebug = none := by kernel_rfl
theorem Try.cellsWide : Try.prog.cellsOf 23 = 2 := by kernel_rfl

set_option maxRecDepth 100000 in
/-- A wide integer that came in. -/
theorem open_wide {H : Type} {enc : TypeId × Value → H} {w : World} {base : Nat} {b0 : Nat} {spare : Nat → Bool} {held : Bool} {r : Reach} {v : Value} {d : DataW H} {p : List MemPlace}
    (hv : Value.okWide Try.prog w r b0 23 v) (h : DataW.Trod enc Try.prog w base spare held 23 v d p) :
    ∃ (a : Bool) (s : ByteArray), v = .agg #[.bool a, .string s] ∧ d = .agg [.lit (.bool a), .lit (.string s.data.toList)] ∧ p = [] ∧ s.size ≤ maxLen := by
  obtain ⟨c0, c1, y0, y1, m, rfl, rfl, rfl, hy0, hy1⟩ := open_agg2 Try.underlying23 (by kernel_rfl) Try.cellsWide hv h
  obtain ⟨a, e0, rfl⟩ := DataW.trod_bool Try.underlying4 hy0
  obtain ⟨s, e1, rfl, hs⟩ := DataW.trod_string Try.underlying9 hy1
  simp at e0 e1
  subst e0 e1
  exact ⟨a, s, rfl, rfl, rfl, hs⟩
theorem shut_wide {H : Type} {enc : TypeId × Value → H} {w : World} {base : Nat} {spare : Nat → Bool} {held : Bool} {a : Bool} {s : ByteArray} (hs : s.size ≤ maxLen) :
    DataW.Trod enc Try.prog w base spare held 23 (.agg #[.bool a, .string s]) (.agg [.lit (.bool a), .lit (.string s.data.toList)]) [] :=
  shut_agg2 (y0 := (.lit (.bool a), [])) (y1 := (.lit (.string s.data.toList), [])) Try.underlying23 (by kernel_rfl) Try.cellsWide ⟨1, by simp [DataW.trod, Try.underlying4]⟩ ⟨1, by simp [DataW.trod, Try.underlying9, hs]⟩

theorem ints_any (n : Int) (a : Bool) (s : ByteArray) (w : World) (h1 : -9223372036854775808 ≤ n) (h2 : n ≤ 9223372036854775807) :
    Calls Try.prog 4 #[.int .i64 n, .agg #[.bool a, .string s]] w (Ret (.bool true) w) := by
  by_cases hs : s.size ≤ 60
  · have hz : s.size ≤ 140737488351232 := by omega
    cases hv : vld a s with
    | false => exact ints_invalid n a s w h1 h2 hz hs hv
    | true =>
      by_cases g1 : sg a (bv s) < -9223372036854775808
      · exact ints_low n a s w h1 h2 hz hs hv g1
      · by_cases g2 : 9223372036854775807 < sg a (bv s)
        · exact ints_high n a s w h1 h2 hz hs hv g2
        · exact ints_in n a s w h1 h2 hz hs hv (by omega) (by omega)
  · exact ints_long n a s w h1 h2 hs

set_option maxRecDepth 100000 in
theorem ints_lifted (os : Os) (started : os.Started) (H : Type) (enc : TypeId × Value → H) :
    ReturnsInHanded {} Try.checked os 4 .any (Rows.wideIntsSpec.pre6 enc Try.prog Try.f4 Rows.wideIntsRow.domain false) (Rows.wideIntsSpec.post enc Try.prog Try.f4 false true false false) := by
  refine returnsInHanded_of_change (C := Try.checked) Try.own started (by kernel_rfl) Try.func4
    (ChangeSpec.witness6 (enc := enc) (C := Try.checked) false ⟨#[], #[.int .i64 0, .agg #[.bool false, .string ⟨#[]⟩]], []⟩ 8 (by kernel_rfl) (by kernel_rfl) (by kernel_rfl) (by kernel_rfl)) ?_
  intro W base args ds gs before hval0 hW hcnd _
  have hval : ∀ (j : Nat) t v, Try.f4.params[j]? = some t → args[j]? = some v → Value.okWide Try.prog W .any base t v := hval0
  have hW' := hW
  obtain ⟨p, q, hA0, hV, rfl, hfz, hnd⟩ := hW
  have hA : DataW.TrodAll enc Try.prog W 0 (fun _ => true) true Try.f4.params.toList args.toList ds p := hA0
  rw [Try.params4] at hA hval
  obtain ⟨v0, v1, d0, d1, p0, p1, rfl, rfl, rfl, h0, h1⟩ := trodAll_two hA
  obtain ⟨rfl, rfl⟩ := trodVars_none hV
  obtain ⟨n, rfl, rfl, rfl, wn⟩ := open_int Try.underlying3 (hval 0 3 v0 rfl rfl) h0
  obtain ⟨a, s, rfl, rfl, rfl, hs⟩ := open_wide (hval 1 23 v1 rfl rfl) h1
  clear hA0 hval0
  have bn := bounds_i64 wn
  refine (ints_any n a s W (by omega) (by omega)).mono fun e W' ⟨he, bel⟩ => ?_
  subst he
  exact ⟨_, rfl, _, _, _, [], _, [], hW', trodAll_mk1 (shut_bool Try.underlying4 _), trodAll_mk2 (shut_int Try.underlying3 wn) (shut_wide hs), rfl, bel.frame _, fun h => by cases h⟩

/-- The statement. -/
theorem ints_holds : Rows.WideIntsSaid :=
  OpenClaim.holds_of_wide 4 Try.f4 rfl rfl rfl rfl rfl rfl rfl ⟨rfl, rfl, rfl, rfl, rfl⟩ rfl rfl rfl rfl rfl (by kernel_rfl) Try.func4 (by kernel_rfl)
    (of_decide_eq_true (by kernel_rfl)) (by unfold Func.isWrapper; first | (rw [if_pos (by decide +kernel)]; kernel_rfl) | (rw [if_neg (by decide +kernel)]; exact ⟨rfl, rfl⟩))
    (fun os started H enc _ => ints_lifted os started H enc)
#print axioms ints_holds
end Go.Proofs.Ytlmklhffafcmmaa

/- WideHolds gives true for all three wide integers (P1.9), and leaves its arguments as they were. No condition. -/
namespace Go.Proofs.Ytlmklhffafcmmaa
open Go.ChangeShapes Go.WideShapes Go.ChangeAt Go.RowKit Go.Joins
open Go.ChangeMaps (open_string shut_string)

set_option maxRecDepth 100000 in
theorem tops_lifted (os : Os) (started : os.Started) (H : Type) (enc : TypeId × Value → H) :
    ReturnsInHanded {} Try.checked os 10 .any (Rows.wideHoldsSpec.pre6 enc Try.prog Try.f10 Rows.wideHoldsRow.domain false) (Rows.wideHoldsSpec.post enc Try.prog Try.f10 false true false false) := by
  refine returnsInHanded_of_change (C := Try.checked) Try.own started (by kernel_rfl) Try.func10
    (ChangeSpec.witness6 (enc := enc) (C := Try.checked) false ⟨#[], #[.agg #[.bool false, .string ⟨#[]⟩], .agg #[.bool false, .string ⟨#[]⟩], .agg #[.bool false, .string ⟨#[]⟩]], []⟩ 8 (by kernel_rfl) (by kernel_rfl) (by kernel_rfl) (by kernel_rfl)) ?_
  intro W base args ds gs before hval0 hW hcnd _
  have hval : ∀ (j : Nat) t v, Try.f10.params[j]? = some t → args[j]? = some v → Value.okWide Try.prog W .any base t v := hval0
  have hW' := hW
  obtain ⟨p, q, hA0, hV, rfl, hfz, hnd⟩ := hW
  have hA : DataW.TrodAll enc Try.prog W 0 (fun _ => true) true Try.f10.params.toList args.toList ds p := hA0
  rw [Try.params10] at hA hval
  obtain ⟨v0, v1, v2, d0, d1, d2, p0, p1, p2, rfl, rfl, rfl, h0, h1, h2⟩ := trodAll_three hA
  obtain ⟨rfl, rfl⟩ := trodVars_none hV
  obtain ⟨a, s, rfl, rfl, rfl, hs⟩ := open_wide (hval 0 23 v0 rfl rfl) h0
  obtain ⟨b, t, rfl, rfl, rfl, ht⟩ := open_wide (hval 1 23 v1 rfl rfl) h1
  obtain ⟨c, r, rfl, rfl, rfl, hr⟩ := open_wide (hval 2 23 v2 rfl rfl) h2
  clear hA0 hval0
  refine (holds_any a b c s t r W).mono fun e W' ⟨he, bel⟩ => ?_
  subst he
  exact ⟨_, rfl, _, _, _, [], _, [], hW', trodAll_mk1 (shut_bool Try.underlying4 _), trodAll_mk3 (shut_wide hs) (shut_wide ht) (shut_wide hr), rfl, bel.frame _, fun h => by cases h⟩

/-- The statement. -/
theorem tops_holds : Rows.WideHoldsSaid :=
  OpenClaim.holds_of_wide 10 Try.f10 rfl rfl rfl rfl rfl rfl rfl ⟨rfl, rfl, rfl, rfl, rfl⟩ rfl rfl rfl rfl rfl (by kernel_rfl) Try.func10 (by kernel_rfl)
    (of_decide_eq_true (by kernel_rfl)) (by unfold Func.isWrapper; first | (rw [if_pos (by decide +kernel)]; kernel_rfl) | (rw [if_neg (by decide +kernel)]; exact ⟨rfl, rfl⟩))
    (fun os started H enc _ => tops_lifted os started H enc)
#print axioms tops_holds
end Go.Proofs.Ytlmklhffafcmmaa
