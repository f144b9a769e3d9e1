/- What the theorem leans on, part 10: Known, Short, LInts, LValid, SubW, LSums, LShift, Knuth, DivA, DivB. -/
import Derived.Test.YtlmklhffafcmmaaGreatY9
import Derived.Test.YtlmklhffafcmmaaGreatY7
import Derived.Test.YtlmklhffafcmmaaGreatY3
import Derived.Test.YtlmklhffafcmmaaGreatY2
import Derived.Test.YtlmklhffafcmmaaGreatY8
import Derived.Test.YtlmklhffafcmmaaGreatY1

/- The law's function known gives true. -/
namespace Go.Proofs.YtlmklhffafcmmaaGreat
open Go.RowKit

set_option maxRecDepth 100000 in
set_option maxHeartbeats 8000000 in
theorem known_true (w : World) : Calls Tryz.prog 8 #[] w (Ret (.bool true) w) := by
  have H_int := Lib.hid k_int
  have H_of1 := Lib.hid k_of1
  have H_of2 := Lib.hid k_of2
  have H_quo1 := Lib.hid k_quo1
  have H_quo2 := Lib.hid k_quo2
  have H_quo3 := Lib.hid k_quo3
  have H_quo4 := Lib.hid k_quo4
  have H_gcd1 := Lib.hid k_gcd1
  have H_gcd2 := Lib.hid k_gcd2
  have H_shift1 := Lib.hid k_shift1
  have H_shift2 := Lib.hid k_shift2
  have H_parse1 := Lib.hid k_parse1
  have H_parse2 := Lib.hid k_parse2
  have H_parse3 := Lib.hid k_parse3
  have H_len := Lib.hid k_len
  have H_sign := Lib.hid k_sign
  have H_ratof1 := Lib.hid k_ratof1
  have H_ratof2 := Lib.hid k_ratof2
  have H_floor := Lib.hid k_floor
  have H_add := Lib.hid k_add
  have H_mul := Lib.hid k_mul
  have H_cmp := Lib.hid k_cmp
  have H_wm7 := Lib.hid (k_w (-7) (by decide) (by decide))
  have H_wp2 := Lib.hid (k_w (2) (by decide) (by decide))
  have H_wp7 := Lib.hid (k_w (7) (by decide) (by decide))
  have H_wm2 := Lib.hid (k_w (-2) (by decide) (by decide))
  have H_wp0 := Lib.hid (k_w (0) (by decide) (by decide))
  have H_wm4 := Lib.hid (k_w (-4) (by decide) (by decide))
  have H_wp1 := Lib.hid (k_w (1) (by decide) (by decide))
  have H_wm3 := Lib.hid (k_w (-3) (by decide) (by decide))
  have H_wp4 := Lib.hid (k_w (4) (by decide) (by decide))
  have H_wm12 := Lib.hid (k_w (-12) (by decide) (by decide))
  have H_wp18 := Lib.hid (k_w (18) (by decide) (by decide))
  have H_wp6 := Lib.hid (k_w (6) (by decide) (by decide))
  have H_wm5 := Lib.hid (k_w (-5) (by decide) (by decide))
  have H_wp5 := Lib.hid (k_w (5) (by decide) (by decide))
  have H_wp40 := Lib.hid (k_w (40) (by decide) (by decide))
  have H_wp3 := Lib.hid (k_w (3) (by decide) (by decide))
  have H_qm3p2 := Lib.hid (k_q (-3) (2) (by decide) (by decide) (by decide) (by decide))
  have H_qp0p1 := Lib.hid (k_q (0) (1) (by decide) (by decide) (by decide) (by decide))
  have H_qp1p2 := Lib.hid (k_q (1) (2) (by decide) (by decide) (by decide) (by decide))
  have H_qp1p3 := Lib.hid (k_q (1) (3) (by decide) (by decide) (by decide) (by decide))
  have H_qp2p3 := Lib.hid (k_q (2) (3) (by decide) (by decide) (by decide) (by decide))
  have H_qp3p4 := Lib.hid (k_q (3) (4) (by decide) (by decide) (by decide) (by decide))
  have H_qp2p4 := Lib.hid (k_q (2) (4) (by decide) (by decide) (by decide) (by decide))
  have H_qp5p6 := Lib.hid (k_q (5) (6) (by decide) (by decide) (by decide) (by decide))
  unfold Z Q Ret at *
  unfold R64 at *
  generalize zb (-7) = b_m7 at *
  generalize zs (-7) = s_m7 at *
  generalize zb (2) = b_p2 at *
  generalize zs (2) = s_p2 at *
  generalize zb (7) = b_p7 at *
  generalize zs (7) = s_p7 at *
  generalize zb (-2) = b_m2 at *
  generalize zs (-2) = s_m2 at *
  generalize zb (0) = b_p0 at *
  generalize zs (0) = s_p0 at *
  generalize zb (-4) = b_m4 at *
  generalize zs (-4) = s_m4 at *
  generalize zb (1) = b_p1 at *
  generalize zs (1) = s_p1 at *
  generalize zb (-3) = b_m3 at *
  generalize zs (-3) = s_m3 at *
  generalize zb (4) = b_p4 at *
  generalize zs (4) = s_p4 at *
  generalize zb (-12) = b_m12 at *
  generalize zs (-12) = s_m12 at *
  generalize zb (18) = b_p18 at *
  generalize zs (18) = s_p18 at *
  generalize zb (6) = b_p6 at *
  generalize zs (6) = s_p6 at *
  generalize zb (-5) = b_m5 at *
  generalize zs (-5) = s_m5 at *
  generalize zb (5) = b_p5 at *
  generalize zs (5) = s_p5 at *
  generalize zb (40) = b_p40 at *
  generalize zs (40) = s_p40 at *
  generalize zb (3) = b_p3 at *
  generalize zs (3) = s_p3 at *
  go_enter Tryz.func8, Tryz.ntmps8
  have TOT : Hid (Below w.heap.size w w) := Below.refl _ _
  go_wp2_with fail
  refine (H_int.out _).mono ?_
  rintro e x1 ⟨rfl, b1⟩
  have E := Lib.hid b1
  clear b1
  have TOT := Lib.hid (chain TOT.out E.out)
  go_wp2_with fail
  refine (H_of1.out _).mono ?_
  rintro e x2 ⟨rfl, b2⟩
  have E := Lib.hid b2
  clear b2
  go_wp2_with fail
  refine (H_of2.out _).mono ?_
  rintro e x3 ⟨rfl, b3⟩
  have E := Lib.hid (chain E.out b3)
  clear b3
  have TOT := Lib.hid (chain TOT.out E.out)
  go_wp2_with fail
  refine (H_wm7.out _).mono ?_
  rintro e x4 ⟨rfl, b4⟩
  have E := Lib.hid b4
  clear b4
  go_wp2_with fail
  refine (H_wp2.out _).mono ?_
  rintro e x5 ⟨rfl, b5⟩
  have E := Lib.hid (chain E.out b5)
  clear b5
  go_wp2_with fail
  refine (H_quo1.out _).mono ?_
  rintro e x6 ⟨rfl, b6⟩
  have E := Lib.hid (chain E.out b6)
  clear b6
  obtain ⟨u4, hu4⟩ : ∃ u : World, u = (x6.alloc (.cells #[.bool b_m4, .string s_m4] 23)).alloc (.cells #[.bool b_p1, .string s_p1] 23) := ⟨_, rfl⟩
  have D : Hid (Below x3.heap.size x3 u4) := by rw [hu4]; exact ((E.out.alloc E.out.size _).alloc (Nat.le_trans E.out.size (by simp)) _)
  have T3 : Hid (ZC (.bool b_m4) (.string s_m4) u4 x6.heap.size) := by rw [hu4]; exact (ZC.new rfl).alloc _
  have T4 : Hid (ZC (.bool b_p1) (.string s_p1) u4 (x6.heap.size + 1)) := by rw [hu4]; exact ZC.new (by simp)
  have TOT := Lib.hid (chain TOT.out D.out)
  have Hu4 := Lib.hid hu4
  clear hu4 D E
  go_wp2_with fail
  rw [← Hu4.out]
  clear Hu4
  refine (H_wp7.out _).mono ?_
  rintro e x7 ⟨rfl, b7⟩
  have E := Lib.hid b7
  clear b7
  go_wp2_with fail
  refine (H_wm2.out _).mono ?_
  rintro e x8 ⟨rfl, b8⟩
  have E := Lib.hid (chain E.out b8)
  clear b8
  go_wp2_with fail
  refine (H_quo2.out _).mono ?_
  rintro e x9 ⟨rfl, b9⟩
  have E := Lib.hid (chain E.out b9)
  clear b9
  obtain ⟨u5, hu5⟩ : ∃ u : World, u = (x9.alloc (.cells #[.bool b_m3, .string s_m3] 23)).alloc (.cells #[.bool b_p1, .string s_p1] 23) := ⟨_, rfl⟩
  have D : Hid (Below u4.heap.size u4 u5) := by rw [hu5]; exact ((E.out.alloc E.out.size _).alloc (Nat.le_trans E.out.size (by simp)) _)
  have T3 := Lib.hid (T3.out.next D.out)
  have T4 := Lib.hid (T4.out.next D.out)
  have T6 : Hid (ZC (.bool b_m3) (.string s_m3) u5 x9.heap.size) := by rw [hu5]; exact (ZC.new rfl).alloc _
  have T7 : Hid (ZC (.bool b_p1) (.string s_p1) u5 (x9.heap.size + 1)) := by rw [hu5]; exact ZC.new (by simp)
  have TOT := Lib.hid (chain TOT.out D.out)
  have Hu5 := Lib.hid hu5
  clear hu5 D E
  go_wp2_with fail
  rw [← Hu5.out]
  clear Hu5
  refine (H_wm7.out _).mono ?_
  rintro e x10 ⟨rfl, b10⟩
  have E := Lib.hid b10
  clear b10
  go_wp2_with fail
  refine (H_wm2.out _).mono ?_
  rintro e x11 ⟨rfl, b11⟩
  have E := Lib.hid (chain E.out b11)
  clear b11
  go_wp2_with fail
  refine (H_quo3.out _).mono ?_
  rintro e x12 ⟨rfl, b12⟩
  have E := Lib.hid (chain E.out b12)
  clear b12
  obtain ⟨u6, hu6⟩ : ∃ u : World, u = (x12.alloc (.cells #[.bool b_p4, .string s_p4] 23)).alloc (.cells #[.bool b_p1, .string s_p1] 23) := ⟨_, rfl⟩
  have D : Hid (Below u5.heap.size u5 u6) := by rw [hu6]; exact ((E.out.alloc E.out.size _).alloc (Nat.le_trans E.out.size (by simp)) _)
  have T3 := Lib.hid (T3.out.next D.out)
  have T4 := Lib.hid (T4.out.next D.out)
  have T6 := Lib.hid (T6.out.next D.out)
  have T7 := Lib.hid (T7.out.next D.out)
  have T9 : Hid (ZC (.bool b_p4) (.string s_p4) u6 x12.heap.size) := by rw [hu6]; exact (ZC.new rfl).alloc _
  have T10 : Hid (ZC (.bool b_p1) (.string s_p1) u6 (x12.heap.size + 1)) := by rw [hu6]; exact ZC.new (by simp)
  have TOT := Lib.hid (chain TOT.out D.out)
  have Hu6 := Lib.hid hu6
  clear hu6 D E
  go_wp2_with fail
  rw [← Hu6.out]
  clear Hu6
  refine (H_wp7.out _).mono ?_
  rintro e x13 ⟨rfl, b13⟩
  have E := Lib.hid b13
  clear b13
  go_wp2_with fail
  refine (H_wp0.out _).mono ?_
  rintro e x14 ⟨rfl, b14⟩
  have E := Lib.hid (chain E.out b14)
  clear b14
  go_wp2_with fail
  refine (H_quo4.out _).mono ?_
  rintro e x15 ⟨rfl, b15⟩
  have E := Lib.hid (chain E.out b15)
  clear b15
  obtain ⟨u7, hu7⟩ : ∃ u : World, u = (x15.alloc (.cells #[.bool b_p0, .string s_p0] 23)).alloc (.cells #[.bool b_p0, .string s_p0] 23) := ⟨_, rfl⟩
  have D : Hid (Below u6.heap.size u6 u7) := by rw [hu7]; exact ((E.out.alloc E.out.size _).alloc (Nat.le_trans E.out.size (by simp)) _)
  have T3 := Lib.hid (T3.out.next D.out)
  have T4 := Lib.hid (T4.out.next D.out)
  have T6 := Lib.hid (T6.out.next D.out)
  have T7 := Lib.hid (T7.out.next D.out)
  have T9 := Lib.hid (T9.out.next D.out)
  have T10 := Lib.hid (T10.out.next D.out)
  have T12 : Hid (ZC (.bool b_p0) (.string s_p0) u7 x15.heap.size) := by rw [hu7]; exact (ZC.new rfl).alloc _
  have T13 : Hid (ZC (.bool b_p0) (.string s_p0) u7 (x15.heap.size + 1)) := by rw [hu7]; exact ZC.new (by simp)
  have TOT := Lib.hid (chain TOT.out D.out)
  have Hu7 := Lib.hid hu7
  clear hu7 D E
  clear T12 T13
  go_wp2_with fail
  rw [← Hu7.out]
  clear Hu7
  obtain ⟨k0, k1, _⟩ := T3.out
  obtain ⟨k2, k3, _⟩ := T4.out
  obtain ⟨k4, k5, _⟩ := T6.out
  obtain ⟨k6, k7, _⟩ := T7.out
  obtain ⟨k8, k9, _⟩ := T9.out
  obtain ⟨k10, k11, _⟩ := T10.out
  go_region_held3 (fun W' => W'.cell? ⟨x6.heap.size, 0, none⟩ = some (.bool b_m4) ∧ W'.cell? ⟨x6.heap.size, 1, none⟩ = some (.string s_m4) ∧ W'.cell? ⟨(x6.heap.size + 1), 0, none⟩ = some (.bool b_p1) ∧ W'.cell? ⟨(x6.heap.size + 1), 1, none⟩ = some (.string s_p1) ∧ W'.cell? ⟨x9.heap.size, 0, none⟩ = some (.bool b_m3) ∧ W'.cell? ⟨x9.heap.size, 1, none⟩ = some (.string s_m3) ∧ W'.cell? ⟨(x9.heap.size + 1), 0, none⟩ = some (.bool b_p1) ∧ W'.cell? ⟨(x9.heap.size + 1), 1, none⟩ = some (.string s_p1) ∧ W'.cell? ⟨x12.heap.size, 0, none⟩ = some (.bool b_p4) ∧ W'.cell? ⟨x12.heap.size, 1, none⟩ = some (.string s_p4) ∧ W'.cell? ⟨(x12.heap.size + 1), 0, none⟩ = some (.bool b_p1) ∧ W'.cell? ⟨(x12.heap.size + 1), 1, none⟩ = some (.string s_p1)) (go_keep)
    (first
      | (go_at_call 54; (with_reducible refine (H_wm4.out _).mono ?_); rintro e y ⟨rfl, b9⟩; have D := Lib.hid (show Below u7.heap.size u7 y by first | exact chain D.out b9 | exact chain ((Below.refl _ _).drew) b9); have p0 := keep1 D.out k0; have p1 := keep1 D.out k1; have p2 := keep1 D.out k2; have p3 := keep1 D.out k3; have p4 := keep1 D.out k4; have p5 := keep1 D.out k5; have p6 := keep1 D.out k6; have p7 := keep1 D.out k7; have p8 := keep1 D.out k8; have p9 := keep1 D.out k9; have p10 := keep1 D.out k10; have p11 := keep1 D.out k11; clear b9)
      | (go_at_call 54; (with_reducible refine (H_wp1.out _).mono ?_); rintro e y ⟨rfl, b9⟩; have D := Lib.hid (show Below u7.heap.size u7 y by first | exact chain D.out b9 | exact chain ((Below.refl _ _).drew) b9); have p0 := keep1 D.out k0; have p1 := keep1 D.out k1; have p2 := keep1 D.out k2; have p3 := keep1 D.out k3; have p4 := keep1 D.out k4; have p5 := keep1 D.out k5; have p6 := keep1 D.out k6; have p7 := keep1 D.out k7; have p8 := keep1 D.out k8; have p9 := keep1 D.out k9; have p10 := keep1 D.out k10; have p11 := keep1 D.out k11; clear b9)
      | (go_at_call 54; (with_reducible refine (H_wm3.out _).mono ?_); rintro e y ⟨rfl, b9⟩; have D := Lib.hid (show Below u7.heap.size u7 y by first | exact chain D.out b9 | exact chain ((Below.refl _ _).drew) b9); have p0 := keep1 D.out k0; have p1 := keep1 D.out k1; have p2 := keep1 D.out k2; have p3 := keep1 D.out k3; have p4 := keep1 D.out k4; have p5 := keep1 D.out k5; have p6 := keep1 D.out k6; have p7 := keep1 D.out k7; have p8 := keep1 D.out k8; have p9 := keep1 D.out k9; have p10 := keep1 D.out k10; have p11 := keep1 D.out k11; clear b9)
      | (go_at_call 54; (with_reducible refine (H_wp4.out _).mono ?_); rintro e y ⟨rfl, b9⟩; have D := Lib.hid (show Below u7.heap.size u7 y by first | exact chain D.out b9 | exact chain ((Below.refl _ _).drew) b9); have p0 := keep1 D.out k0; have p1 := keep1 D.out k1; have p2 := keep1 D.out k2; have p3 := keep1 D.out k3; have p4 := keep1 D.out k4; have p5 := keep1 D.out k5; have p6 := keep1 D.out k6; have p7 := keep1 D.out k7; have p8 := keep1 D.out k8; have p9 := keep1 D.out k9; have p10 := keep1 D.out k10; have p11 := keep1 D.out k11; clear b9)
      | fail)
  have TOT := Lib.hid (chain TOT.out D.out)
  clear T3 T4 T6 T7 T9 T10 k0 k1 k2 k3 k4 k5 k6 k7 k8 k9 k10 k11 p0 p1 p2 p3 p4 p5 p6 p7 p8 p9 p10 p11 D
  go_wp2_with fail
  refine (H_wm12.out _).mono ?_
  rintro e x16 ⟨rfl, b16⟩
  have E := Lib.hid b16
  clear b16
  go_wp2_with fail
  refine (H_wp18.out _).mono ?_
  rintro e x17 ⟨rfl, b17⟩
  have E := Lib.hid (chain E.out b17)
  clear b17
  go_wp2_with fail
  refine (H_gcd1.out _).mono ?_
  rintro e x18 ⟨rfl, b18⟩
  have E := Lib.hid (chain E.out b18)
  clear b18
  obtain ⟨u10, hu10⟩ : ∃ u : World, u = x18.alloc (.cells #[.bool b_p6, .string s_p6] 23) := ⟨_, rfl⟩
  have D : Hid (Below y.heap.size y u10) := by rw [hu10]; exact (E.out.alloc E.out.size _)
  have T15 : Hid (ZC (.bool b_p6) (.string s_p6) u10 x18.heap.size) := by rw [hu10]; exact ZC.new rfl
  have TOT := Lib.hid (chain TOT.out D.out)
  have Hu10 := Lib.hid hu10
  clear hu10 D E
  go_wp2_with fail
  rw [← Hu10.out]
  clear Hu10
  refine (H_wp0.out _).mono ?_
  rintro e x19 ⟨rfl, b19⟩
  have E := Lib.hid b19
  clear b19
  go_wp2_with fail
  refine (H_wp0.out _).mono ?_
  rintro e x20 ⟨rfl, b20⟩
  have E := Lib.hid (chain E.out b20)
  clear b20
  go_wp2_with fail
  refine (H_gcd2.out _).mono ?_
  rintro e x21 ⟨rfl, b21⟩
  have E := Lib.hid (chain E.out b21)
  clear b21
  obtain ⟨u11, hu11⟩ : ∃ u : World, u = x21.alloc (.cells #[.bool b_p0, .string s_p0] 23) := ⟨_, rfl⟩
  have D : Hid (Below u10.heap.size u10 u11) := by rw [hu11]; exact (E.out.alloc E.out.size _)
  have T15 := Lib.hid (T15.out.next D.out)
  have T16 : Hid (ZC (.bool b_p0) (.string s_p0) u11 x21.heap.size) := by rw [hu11]; exact ZC.new rfl
  have TOT := Lib.hid (chain TOT.out D.out)
  have Hu11 := Lib.hid hu11
  clear hu11 D E
  go_wp2_with fail
  rw [← Hu11.out]
  clear Hu11
  refine (H_wm5.out _).mono ?_
  rintro e x22 ⟨rfl, b22⟩
  have E := Lib.hid b22
  clear b22
  go_wp2_with fail
  refine (H_shift1.out _).mono ?_
  rintro e x23 ⟨rfl, b23⟩
  have E := Lib.hid (chain E.out b23)
  clear b23
  obtain ⟨u12, hu12⟩ : ∃ u : World, u = x23.alloc (.cells #[.bool b_m3, .string s_m3] 23) := ⟨_, rfl⟩
  have D : Hid (Below u11.heap.size u11 u12) := by rw [hu12]; exact (E.out.alloc E.out.size _)
  have T15 := Lib.hid (T15.out.next D.out)
  have T16 := Lib.hid (T16.out.next D.out)
  have T17 : Hid (ZC (.bool b_m3) (.string s_m3) u12 x23.heap.size) := by rw [hu12]; exact ZC.new rfl
  have TOT := Lib.hid (chain TOT.out D.out)
  have Hu12 := Lib.hid hu12
  clear hu12 D E
  go_wp2_with fail
  rw [← Hu12.out]
  clear Hu12
  refine (H_wp5.out _).mono ?_
  rintro e x24 ⟨rfl, b24⟩
  have E := Lib.hid b24
  clear b24
  go_wp2_with fail
  refine (H_shift2.out _).mono ?_
  rintro e x25 ⟨rfl, b25⟩
  have E := Lib.hid (chain E.out b25)
  clear b25
  obtain ⟨u13, hu13⟩ : ∃ u : World, u = x25.alloc (.cells #[.bool b_p40, .string s_p40] 23) := ⟨_, rfl⟩
  have D : Hid (Below u12.heap.size u12 u13) := by rw [hu13]; exact (E.out.alloc E.out.size _)
  have T15 := Lib.hid (T15.out.next D.out)
  have T16 := Lib.hid (T16.out.next D.out)
  have T17 := Lib.hid (T17.out.next D.out)
  have T19 : Hid (ZC (.bool b_p40) (.string s_p40) u13 x25.heap.size) := by rw [hu13]; exact ZC.new rfl
  have TOT := Lib.hid (chain TOT.out D.out)
  have Hu13 := Lib.hid hu13
  clear hu13 D E
  go_wp2_with fail
  rw [← Hu13.out]
  clear Hu13
  obtain ⟨k0, k1, _⟩ := T15.out
  obtain ⟨k2, k3, _⟩ := T16.out
  obtain ⟨k4, k5, _⟩ := T17.out
  obtain ⟨k6, k7, _⟩ := T19.out
  go_region_held3 (fun W' => W'.cell? ⟨x18.heap.size, 0, none⟩ = some (.bool b_p6) ∧ W'.cell? ⟨x18.heap.size, 1, none⟩ = some (.string s_p6) ∧ W'.cell? ⟨x21.heap.size, 0, none⟩ = some (.bool b_p0) ∧ W'.cell? ⟨x21.heap.size, 1, none⟩ = some (.string s_p0) ∧ W'.cell? ⟨x23.heap.size, 0, none⟩ = some (.bool b_m3) ∧ W'.cell? ⟨x23.heap.size, 1, none⟩ = some (.string s_m3) ∧ W'.cell? ⟨x25.heap.size, 0, none⟩ = some (.bool b_p40) ∧ W'.cell? ⟨x25.heap.size, 1, none⟩ = some (.string s_p40)) (go_keep)
    (first
      | (go_at_call 54; (with_reducible refine (H_wp6.out _).mono ?_); rintro e y ⟨rfl, b9⟩; have D := Lib.hid (show Below u13.heap.size u13 y by first | exact chain D.out b9 | exact chain ((Below.refl _ _).drew) b9); have p0 := keep1 D.out k0; have p1 := keep1 D.out k1; have p2 := keep1 D.out k2; have p3 := keep1 D.out k3; have p4 := keep1 D.out k4; have p5 := keep1 D.out k5; have p6 := keep1 D.out k6; have p7 := keep1 D.out k7; clear b9)
      | (go_at_call 54; (with_reducible refine (H_wp0.out _).mono ?_); rintro e y ⟨rfl, b9⟩; have D := Lib.hid (show Below u13.heap.size u13 y by first | exact chain D.out b9 | exact chain ((Below.refl _ _).drew) b9); have p0 := keep1 D.out k0; have p1 := keep1 D.out k1; have p2 := keep1 D.out k2; have p3 := keep1 D.out k3; have p4 := keep1 D.out k4; have p5 := keep1 D.out k5; have p6 := keep1 D.out k6; have p7 := keep1 D.out k7; clear b9)
      | (go_at_call 54; (with_reducible refine (H_wm3.out _).mono ?_); rintro e y ⟨rfl, b9⟩; have D := Lib.hid (show Below u13.heap.size u13 y by first | exact chain D.out b9 | exact chain ((Below.refl _ _).drew) b9); have p0 := keep1 D.out k0; have p1 := keep1 D.out k1; have p2 := keep1 D.out k2; have p3 := keep1 D.out k3; have p4 := keep1 D.out k4; have p5 := keep1 D.out k5; have p6 := keep1 D.out k6; have p7 := keep1 D.out k7; clear b9)
      | (go_at_call 54; (with_reducible refine (H_wp40.out _).mono ?_); rintro e y ⟨rfl, b9⟩; have D := Lib.hid (show Below u13.heap.size u13 y by first | exact chain D.out b9 | exact chain ((Below.refl _ _).drew) b9); have p0 := keep1 D.out k0; have p1 := keep1 D.out k1; have p2 := keep1 D.out k2; have p3 := keep1 D.out k3; have p4 := keep1 D.out k4; have p5 := keep1 D.out k5; have p6 := keep1 D.out k6; have p7 := keep1 D.out k7; clear b9)
      | fail)
  have TOT := Lib.hid (chain TOT.out D.out)
  clear T15 T16 T17 T19 k0 k1 k2 k3 k4 k5 k6 k7 p0 p1 p2 p3 p4 p5 p6 p7 D
  go_wp2_with fail
  refine (H_parse1.out _).mono ?_
  rintro e x26 ⟨rfl, b26⟩
  have E := Lib.hid b26
  clear b26
  have TOT := Lib.hid (chain TOT.out E.out)
  go_wp2_with fail
  refine (H_parse2.out _).mono ?_
  rintro e x27 ⟨rfl, b27⟩
  have E := Lib.hid b27
  clear b27
  have TOT := Lib.hid (chain TOT.out E.out)
  go_wp2_with fail
  refine (H_parse3.out _).mono ?_
  rintro e x28 ⟨rfl, b28⟩
  have E := Lib.hid b28
  clear b28
  obtain ⟨u18, hu18⟩ : ∃ u : World, u = x28.alloc (.cells #[.bool true, .string ⟨#[1, 0, 0, 0, 0, 0, 0, 0, 0]⟩] 23) := ⟨_, rfl⟩
  have D : Hid (Below x27.heap.size x27 u18) := by rw [hu18]; exact (E.out.alloc E.out.size _)
  have T21 : Hid (ZC (.bool true) (.string ⟨#[1, 0, 0, 0, 0, 0, 0, 0, 0]⟩) u18 x28.heap.size) := by rw [hu18]; exact ZC.new rfl
  have TOT := Lib.hid (chain TOT.out D.out)
  have Hu18 := Lib.hid hu18
  clear hu18 D E
  obtain ⟨k0, k1, _⟩ := T21.out
  clear T21
  go_wp2_with fail
  rw [← Hu18.out]
  clear Hu18
  refine (H_len.out _).mono ?_
  rintro e x29 ⟨rfl, b29⟩
  have E := Lib.hid b29
  clear b29
  have p0 := keep1 E.out k0
  have p1 := keep1 E.out k1
  go_wp2_with fail
  refine (H_sign.out _).mono ?_
  rintro e x30 ⟨rfl, b30⟩
  have E := Lib.hid (chain E.out b30)
  clear b30
  have TOT := Lib.hid (chain TOT.out E.out)
  clear k0 k1 p0 p1 E
  go_wp2_with fail
  refine (H_ratof1.out _).mono ?_
  rintro e x31 ⟨rfl, b31⟩
  have E := Lib.hid b31
  clear b31
  obtain ⟨u21, hu21⟩ : ∃ u : World, u = x31.alloc (.cells #[.bool b_m3, .string s_m3, .bool b_p2, .string s_p2] 27) := ⟨_, rfl⟩
  have D : Hid (Below x30.heap.size x30 u21) := by rw [hu21]; exact (E.out.alloc E.out.size _)
  have T23 : Hid (ZC4 (.bool b_m3) (.string s_m3) (.bool b_p2) (.string s_p2) u21 x31.heap.size) := by rw [hu21]; exact ZC4.made0 x31
  have TOT := Lib.hid (chain TOT.out D.out)
  have Hu21 := Lib.hid hu21
  clear hu21 D E
  go_wp2_with fail
  rw [← Hu21.out]
  clear Hu21
  refine (H_ratof2.out _).mono ?_
  rintro e x32 ⟨rfl, b32⟩
  have E := Lib.hid b32
  clear b32
  obtain ⟨u22, hu22⟩ : ∃ u : World, u = x32.alloc (.cells #[.bool b_p0, .string s_p0, .bool b_p1, .string s_p1] 27) := ⟨_, rfl⟩
  have D : Hid (Below u21.heap.size u21 u22) := by rw [hu22]; exact (E.out.alloc E.out.size _)
  have T23 := Lib.hid (T23.out.next D.out)
  have T24 : Hid (ZC4 (.bool b_p0) (.string s_p0) (.bool b_p1) (.string s_p1) u22 x32.heap.size) := by rw [hu22]; exact ZC4.made0 x32
  have TOT := Lib.hid (chain TOT.out D.out)
  have Hu22 := Lib.hid hu22
  clear hu22 D E
  go_wp2_with fail
  rw [← Hu22.out]
  clear Hu22
  refine (H_qm3p2.out _).mono ?_
  rintro e x33 ⟨rfl, b33⟩
  have E := Lib.hid b33
  clear b33
  go_wp2_with fail
  refine (H_floor.out _).mono ?_
  rintro e x34 ⟨rfl, b34⟩
  have E := Lib.hid (chain E.out b34)
  clear b34
  obtain ⟨u23, hu23⟩ : ∃ u : World, u = x34.alloc (.cells #[.bool b_m2, .string s_m2] 23) := ⟨_, rfl⟩
  have D : Hid (Below u22.heap.size u22 u23) := by rw [hu23]; exact (E.out.alloc E.out.size _)
  have T23 := Lib.hid (T23.out.next D.out)
  have T24 := Lib.hid (T24.out.next D.out)
  have T25 : Hid (ZC (.bool b_m2) (.string s_m2) u23 x34.heap.size) := by rw [hu23]; exact ZC.new rfl
  have TOT := Lib.hid (chain TOT.out D.out)
  have Hu23 := Lib.hid hu23
  clear hu23 D E
  go_wp2_with fail
  rw [← Hu23.out]
  clear Hu23
  obtain ⟨⟨k0, k1, k2, k3⟩, _⟩ := T23.out
  obtain ⟨⟨k4, k5, k6, k7⟩, _⟩ := T24.out
  obtain ⟨k8, k9, _⟩ := T25.out
  go_region_held3 (fun W' => W'.cell? ⟨x31.heap.size, 0, none⟩ = some (.bool b_m3) ∧ W'.cell? ⟨x31.heap.size, 1, none⟩ = some (.string s_m3) ∧ W'.cell? ⟨x31.heap.size, 2, none⟩ = some (.bool b_p2) ∧ W'.cell? ⟨x31.heap.size, 3, none⟩ = some (.string s_p2) ∧ W'.cell? ⟨x32.heap.size, 0, none⟩ = some (.bool b_p0) ∧ W'.cell? ⟨x32.heap.size, 1, none⟩ = some (.string s_p0) ∧ W'.cell? ⟨x32.heap.size, 2, none⟩ = some (.bool b_p1) ∧ W'.cell? ⟨x32.heap.size, 3, none⟩ = some (.string s_p1) ∧ W'.cell? ⟨x34.heap.size, 0, none⟩ = some (.bool b_m2) ∧ W'.cell? ⟨x34.heap.size, 1, none⟩ = some (.string s_m2)) (go_keep)
    (first
      | (go_at_call 60; (with_reducible refine (H_qm3p2.out _).mono ?_); rintro e y ⟨rfl, b9⟩; have D := Lib.hid (show Below u23.heap.size u23 y by first | exact chain D.out b9 | exact chain ((Below.refl _ _).drew) b9); have p0 := keep1 D.out k0; have p1 := keep1 D.out k1; have p2 := keep1 D.out k2; have p3 := keep1 D.out k3; have p4 := keep1 D.out k4; have p5 := keep1 D.out k5; have p6 := keep1 D.out k6; have p7 := keep1 D.out k7; have p8 := keep1 D.out k8; have p9 := keep1 D.out k9; clear b9)
      | (go_at_call 60; (with_reducible refine (H_qp0p1.out _).mono ?_); rintro e y ⟨rfl, b9⟩; have D := Lib.hid (show Below u23.heap.size u23 y by first | exact chain D.out b9 | exact chain ((Below.refl _ _).drew) b9); have p0 := keep1 D.out k0; have p1 := keep1 D.out k1; have p2 := keep1 D.out k2; have p3 := keep1 D.out k3; have p4 := keep1 D.out k4; have p5 := keep1 D.out k5; have p6 := keep1 D.out k6; have p7 := keep1 D.out k7; have p8 := keep1 D.out k8; have p9 := keep1 D.out k9; clear b9)
      | (go_at_call 54; (with_reducible refine (H_wm2.out _).mono ?_); rintro e y ⟨rfl, b9⟩; have D := Lib.hid (show Below u23.heap.size u23 y by first | exact chain D.out b9 | exact chain ((Below.refl _ _).drew) b9); have p0 := keep1 D.out k0; have p1 := keep1 D.out k1; have p2 := keep1 D.out k2; have p3 := keep1 D.out k3; have p4 := keep1 D.out k4; have p5 := keep1 D.out k5; have p6 := keep1 D.out k6; have p7 := keep1 D.out k7; have p8 := keep1 D.out k8; have p9 := keep1 D.out k9; clear b9)
      | fail)
  have TOT := Lib.hid (chain TOT.out D.out)
  clear T23 T24 T25 k0 k1 k2 k3 k4 k5 k6 k7 k8 k9 p0 p1 p2 p3 p4 p5 p6 p7 p8 p9 D
  go_wp2_with fail
  refine (H_qp1p2.out _).mono ?_
  rintro e x35 ⟨rfl, b35⟩
  have E := Lib.hid b35
  clear b35
  go_wp2_with fail
  refine (H_qp1p3.out _).mono ?_
  rintro e x36 ⟨rfl, b36⟩
  have E := Lib.hid (chain E.out b36)
  clear b36
  go_wp2_with fail
  refine (H_add.out _).mono ?_
  rintro e x37 ⟨rfl, b37⟩
  have E := Lib.hid (chain E.out b37)
  clear b37
  obtain ⟨u26, hu26⟩ : ∃ u : World, u = x37.alloc (.cells #[.bool b_p5, .string s_p5, .bool b_p6, .string s_p6] 27) := ⟨_, rfl⟩
  have D : Hid (Below y.heap.size y u26) := by rw [hu26]; exact (E.out.alloc E.out.size _)
  have T27 : Hid (ZC4 (.bool b_p5) (.string s_p5) (.bool b_p6) (.string s_p6) u26 x37.heap.size) := by rw [hu26]; exact ZC4.made0 x37
  have TOT := Lib.hid (chain TOT.out D.out)
  have Hu26 := Lib.hid hu26
  clear hu26 D E
  go_wp2_with fail
  rw [← Hu26.out]
  clear Hu26
  refine (H_qp2p3.out _).mono ?_
  rintro e x38 ⟨rfl, b38⟩
  have E := Lib.hid b38
  clear b38
  go_wp2_with fail
  refine (H_qp3p4.out _).mono ?_
  rintro e x39 ⟨rfl, b39⟩
  have E := Lib.hid (chain E.out b39)
  clear b39
  go_wp2_with fail
  refine (H_mul.out _).mono ?_
  rintro e x40 ⟨rfl, b40⟩
  have E := Lib.hid (chain E.out b40)
  clear b40
  obtain ⟨u27, hu27⟩ : ∃ u : World, u = x40.alloc (.cells #[.bool b_p1, .string s_p1, .bool b_p2, .string s_p2] 27) := ⟨_, rfl⟩
  have D : Hid (Below u26.heap.size u26 u27) := by rw [hu27]; exact (E.out.alloc E.out.size _)
  have T27 := Lib.hid (T27.out.next D.out)
  have T28 : Hid (ZC4 (.bool b_p1) (.string s_p1) (.bool b_p2) (.string s_p2) u27 x40.heap.size) := by rw [hu27]; exact ZC4.made0 x40
  have TOT := Lib.hid (chain TOT.out D.out)
  have Hu27 := Lib.hid hu27
  clear hu27 D E
  go_wp2_with fail
  rw [← Hu27.out]
  clear Hu27
  refine (H_qp2p4.out _).mono ?_
  rintro e x41 ⟨rfl, b41⟩
  have E := Lib.hid b41
  clear b41
  go_wp2_with fail
  refine (H_qp1p2.out _).mono ?_
  rintro e x42 ⟨rfl, b42⟩
  have E := Lib.hid (chain E.out b42)
  clear b42
  go_wp2_with fail
  refine (H_cmp.out _).mono ?_
  rintro e x43 ⟨rfl, b43⟩
  have E := Lib.hid (chain E.out b43)
  clear b43
  have TOT := Lib.hid (chain TOT.out E.out)
  have T27 := Lib.hid (T27.out.next E.out)
  have T28 := Lib.hid (T28.out.next E.out)
  go_wp2_with fail
  obtain ⟨⟨k0, k1, k2, k3⟩, _⟩ := T27.out
  obtain ⟨⟨k4, k5, k6, k7⟩, _⟩ := T28.out
  go_region_held3 (fun W' => W'.cell? ⟨x37.heap.size, 0, none⟩ = some (.bool b_p5) ∧ W'.cell? ⟨x37.heap.size, 1, none⟩ = some (.string s_p5) ∧ W'.cell? ⟨x37.heap.size, 2, none⟩ = some (.bool b_p6) ∧ W'.cell? ⟨x37.heap.size, 3, none⟩ = some (.string s_p6) ∧ W'.cell? ⟨x40.heap.size, 0, none⟩ = some (.bool b_p1) ∧ W'.cell? ⟨x40.heap.size, 1, none⟩ = some (.string s_p1) ∧ W'.cell? ⟨x40.heap.size, 2, none⟩ = some (.bool b_p2) ∧ W'.cell? ⟨x40.heap.size, 3, none⟩ = some (.string s_p2)) (go_keep)
    (first
      | (go_at_call 60; (with_reducible refine (H_qp5p6.out _).mono ?_); rintro e y ⟨rfl, b9⟩; have D := Lib.hid (show Below x43.heap.size x43 y by first | exact chain D.out b9 | exact chain ((Below.refl _ _).drew) b9); have p0 := keep1 D.out k0; have p1 := keep1 D.out k1; have p2 := keep1 D.out k2; have p3 := keep1 D.out k3; have p4 := keep1 D.out k4; have p5 := keep1 D.out k5; have p6 := keep1 D.out k6; have p7 := keep1 D.out k7; clear b9)
      | (go_at_call 60; (with_reducible refine (H_qp1p2.out _).mono ?_); rintro e y ⟨rfl, b9⟩; have D := Lib.hid (show Below x43.heap.size x43 y by first | exact chain D.out b9 | exact chain ((Below.refl _ _).drew) b9); have p0 := keep1 D.out k0; have p1 := keep1 D.out k1; have p2 := keep1 D.out k2; have p3 := keep1 D.out k3; have p4 := keep1 D.out k4; have p5 := keep1 D.out k5; have p6 := keep1 D.out k6; have p7 := keep1 D.out k7; clear b9)
      | fail)
  have TOT := Lib.hid (chain TOT.out D.out)
  clear T27 T28 k0 k1 k2 k3 k4 k5 k6 k7 p0 p1 p2 p3 p4 p5 p6 p7 D
  go_wp2
  go_ret
  exact ⟨rfl, TOT.out⟩
end Go.Proofs.YtlmklhffafcmmaaGreat

/- The law's functions short and valid. -/
namespace Go.Proofs.YtlmklhffafcmmaaGreat
open Go.RowKit

/-- A list of wide integers lies in a block. -/
def WL (w : World) (g : Nat) (L : List (Bool × ByteArray)) : Prop := ∀ k (h : k < L.length), w.cell? ⟨g, 2 * k, none⟩ = some (.bool L[k].1) ∧ w.cell? ⟨g, 2 * k + 1, none⟩ = some (.string L[k].2)
theorem WL.below {w w' : World} {g : Nat} {L : List (Bool × ByteArray)} (h : WL w g L) (b : Below w.heap.size w w') : WL w' g L := fun k hk => ⟨keep1 b (h k hk).1, keep1 b (h k hk).2⟩
theorem WL.one (w : World) (a : Bool) (s : ByteArray) (t : TypeId) : WL (w.alloc (.cells #[.bool a, .string s] t)) w.heap.size [(a, s)] := by
  intro k hk
  match k, hk with
  | 0, _ => exact ⟨by simp [go_sem], by simp [go_sem]⟩
theorem WL.two (w : World) (a b : Bool) (s t : ByteArray) (ty : TypeId) : WL (w.alloc (.cells #[.bool a, .string s, .bool b, .string t] ty)) w.heap.size [(a, s), (b, t)] := by
  intro k hk
  match k, hk with
  | 0, _ => exact ⟨by simp [go_sem], by simp [go_sem]⟩
  | 1, _ => exact ⟨by simp [go_sem], by simp [go_sem]⟩
def shortL (L : List (Bool × ByteArray)) : Bool := L.all fun x => decide (x.2.size ≤ 60)
def validL (L : List (Bool × ByteArray)) : Bool := L.all fun x => vld x.1 x.2
theorem all_false {L : List (Bool × ByteArray)} {p : Bool × ByteArray → Bool} {k : Nat} (hk : k < L.length) (h : p L[k] = false) : L.all p = false := by
  rw [List.all_eq_false]
  exact ⟨_, List.getElem_mem hk, by simp [h]⟩
theorem all_true {L : List (Bool × ByteArray)} {p : Bool × ByteArray → Bool} (h : ∀ k (hk : k < L.length), p L[k] = true) : L.all p = true := by
  rw [List.all_eq_true]
  intro x hx
  obtain ⟨k, hk, rfl⟩ := List.mem_iff_getElem.1 hx
  exact h k hk

set_option maxRecDepth 100000 in
set_option maxHeartbeats 2000000 in
theorem short_any (L : List (Bool × ByteArray)) (n g : Nat) (w : World) (hn : n = L.length) (hn4 : n ≤ 4) (h : WL w g L) :
    Calls Tryz.prog 7 #[.slice (some ⟨g, 0, none⟩) n n] w (BPost (shortL L) w) := by
  have HL := Lib.hid h
  have HN := Lib.hid hn
  have HE : Hid (shortL L = L.all fun x => decide (x.2.size ≤ 60)) := rfl
  generalize shortL L = res at *
  clear h hn
  go_enter Tryz.func7, Tryz.ntmps7
  go_wp2
  go_loopw [4, 7] (fun _ iv wr => ∃ (wz : World) (k : Nat), wz = wr ∧ k ≤ n ∧ iv = .int .i64 (k : Int) ∧ Hid (∀ j (hj : j < L.length), j < k → L[j].2.size ≤ 60) ∧ Hid (Below w.heap.size w wz))
    (fun _ iv _ => n - (intOf iv).toNat)
  case atStart => exact ⟨w, 0, rfl, Nat.zero_le _, rfl, fun j _ hj => absurd hj (Nat.not_lt_zero _), Below.refl _ _⟩
  case round =>
    obtain ⟨wz, k, rfl, hk, rfl, hall, hbl⟩ := hrel
    by_cases hlt : k < n
    · have hkl : k < L.length := by have h5 : n = L.length := HN.out; omega
      obtain ⟨a, s, hL⟩ : ∃ a s, L[k] = (a, s) := ⟨_, _, rfl⟩
      have c0 : wz.cell? ⟨g, k * 2, none⟩ = some (.bool a) := by
        rw [Nat.mul_comm k 2]
        have := ((HL.out.below hbl.out) k hkl).1
        simpa [hL] using this
      have c1 : wz.cell? ⟨g, k * 2 + 1, none⟩ = some (.string s) := by
        rw [Nat.mul_comm k 2]
        have := ((HL.out.below hbl.out) k hkl).2
        simpa [hL] using this
      have hall2 : Hid (∀ h : k < L.length, L[k].2.size ≤ 60 → ∀ j (hj : j < L.length), j < k + 1 → L[j].2.size ≤ 60) := by
        intro _ hs j hj hjk
        rcases Nat.lt_or_ge j k with g | g
        · exact hall.out j hj g
        · obtain rfl : j = k := by omega
          exact hs
      have hbad : Hid (∀ h : k < L.length, ¬ L[k].2.size ≤ 60 → res = false) := fun _ hs => by
        rw [HE.out]
        exact all_false hkl (by simpa using hs)
      have HKL := Lib.hid hkl
      have HS : Hid (∀ h : k < L.length, L[k].2 = s) := fun _ => by rw [hL]
      have hlw : Hid (g < wz.heap.size) := World.block_lt_of_cell? wz _ c0
      have f1 := hlw.out
      have f2 : ¬ wz.heap.size = g := by omega
      have f3 : ¬ g = wz.heap.size := by omega
      have HB2 := Lib.hid (hbl.out.alloc hbl.out.size (.cells #[.bool a, .string s] 23))
      clear hkl hL
      by_cases hsz : s.size ≤ 60
      · have hR := hall2.out HKL.out (by rw [HS.out HKL.out]; exact hsz)
        have HR := Lib.hid hR
        clear hR
        go_wp2
        go_roundw
        case rel => exact ⟨_, k + 1, rfl, by omega, by go_num, HR.out, HB2⟩
        case measure => simp [intOf]; omega
      · have hF := Lib.hid (hbad.out HKL.out (by rw [HS.out HKL.out]; exact hsz))
        go_wp2
        go_ret
        exact ⟨by rw [hF.out]; rfl, HB2.out⟩
    · have hT : Hid (res = true) := by
        show _ = _
        rw [HE.out]
        exact all_true fun j hj => by simpa using hall.out j hj (by have h5 : n = L.length := HN.out; omega)
      go_wp2
      go_ret
      exact ⟨by rw [hT.out]; rfl, hbl.out⟩
set_option maxRecDepth 100000 in
set_option maxHeartbeats 2000000 in
theorem valid_any (L : List (Bool × ByteArray)) (n g : Nat) (w : World) (hn : n = L.length) (hn4 : n ≤ 4) (h : WL w g L) (hz : ∀ x ∈ L, x.2.size ≤ 140737488351232) :
    Calls Tryz.prog 17 #[.slice (some ⟨g, 0, none⟩) n n] w (BPost (validL L) w) := by
  have HL := Lib.hid h
  have HV := Lib.hid (fun k (hk : k < L.length) w => rvalid_any L[k].1 L[k].2 w (hz _ (List.getElem_mem hk)))
  have HN := Lib.hid hn
  have HE : Hid (validL L = L.all fun x => vld x.1 x.2) := rfl
  generalize validL L = res at *
  clear h hn hz
  go_enter Tryz.func17, Tryz.ntmps17
  go_wp2
  go_loopw [4, 7] (fun _ iv wr => ∃ (wz : World) (k : Nat), wz = wr ∧ k ≤ n ∧ iv = .int .i64 (k : Int) ∧ Hid (∀ j (hj : j < L.length), j < k → vld L[j].1 L[j].2 = true) ∧ Hid (Below w.heap.size w wz))
    (fun _ iv _ => n - (intOf iv).toNat)
  case atStart => exact ⟨w, 0, rfl, Nat.zero_le _, rfl, fun j _ hj => absurd hj (Nat.not_lt_zero _), Below.refl _ _⟩
  case round =>
    obtain ⟨wz, k, rfl, hk, rfl, hall, hbl⟩ := hrel
    by_cases hlt : k < n
    · have hkl : k < L.length := by have h5 : n = L.length := HN.out; omega
      obtain ⟨a, s, hL⟩ : ∃ a s, L[k] = (a, s) := ⟨_, _, rfl⟩
      have c0 : wz.cell? ⟨g, k * 2, none⟩ = some (.bool a) := by
        rw [Nat.mul_comm k 2]
        have := ((HL.out.below hbl.out) k hkl).1
        simpa [hL] using this
      have c1 : wz.cell? ⟨g, k * 2 + 1, none⟩ = some (.string s) := by
        rw [Nat.mul_comm k 2]
        have := ((HL.out.below hbl.out) k hkl).2
        simpa [hL] using this
      have hall2 : Hid (∀ h : k < L.length, vld L[k].1 L[k].2 = true → ∀ j (hj : j < L.length), j < k + 1 → vld L[j].1 L[j].2 = true) := by
        intro _ hs j hj hjk
        rcases Nat.lt_or_ge j k with g | g
        · exact hall.out j hj g
        · obtain rfl : j = k := by omega
          exact hs
      have hbad : Hid (∀ h : k < L.length, ¬ vld L[k].1 L[k].2 = true → res = false) := fun _ hs => by
        rw [HE.out]
        exact all_false hkl (by simpa using hs)
      have HKL := Lib.hid hkl
      have HS : Hid (∀ h : k < L.length, vld L[k].1 L[k].2 = vld a s) := fun _ => by rw [hL]
      have HVk : Hid (∀ w, Calls Tryz.prog 64 #[.agg #[.bool a, .string s]] w (BPost (vld a s) w)) := by
        have := HV.out k hkl
        rw [hL] at this
        exact this
      have hlw : Hid (g < wz.heap.size) := World.block_lt_of_cell? wz _ c0
      have f1 := hlw.out
      have f2 : ¬ wz.heap.size = g := by omega
      have f3 : ¬ g = wz.heap.size := by omega
      have HB2 := Lib.hid (hbl.out.alloc hbl.out.size (.cells #[.bool a, .string s] 23))
      clear hkl hL
      by_cases hsz : vld a s = true
      · have hR := hall2.out HKL.out (by rw [HS.out HKL.out]; exact hsz)
        have HR := Lib.hid hR
        clear hR
        rw [hsz] at HVk
        go_wp2_with fail
        refine (HVk.out _).mono ?_
        rintro e w5 ⟨rfl, b5⟩
        have HB2 := Lib.hid (chain HB2.out b5)
        clear b5
        go_wp2
        go_roundw
        case rel => exact ⟨_, k + 1, rfl, by omega, by go_num, HR.out, HB2⟩
        case measure => simp [intOf]; omega
      · have hF := Lib.hid (hbad.out HKL.out (by rw [HS.out HKL.out]; exact hsz))
        rw [Bool.not_eq_true] at hsz
        rw [hsz] at HVk
        go_wp2_with fail
        refine (HVk.out _).mono ?_
        rintro e w5 ⟨rfl, b5⟩
        have HB2 := Lib.hid (chain HB2.out b5)
        clear b5
        go_wp2
        go_ret
        exact ⟨by rw [hF.out]; rfl, HB2.out⟩
    · have hT : Hid (res = true) := by
        show _ = _
        rw [HE.out]
        exact all_true fun j hj => by simpa using hall.out j hj (by have h5 : n = L.length := HN.out; omega)
      go_wp2
      go_ret
      exact ⟨by rw [hT.out]; rfl, hbl.out⟩
end Go.Proofs.YtlmklhffafcmmaaGreat

/- The law WideInts gives true. -/
namespace Go.Proofs.YtlmklhffafcmmaaGreat
open Go.RowKit

theorem sg_z (z : Int) : sg (zb z) z.natAbs = z := by
  unfold sg zb
  by_cases h : z < 0
  · rw [decide_eq_true h, if_pos rfl]; omega
  · rw [decide_eq_false h, if_neg (by simp)]; omega
theorem zb_sg {a : Bool} {s : ByteArray} (h : vld a s = true) : zb (sg a (bv s)) = a ∧ zs (sg a (bv s)) = s := by
  have hc := vld_can h
  have e1 : (sg a (bv s)).natAbs = bv s := by unfold sg; split <;> omega
  refine ⟨?_, by rw [zs, e1, bs_bv hc]⟩
  unfold sg zb
  cases a with
  | false => rw [if_neg (by simp)]; exact decide_eq_false (by omega)
  | true =>
    rw [if_pos rfl]
    have h0 : 0 < s.size := by
      rcases Nat.eq_zero_or_pos s.size with h0 | h0
      · unfold vld at h; rw [dif_neg (by omega)] at h; simp at h
      · exact h0
    have : bv s ≠ 0 := fun h1 => by have := (bv_zero_iff hc).1 h1; omega
    exact decide_eq_true (by omega)
theorem int_z (n : Int) (w : World) (h1 : -9223372036854775808 ≤ n) (h2 : n ≤ 9223372036854775807) : Calls Tryz.prog 51 #[.agg #[.bool (zb n), .string (zs n)]] w (Ret (.tuple #[.int .i64 n, .int .i64 0]) w) := by
  have h := Int_valid (zb n) (zs n) w (zv (by unfold W; omega))
  unfold IntWPost at h
  rw [bv_zs, sg_z, if_pos ⟨h1, h2⟩, if_pos ⟨h1, h2⟩] at h
  exact h
theorem short_false {a : Bool} {s : ByteArray} (h : ¬ s.size ≤ 60) : shortL [(a, s)] = false := by simp [shortL, h]
theorem short_true {a : Bool} {s : ByteArray} (h : s.size ≤ 60) : shortL [(a, s)] = true := by simp [shortL, h]

end Go.Proofs.YtlmklhffafcmmaaGreat

/- The law WideValid gives true. -/
namespace Go.Proofs.YtlmklhffafcmmaaGreat
open Go.RowKit

theorem sgV_sg {a : Bool} {s : ByteArray} (h : vld a s = true) : sgV a s = (sg a (bv s)).sign := by
  have h1 := zb_sg h
  have h2 : (sg a (bv s)).natAbs < Top := by
    have e1 : (sg a (bv s)).natAbs = bv s := by unfold sg; split <;> omega
    rw [e1]
    exact bv_lt h
  have h3 := sgV_z h2
  rwa [h1.1, h1.2] at h3
theorem sgV_bad {a : Bool} {s : ByteArray} (h : vld a s = false) : sgV a s = 0 := by unfold sgV; rw [h]; simp
theorem lenV_bad {a : Bool} {s : ByteArray} (h : vld a s = false) : lenV a s = 0 := by unfold lenV; rw [h]; simp
theorem lenV_ok {a : Bool} {s : ByteArray} (h : vld a s = true) : lenV a s = lenB s := by unfold lenV; rw [h]; simp
theorem cmpN_sign (m n : Nat) : cmpN m n = ((m : Int) - n).sign := by
  unfold cmpN
  split
  · rw [Int.sign_eq_neg_one_of_neg (by omega)]
  · split
    · rw [Int.sign_eq_one_of_pos (by omega)]
    · rw [show (m : Int) - n = 0 by omega]; rfl
theorem pos_of_neg {s : ByteArray} (h : vld true s = true) : 0 < bv s := by
  have h0 : 0 < s.size := by
    rcases Nat.eq_zero_or_pos s.size with h0 | h0
    · unfold vld at h; rw [dif_neg (by omega)] at h; simp at h
    · exact h0
  have : bv s ≠ 0 := fun h1 => by have := (bv_zero_iff (vld_can h)).1 h1; omega
  omega
theorem cmpV_sg {a b : Bool} {s t : ByteArray} (h1 : vld a s = true) (h2 : vld b t = true) : cmpV a s b t = (sg a (bv s) - sg b (bv t)).sign := by
  cases a with
  | false =>
    cases b with
    | false => simp only [cmpV, sg]; rw [cmpN_sign]; simp
    | true =>
      have := pos_of_neg h2
      simp only [cmpV, sg]
      rw [if_neg (by simp), if_pos trivial, Int.sign_eq_one_of_pos (by omega)]
  | true =>
    have := pos_of_neg h1
    cases b with
    | false =>
      simp only [cmpV, sg]
      rw [if_pos trivial, if_neg (by simp), Int.sign_eq_neg_one_of_neg (by omega)]
    | true =>
      simp only [cmpV, sg]
      rw [cmpN_sign, if_pos trivial, if_pos trivial]
      congr 1
      omega
theorem short2_false {a b : Bool} {s t : ByteArray} (h : ¬ (s.size ≤ 60 ∧ t.size ≤ 60)) : shortL [(a, s), (b, t)] = false := by
  simp only [shortL, List.all_cons, List.all_nil, Bool.and_true]
  by_cases h1 : s.size ≤ 60
  · have h2 : ¬ t.size ≤ 60 := fun h2 => h ⟨h1, h2⟩
    simp [h2]
  · simp [h1]
theorem short2_true {a b : Bool} {s t : ByteArray} (h1 : s.size ≤ 60) (h2 : t.size ≤ 60) : shortL [(a, s), (b, t)] = true := by simp [shortL, h1, h2]
theorem lz60 {a : Bool} {s : ByteArray} (hs : s.size ≤ 60) : (Nm.dg D9 (sg a (bv s)).natAbs).length ≤ 1000000 := by
  have e1 : (sg a (bv s)).natAbs = bv s := by unfold sg; split <;> omega
  rw [e1]
  have h5 := Nm.val_lt (dig_rev s)
  rw [rev_length] at h5
  exact Nat.le_trans (dg9_256 (Nat.lt_of_lt_of_le h5 (Nat.pow_le_pow_right (by decide) hs))) (by decide)
theorem rcompare60 {a b : Bool} {s t : ByteArray} (h1 : vld a s = true) (h2 : vld b t = true) (z1 : s.size ≤ 60) (z2 : t.size ≤ 60) (v1 v2 : Value) (w : World) (g1 : Rz w v1 (sg a (bv s))) (g2 : Rz w v2 (sg b (bv t))) :
    Calls Tryz.prog 87 #[iV (sg a (bv s)) v1, iV (sg b (bv t)) v2] w (SignPost (cmpV a s b t) w) := by
  have h := rcompare_int _ _ v1 v2 w g1 g2 (lz60 z1) (lz60 z2)
  rwa [← cmpV_sg h1 h2] at h
theorem cmpV_swap {a b : Bool} {s t : ByteArray} (h1 : vld a s = true) (h2 : vld b t = true) : cmpV b t a s = -cmpV a s b t := by
  rw [cmpV_sg h1 h2, cmpV_sg h2 h1, ← Int.sign_neg]
  congr 1
  omega
theorem rbits60 {a : Bool} {s : ByteArray} (h : vld a s = true) (z1 : s.size ≤ 60) (v : Value) (w : World) (g : Rz w v (sg a (bv s))) :
    Calls Tryz.prog 105 #[iV (sg a (bv s)) v] w (IPost (lenB s) w) := by
  have e := (zb_sg h).2
  have h := rbits_int _ v w g (lz60 z1) (by rw [e]; omega)
  rwa [e] at h
theorem rsignV {a : Bool} {s : ByteArray} (h : vld a s = true) (v : Value) (w : World) (g : Rz w v (sg a (bv s))) :
    Calls Tryz.prog 19 #[iV (sg a (bv s)) v] w (SignPost (sgV a s) w) := by
  have h2 := rsign_int _ v w g
  rwa [← sgV_sg h] at h2

end Go.Proofs.YtlmklhffafcmmaaGreat

/- The function wide.Sub. -/
namespace Go.Proofs.YtlmklhffafcmmaaGreat
open Go.RowKit

set_option maxRecDepth 100000 in
set_option maxHeartbeats 1000000 in
theorem Sub_valid (a b : Bool) (s t : ByteArray) (w : World) (hv1 : vld a s = true) (hv2 : vld b t = true) :
    Calls Tryz.prog 159 #[.agg #[.bool a, .string s], .agg #[.bool b, .string t]] w (WPost (wres (pls a (bv s) (!b) (bv t)).1 (pls a (bv s) (!b) (bv t)).2) (werr (pls a (bv s) (!b) (bv t)).2) w) := by
  have z1 := vld_size hv1
  have z2 := vld_size hv2
  have HV1 := Valid_any a s
  have HV2 := Valid_any b t
  rw [hv1] at HV1
  rw [hv2] at HV2
  have HA := Lib.hid (fun w => HV1 w (by omega))
  have HB := Lib.hid (fun w => HV2 w (by omega))
  have HR1 := Lib.hid (fun w => read_any a s w (by omega) (vld_can hv1))
  have HR2 := Lib.hid (fun w => read_any b t w (by omega) (vld_can hv2))
  have t1 := bv_lt hv1
  have t2 := bv_lt hv2
  have HP := Lib.hid (fun v1 v2 w h1 h2 => plus_any a (!b) v1 v2 (bv s) (bv t) w h1 h2 (Nat.le_trans (len_top t1) (by decide)) (Nat.le_trans (len_top t2) (by decide)))
  have HW := Lib.hid (fun v w h => write_any (pls a (bv s) (!b) (bv t)).1 v (pls a (bv s) (!b) (bv t)).2 w h (Nat.le_trans (len_top2 (pls_lt t1 t2)) (by decide)))
  obtain ⟨rb, rs, hr⟩ := wres_form (pls a (bv s) (!b) (bv t)).1 (pls a (bv s) (!b) (bv t)).2
  rw [hr] at HW ⊢
  clear hr HV1 HV2 hv1 hv2 t1 t2
  generalize (pls a (bv s) (!b) (bv t)).1 = ra at *
  generalize (pls a (bv s) (!b) (bv t)).2 = rm at *
  generalize bv s = m at *
  generalize bv t = n at *
  generalize werr rm = rc at *
  go_enter Tryz.func159, Tryz.ntmps159
  go_wp2_with fail
  obtain ⟨w0, hw0⟩ : ∃ w0 : World, w0 = ((w.alloc (.cells #[.bool a, .string s] 23)).alloc (.cells #[.bool b, .string t] 23)).alloc (.cells #[.bool false, .string ⟨#[]⟩] 23) := ⟨_, rfl⟩
  have hb0 : Hid (Below w.heap.size w w0) := by rw [hw0]; exact (((Below.refl _ _).alloc (Nat.le_refl _) _).alloc (by simp) _).alloc (by simp; omega) _
  have k0 : w0.cell? ⟨w.heap.size, 0, none⟩ = some (.bool a) := by rw [hw0]; simp [go_sem]
  have k1 : w0.cell? ⟨w.heap.size, 1, none⟩ = some (.string s) := by rw [hw0]; simp [go_sem]
  have k2 : w0.cell? ⟨w.heap.size + 1, 0, none⟩ = some (.bool b) := by rw [hw0]; simp [go_sem]
  have k3 : w0.cell? ⟨w.heap.size + 1, 1, none⟩ = some (.string t) := by rw [hw0]; simp [go_sem]
  have k4 : w0.cell? ⟨w.heap.size + 1 + 1, 0, none⟩ = some (.bool false) := by rw [hw0]; simp [go_sem]
  have k5 : w0.cell? ⟨w.heap.size + 1 + 1, 1, none⟩ = some (.string ⟨#[]⟩) := by rw [hw0]; simp [go_sem]
  have k6 : w0.frozen? ⟨w.heap.size + 1 + 1, 0, none⟩ = false := by rw [hw0]; simp [go_sem]
  have k7 : w0.frozen? ⟨w.heap.size + 1 + 1, 1, none⟩ = false := by rw [hw0]; simp [go_sem]
  have hsz : w0.heap.size = w.heap.size + 3 := by rw [hw0]; simp
  rw [← hw0]
  have KK := Lib.hid (And.intro k0 (And.intro k1 (And.intro k2 (And.intro k3 (And.intro k4 (And.intro k5 (And.intro k6 k7)))))))
  have Hsz := Lib.hid hsz
  clear k0 k1 k2 k3 k4 k5 k6 k7 hw0 hsz
  refine (HA.out _).mono ?_
  rintro e wa ⟨rfl, hba⟩
  have q2 := keep1 hba KK.out.2.2.1
  have q3 := keep1 hba KK.out.2.2.2.1
  have HBa := Lib.hid hba
  clear hba
  go_wp2_with fail
  refine (HB.out _).mono ?_
  rintro e wb ⟨rfl, hbb⟩
  have hbc := chain HBa.out hbb
  have k0 := keep1 hbc KK.out.1
  have k1 := keep1 hbc KK.out.2.1
  have k2 := keep1 hbc KK.out.2.2.1
  have k3 := keep1 hbc KK.out.2.2.2.1
  have k4 := keep1 hbc KK.out.2.2.2.2.1
  have k5 := keep1 hbc KK.out.2.2.2.2.2.1
  have k6 := keepf hbc KK.out.2.2.2.2.1 KK.out.2.2.2.2.2.2.1
  have k7 := keepf hbc KK.out.2.2.2.2.2.1 KK.out.2.2.2.2.2.2.2
  have HBc := Lib.hid hbc
  have n1 : ¬ (w.heap.size = w.heap.size + 1 + 1) := by omega
  have n2 : ¬ (w.heap.size + 1 + 1 = w.heap.size) := by omega
  clear q2 q3 hbb hbc
  go_wp2_with fail
  go_region_held3 (fun W' => W'.cell? ⟨w.heap.size, 0, none⟩ = some (.bool a) ∧ W'.cell? ⟨w.heap.size, 1, none⟩ = some (.string s) ∧ W'.cell? ⟨w.heap.size + 1, 0, none⟩ = some (.bool b) ∧ W'.cell? ⟨w.heap.size + 1, 1, none⟩ = some (.string t)) (go_keep)
    (first
      | (go_at_call 63; (with_reducible refine (HR1.out _).mono ?_); rintro e w1 ⟨v1, rfl, r1, b1⟩; have c1 := chain ((Below.refl _ _).drew) b1; have p0 := keep1 c1 k0; have p1 := keep1 c1 k1; have p2 := keep1 c1 k2; have p3 := keep1 c1 k3; have G1 := Lib.hid (And.intro r1 c1); clear r1 b1 c1)
      | (go_at_call 63; (with_reducible refine (HR2.out _).mono ?_); rintro e w2 ⟨v2, rfl, r2, b2⟩; have c2 := chain G1.out.2 b2; have p0 := keep1 c2 k0; have p1 := keep1 c2 k1; have p2 := keep1 c2 k2; have p3 := keep1 c2 k3; have G2 := Lib.hid (And.intro (G1.out.1.below b2 (Nat.le_refl _)) (And.intro r2 c2)); clear r2 b2 c2)
      | (go_at_call 85; (with_reducible refine (negative_any _ _ _ _ G2.out.2.1).mono ?_); rintro e w5 ⟨v5, rfl, r5, b5⟩; have c5 := chain G2.out.2.2 b5; have p0 := keep1 c5 k0; have p1 := keep1 c5 k1; have p2 := keep1 c5 k2; have p3 := keep1 c5 k3; have G5 := Lib.hid (And.intro (G2.out.1.below b5 (Nat.le_refl _)) (And.intro r5 c5)); clear r5 b5 c5)
      | (go_at_call 82; (with_reducible refine (HP.out _ _ _ G5.out.1 G5.out.2.1).mono ?_); rintro e w3 ⟨v3, rfl, r3, b3⟩; have c3 := chain G5.out.2.2 b3; have p0 := keep1 c3 k0; have p1 := keep1 c3 k1; have p2 := keep1 c3 k2; have p3 := keep1 c3 k3; have G3 := Lib.hid (And.intro r3 c3); clear r3 b3 c3)
      | (go_at_call 118; (with_reducible refine (HW.out _ _ G3.out.1).mono ?_); rintro e w4 ⟨rfl, b4⟩; have c4 := chain G3.out.2 b4; have p0 := keep1 c4 k0; have p1 := keep1 c4 k1; have p2 := keep1 c4 k2; have p3 := keep1 c4 k3; have p4 := keep1 c4 k4; have p5 := keep1 c4 k5; have p6 := keepf c4 k4 k6; have p7 := keepf c4 k5 k7; have G4 := Lib.hid c4; clear b4 c4))
  have HZ := Lib.hid (((chain (chain hb0.out HBc.out) G4.out).setCell (p := ⟨w.heap.size + 1 + 1, 0, none⟩) (by simp; omega) (.bool rb)).setCell (p := ⟨w.heap.size + 1 + 1, 1, none⟩) (by simp; omega) (.string rs))
  go_wp2
  exact bodyPost_ret (v := .tuple #[.agg #[.bool rb, .string rs], .int .i64 rc]) (by simp [results, Tryz.results159, go_sem, p4, p5]) rfl ⟨rfl, HZ.out⟩

set_option maxRecDepth 100000 in
set_option maxHeartbeats 1000000 in
theorem Sub_invalid (a b : Bool) (s t : ByteArray) (w : World) (z1 : s.size ≤ 140737488351232) (z2 : t.size ≤ 140737488351232) (hv : (vld a s && vld b t) = false) :
    Calls Tryz.prog 159 #[.agg #[.bool a, .string s], .agg #[.bool b, .string t]] w (WPost (wd false 0) 2 w) := by
  have HA := Lib.hid (fun w => Valid_any a s w z1)
  have HB := Lib.hid (fun w => Valid_any b t w z2)
  cases h1 : vld a s with
  | false =>
    rw [h1] at HA
    clear h1 hv
    go_enter Tryz.func159, Tryz.ntmps159
    go_wp2_with fail
    refine (HA.out _).mono ?_
    rintro e wa ⟨rfl, hba⟩
    have k4 := keep1 hba (p := ⟨w.heap.size + 1 + 1, 0, none⟩) (v := .bool false) (by simp [go_sem])
    have k5 := keep1 hba (p := ⟨w.heap.size + 1 + 1, 1, none⟩) (v := .string ⟨#[]⟩) (by simp [go_sem])
    have k6 := keepf hba (p := ⟨w.heap.size + 1 + 1, 0, none⟩) (v := .bool false) (by simp [go_sem]) (by simp [go_sem])
    have k7 := keepf hba (p := ⟨w.heap.size + 1 + 1, 1, none⟩) (v := .string ⟨#[]⟩) (by simp [go_sem]) (by simp [go_sem])
    have HZ := Lib.hid (((chain ((((Below.refl w.heap.size w).alloc (Nat.le_refl _) _).alloc (by simp) _).alloc (by simp; omega) _) hba).setCell (p := ⟨w.heap.size + 1 + 1, 0, none⟩) (by simp; omega) (.bool false)).setCell (p := ⟨w.heap.size + 1 + 1, 1, none⟩) (by simp; omega) (.string ⟨#[]⟩))
    clear hba
    go_wp2
    exact bodyPost_ret (v := .tuple #[.agg #[.bool false, .string ⟨#[]⟩], .int .i64 2]) (by simp [results, Tryz.results159, go_sem, k4, k5]) rfl ⟨by rw [wd, bs_zero]; simp, HZ.out⟩
  | true =>
    have h2 : vld b t = false := by rw [h1] at hv; simpa using hv
    rw [h1] at HA
    rw [h2] at HB
    clear h1 hv h2
    go_enter Tryz.func159, Tryz.ntmps159
    go_wp2_with fail
    refine (HA.out _).mono ?_
    rintro e wa ⟨rfl, hba⟩
    have k2 := keep1 hba (p := ⟨w.heap.size + 1, 0, none⟩) (v := .bool b) (by simp [go_sem])
    have k3 := keep1 hba (p := ⟨w.heap.size + 1, 1, none⟩) (v := .string t) (by simp [go_sem])
    have j4 := keep1 hba (p := ⟨w.heap.size + 1 + 1, 0, none⟩) (v := .bool false) (by simp [go_sem])
    have j5 := keep1 hba (p := ⟨w.heap.size + 1 + 1, 1, none⟩) (v := .string ⟨#[]⟩) (by simp [go_sem])
    have j6 := keepf hba (p := ⟨w.heap.size + 1 + 1, 0, none⟩) (v := .bool false) (by simp [go_sem]) (by simp [go_sem])
    have j7 := keepf hba (p := ⟨w.heap.size + 1 + 1, 1, none⟩) (v := .string ⟨#[]⟩) (by simp [go_sem]) (by simp [go_sem])
    have HBa := Lib.hid (chain ((((Below.refl w.heap.size w).alloc (Nat.le_refl _) _).alloc (by simp) _).alloc (by simp; omega) _) hba)
    have J := Lib.hid (And.intro j4 (And.intro j5 (And.intro j6 j7)))
    clear hba j4 j5 j6 j7
    go_wp2_with fail
    refine (HB.out _).mono ?_
    rintro e wb ⟨rfl, hbb⟩
    have k4 := keep1 hbb J.out.1
    have k5 := keep1 hbb J.out.2.1
    have k6 := keepf hbb J.out.1 J.out.2.2.1
    have k7 := keepf hbb J.out.2.1 J.out.2.2.2
    have HZ := Lib.hid (((chain HBa.out hbb).setCell (p := ⟨w.heap.size + 1 + 1, 0, none⟩) (by simp; omega) (.bool false)).setCell (p := ⟨w.heap.size + 1 + 1, 1, none⟩) (by simp; omega) (.string ⟨#[]⟩))
    clear hbb k2 k3
    go_wp2
    exact bodyPost_ret (v := .tuple #[.agg #[.bool false, .string ⟨#[]⟩], .int .i64 2]) (by simp [results, Tryz.results159, go_sem, k4, k5]) rfl ⟨by rw [wd, bs_zero]; simp, HZ.out⟩
end Go.Proofs.YtlmklhffafcmmaaGreat

/- The law WideSums gives true. -/
namespace Go.Proofs.YtlmklhffafcmmaaGreat
open Go.RowKit

theorem lt_topk {n k : Nat} (hk : 8 * k ≤ 65536) (h : n < 256 ^ k) : n < Top := by
  rw [pow_256] at h
  exact Nat.lt_of_lt_of_le h (Nat.pow_le_pow_right (by decide) (by rw [TopBits_eq]; exact hk))
theorem lt61 {n : Nat} (h : n < 256 ^ 61) : n < Top := lt_topk (by decide) h
theorem wd_sg (a : Bool) (m : Nat) : wd a m = .agg #[.bool (zb (sg a m)), .string (zs (sg a m))] := by
  have e1 : (sg a m).natAbs = m := by unfold sg; split <;> omega
  have e2 : zb (sg a m) = (a && decide (m ≠ 0)) := by
    unfold zb sg
    cases a with
    | false => rw [if_neg (by simp), Bool.false_and]; exact decide_eq_false (by omega)
    | true =>
      rw [if_pos rfl, Bool.true_and]
      by_cases h : m = 0
      · subst h; rfl
      · rw [decide_eq_true (by omega : -(m : Int) < 0), decide_eq_true h]
  rw [wd, zs, e1, e2]
theorem pls_sg (a b : Bool) (m n : Nat) : sg (pls a m b n).1 (pls a m b n).2 = sg a m + sg b n := by
  unfold pls
  split
  · next h => subst h; cases a <;> simp [sg]; omega
  · next h =>
    split
    · cases a <;> cases b <;> simp_all [sg] <;> omega
    · cases a <;> cases b <;> simp_all [sg] <;> omega
theorem pls_le (a b : Bool) (m n : Nat) : (pls a m b n).2 ≤ m + n := by
  unfold pls
  split
  · exact Nat.le_refl _
  · split
    · show n - m ≤ m + n; omega
    · show m - n ≤ m + n; omega
theorem sg_not (a : Bool) (m : Nat) : sg (!a) m = -(sg a m) := by cases a <;> simp [sg]
theorem bv60 {s : ByteArray} {k : Nat} (hk : k = 60) (hs : s.size ≤ 60) : bv s < 256 ^ k := by
  subst hk
  have h5 := Nm.val_lt (dig_rev s)
  rw [rev_length] at h5
  exact Nat.lt_of_lt_of_le h5 (Nat.pow_le_pow_right (by decide) hs)
theorem sum61 {m n j k : Nat} (hj : j = 60) (hk : k = 61) (h1 : m < 256 ^ j) (h2 : n < 256 ^ j) : m + n < 256 ^ k := by
  subst hk
  subst hj
  have : (256 : Nat) ^ 61 = 256 * 256 ^ 60 := by rw [Nat.pow_succ, Nat.mul_comm]
  rw [this]
  generalize (256 : Nat) ^ 60 = p at *
  omega
/-- The size of a sum of two short integers. -/
theorem sum_small {a b : Bool} {s t : ByteArray} (z1 : s.size ≤ 60) (z2 : t.size ≤ 60) (z : Int) (hz : z.natAbs ≤ bv s + bv t) : z.natAbs < Top ∧ (Nm.dg D9 z.natAbs).length ≤ 1000000 ∧ (zs z).size ≤ 8192 := by
  have h := sum61 rfl rfl (bv60 rfl z1) (bv60 rfl z2)
  have h2 : z.natAbs < 256 ^ 61 := Nat.lt_of_le_of_lt hz h
  exact ⟨lt61 h2, Nat.le_trans (dg9_256 h2) (by decide), zs_size (lt61 h2)⟩
theorem add_z {a b : Bool} {s t : ByteArray} (h1 : vld a s = true) (h2 : vld b t = true) (z1 : s.size ≤ 60) (z2 : t.size ≤ 60) (w : World) :
    Calls Tryz.prog 158 #[.agg #[.bool a, .string s], .agg #[.bool b, .string t]] w fun e w' => e = .returned (.tuple #[.agg #[.bool (zb (sg a (bv s) + sg b (bv t))), .string (zs (sg a (bv s) + sg b (bv t)))], .int .i64 0]) ∧ Below w.heap.size w w' := by
  have h := Add_valid a b s t w h1 h2
  have ht : (pls a (bv s) b (bv t)).2 < Top := lt61 (Nat.lt_of_le_of_lt (pls_le a b (bv s) (bv t)) (sum61 rfl rfl (bv60 rfl z1) (bv60 rfl z2)))
  unfold WPost at h
  rwa [wres_ok _ ht, werr_ok ht, wd_sg, pls_sg] at h
theorem sub_z {a b : Bool} {s t : ByteArray} (h1 : vld a s = true) (h2 : vld b t = true) (z1 : s.size ≤ 60) (z2 : t.size ≤ 60) (w : World) :
    Calls Tryz.prog 159 #[.agg #[.bool a, .string s], .agg #[.bool b, .string t]] w fun e w' => e = .returned (.tuple #[.agg #[.bool (zb (sg a (bv s) - sg b (bv t))), .string (zs (sg a (bv s) - sg b (bv t)))], .int .i64 0]) ∧ Below w.heap.size w w' := by
  have h := Sub_valid a b s t w h1 h2
  have ht : (pls a (bv s) (!b) (bv t)).2 < Top := lt61 (Nat.lt_of_le_of_lt (pls_le a (!b) (bv s) (bv t)) (sum61 rfl rfl (bv60 rfl z1) (bv60 rfl z2)))
  unfold WPost at h
  rw [wres_ok _ ht, werr_ok ht, wd_sg, pls_sg, sg_not, ← Int.sub_eq_add_neg] at h
  exact h
theorem sg_abs (a : Bool) (m : Nat) : (sg a m).natAbs = m := by unfold sg; split <;> omega
theorem is_z {a b : Bool} {s t : ByteArray} (z1 : s.size ≤ 60) (z2 : t.size ≤ 60) (z : Int) (hz : z.natAbs ≤ bv s + bv t) (v : Value) (w : World) (h : Rz w v z) :
    Calls Tryz.prog 21 #[.agg #[.bool (zb z), .string (zs z)], .int .i64 0, iV z v] w (BPost true w) := by
  obtain ⟨_, l1, l2⟩ := sum_small (a := a) (b := b) z1 z2 z hz
  exact is_true z v w h l1 l2

theorem WL.drew {w : World} {g : Nat} {L : List (Bool × ByteArray)} (h : WL w g L) : WL w.drew g L := h
theorem far7 {a x : Nat} (h : a + 3 ≤ x) : ¬(x = a) ∧ ¬(x = a+1) ∧ ¬(a = x) ∧ ¬(a+1 = x) ∧ ¬(x+1 = a) ∧ ¬(a = x+1) ∧ a < x ∧ a+1 < x := ⟨by omega, by omega, by omega, by omega, by omega, by omega, by omega, by omega⟩
def CutI (x1 x2 s1 s2 : Value) (X1 X2 : List Nat) (B : Nat) (wb wx : World) (g7 g8 : Nat) : Prop := (B ≤ g7 ∧ B ≤ g8) ∧ ZC x1 s1 wx g7 ∧ ZC x2 s2 wx g8 ∧ Ri wx s1 X1 ∧ Ri wx s2 X2 ∧ Below B wb wx
theorem Ri.setz {w : World} {v : Value} {xs : List Nat} {b0 : Bool} {p : Option Addr} {n c : Nat} {g : Nat} (h : Ri w v xs) (z : ZC (.bool b0) (.slice p n c) w g) (u u' : Value) : Ri ((w.setCell ⟨g, 0, none⟩ u).setCell ⟨g, 1, none⟩ u') v xs := h.set2 z.1 z.2.1 (fun _ => by simp)
section
variable {x1 x2 e1 e2 u1 u2 : Value} {X1 X2 : List Nat} {B : Nat} {wb w3 : World} {t : TypeId} {b0 b1 : Bool} {p p' : Option Addr} {n c n' c' g g' : Nat}
theorem CutI.s1 (r1 : Ri w3 e1 X1) (r2 : Ri w3 e2 X2) (b : Below B wb w3) (hB : B ≤ w3.heap.size) : CutI x1 x2 e1 e2 X1 X2 B wb ((w3.alloc (.cells #[x1, e1] t)).alloc (.cells #[x2, e2] t)) w3.heap.size (w3.heap.size + 1) :=
  ⟨⟨hB, by omega⟩, (ZC.new rfl).alloc _, ZC.new (by simp), (r1.allocd _).allocd _, (r2.allocd _).allocd _, (b.alloc hB _).alloc (by simp; omega) _⟩
theorem CutI.s2 (r1 : Ri w3 e1 X1) (r2 : Ri w3 e2 X2) (b : Below B wb w3) (hB : B ≤ w3.heap.size) : CutI x1 x2 e1 e2 X1 X2 B wb ((w3.alloc (.cells #[x2, e2] t)).alloc (.cells #[x1, e1] t)) (w3.heap.size + 1) w3.heap.size :=
  ⟨⟨by omega, hB⟩, ZC.new (by simp), (ZC.new rfl).alloc _, (r1.allocd _).allocd _, (r2.allocd _).allocd _, (b.alloc hB _).alloc (by simp; omega) _⟩
theorem CutI.s3 (z : ZC (.bool b0) (.slice p n c) w3 g) (hg : B ≤ g) (r1 : Ri w3 e1 X1) (r2 : Ri w3 e2 X2) (b : Below B wb w3) (hB : B ≤ w3.heap.size) :
    CutI x1 x2 e1 e2 X1 X2 B wb (((w3.setCell ⟨g, 0, none⟩ x1).setCell ⟨g, 1, none⟩ e1).alloc (.cells #[x2, e2] t)) g w3.heap.size :=
  ⟨⟨hg, hB⟩, z.set.alloc _, ZC.new (by simp), (r1.setz z _ _).allocd _, (r2.setz z _ _).allocd _, (below_set2 b hg _ _).alloc (by simpa using hB) _⟩
theorem CutI.s4 (z : ZC (.bool b0) (.slice p n c) w3 g) (hg : B ≤ g) (r1 : Ri w3 e1 X1) (r2 : Ri w3 e2 X2) (b : Below B wb w3) (hB : B ≤ w3.heap.size) :
    CutI x1 x2 e1 e2 X1 X2 B wb (((w3.setCell ⟨g, 0, none⟩ x2).setCell ⟨g, 1, none⟩ e2).alloc (.cells #[x1, e1] t)) w3.heap.size g :=
  ⟨⟨hB, hg⟩, ZC.new (by simp), z.set.alloc _, (r1.setz z _ _).allocd _, (r2.setz z _ _).allocd _, (below_set2 b hg _ _).alloc (by simpa using hB) _⟩
theorem CutI.s5 (z : ZC (.bool b0) (.slice p n c) w3 g) (hg : B ≤ g) (z' : ZC (.bool b1) (.slice p' n' c') w3 g') (hg' : B ≤ g') (hn : ¬ g = g') (r1 : Ri w3 e1 X1) (r2 : Ri w3 e2 X2) (b : Below B wb w3) :
    CutI x1 x2 e1 e2 X1 X2 B wb ((((w3.setCell ⟨g, 0, none⟩ x1).setCell ⟨g, 1, none⟩ e1).setCell ⟨g', 0, none⟩ x2).setCell ⟨g', 1, none⟩ e2) g g' :=
  have zz := z'.other (u := x1) (v := e1) (fun e => hn e.symm)
  ⟨⟨hg, hg'⟩, z.set.other hn, zz.set, (r1.setz z _ _).setz zz _ _, (r2.setz z _ _).setz zz _ _, below_set2 (below_set2 b hg _ _) hg' _ _⟩
end

theorem wd_none : wd false 0 = .agg #[.bool false, .string ⟨#[]⟩] := by rw [wd, bs_zero]; simp

end Go.Proofs.YtlmklhffafcmmaaGreat

/- The law WideShifts gives true. -/
namespace Go.Proofs.YtlmklhffafcmmaaGreat
open Go.RowKit

theorem sg_shd (a : Bool) (m k : Nat) (h : a = true → 0 < m) : sg a (shd a m k) = sg a m / 2 ^ k := by
  have hp : (0 : Int) < ((2 ^ k : Nat) : Int) := by have := Nat.pow_pos (n := k) (show 0 < 2 by decide); omega
  have e2 : ((2 ^ k : Nat) : Int) = (2 : Int) ^ k := by simp
  rw [← e2]
  unfold sg shd
  cases a with
  | false => simp
  | true =>
    have hm := h rfl
    simp only [if_true]
    have hd := Nat.div_add_mod (m - 1) (2 ^ k)
    have hr := Nat.mod_lt (m - 1) (Nat.pow_pos (n := k) (show 0 < 2 by decide))
    generalize (m - 1) / 2 ^ k = q at *
    generalize (m - 1) % 2 ^ k = r at *
    generalize 2 ^ k = p at *
    have h3 : -(m : Int) = ((p : Int) - 1 - r) + p * (-((q + 1 : Nat) : Int)) := by
      have : ((p * q : Nat) : Int) = (p : Int) * (q : Int) := Int.natCast_mul _ _
      have h4 : (p : Int) * (-((q + 1 : Nat) : Int)) = -((p * q : Nat) : Int) - p := by push_cast; grind
      rw [h4]
      omega
    rw [h3, Int.add_mul_ediv_left _ _ (by omega), Int.ediv_eq_zero_of_lt (by omega) (by omega), Int.zero_add]
theorem shd_le (a : Bool) (m k : Nat) (h : a = true → 0 < m) : shd a m k ≤ m := by
  unfold shd
  split
  · next g =>
    have := h g
    have h2 := Nat.div_le_self (m - 1) (2 ^ k)
    omega
  · exact Nat.div_le_self _ _
theorem pos_sgn {a : Bool} {s : ByteArray} (h : vld a s = true) : a = true → 0 < bv s := by
  intro ha
  subst ha
  have hc := vld_can h
  rcases Nat.eq_zero_or_pos (bv s) with g | g
  · have h0 := (bv_zero_iff hc).1 g
    unfold vld at h
    rw [dif_neg (by omega)] at h
    simp at h
  · exact g
/-- Shift to the right, as integers. -/
theorem shr_z {a : Bool} {s : ByteArray} (hv : vld a s = true) (k : Nat) (y : Int) (hy : -y = (k : Int)) (hk : 1 ≤ k) (hk2 : k ≤ 65536) (w : World) :
    Calls Tryz.prog 56 #[.agg #[.bool a, .string s], .int .i64 y] w (fun e w' => e = .returned (.tuple #[.agg #[.bool (zb (sg a (bv s) / 2 ^ k)), .string (zs (sg a (bv s) / 2 ^ k))], .int .i64 0]) ∧ Below w.heap.size w w') := by
  have h := Shift_down a s k y hy hk hk2 w hv
  have ht : shd a (bv s) k < Top := Nat.lt_of_le_of_lt (shd_le a _ k (pos_sgn hv)) (bv_lt hv)
  unfold WPost at h
  rwa [wres_ok _ ht, werr_ok ht, wd_sg, sg_shd a _ k (pos_sgn hv)] at h
theorem sg_mul (a : Bool) (m k : Nat) : sg a (m * 2 ^ k) = sg a m * 2 ^ k := by
  cases a <;> simp [sg]
  rw [Int.neg_mul]
/-- Shift to the left, as integers. -/
theorem shl_z {a : Bool} {s : ByteArray} (hv : vld a s = true) (k : Nat) (hk2 : k ≤ 65536) (ht : bv s * 2 ^ k < Top) (w : World) :
    Calls Tryz.prog 56 #[.agg #[.bool a, .string s], .int .i64 (k : Int)] w (fun e w' => e = .returned (.tuple #[.agg #[.bool (zb (sg a (bv s) * 2 ^ k)), .string (zs (sg a (bv s) * 2 ^ k))], .int .i64 0]) ∧ Below w.heap.size w w') := by
  have h := Shift_up a s k hk2 w hv
  unfold WPost at h
  rwa [wres_ok _ ht, werr_ok ht, wd_sg, sg_mul] at h

end Go.Proofs.YtlmklhffafcmmaaGreat

/- Knuth's guess of a digit of a quotient: plain facts. -/
namespace Go.Proofs.YtlmklhffafcmmaaGreat
open Go.RowKit

/-- The guess. -/
def gs (h m f s : Nat) : Nat := if f ≤ h then W - 1 else if (h * W + m) % f < (h * W + m) / f * s / W then (h * W + m) / f - 1 else (h * W + m) / f

/-- The guess is the digit, or greater by 1. B: the base; H: the weight of the limbs that the guess doesn't see. -/
theorem guess_ok {B H U V h m l f s u v : Nat} (hU : U = ((h * B + m) * B + l) * H + u) (hV : V = (f * B + s) * H + v) (hu : u < H) (hv : v < H) (hl : l < B) (hm : m < B) (hs : s < B) (hf : B ≤ 2 * f) (hB : 4 ≤ B) (hlt : U < V * B)
    {g : Nat} (hg : g = if f ≤ h then B - 1 else if (h * B + m) % f < (h * B + m) / f * s / B then (h * B + m) / f - 1 else (h * B + m) / f) : U / V ≤ g ∧ g ≤ U / V + 1 ∧ g < B := by
  have hH : 0 < H := by omega
  have hB0 : 0 < B := by omega
  have hfp : 0 < f := by omega
  have hVp : 0 < V := by
    rw [hV]
    have : 0 < (f * B + s) * H := Nat.mul_pos (Nat.add_pos_left (Nat.mul_pos hfp hB0) _) hH
    omega
  have hqB : U / V < B := by rw [Nat.div_lt_iff_lt_mul hVp, Nat.mul_comm]; exact hlt
  have hlo : ∀ t, t * V ≤ U → t ≤ U / V := fun t ht => (Nat.le_div_iff_mul_le hVp).2 ht
  have hup : ∀ t, U < t * V → U / V < t := fun t ht => (Nat.div_lt_iff_lt_mul hVp).2 ht
  generalize U / V = q at *
  -- V is less than (f + 1) B H, and U at least (h B + m) B H
  have hV2 : V ≤ (f + 1) * (B * H) := by
    have h1 : (f * B + s + 1) * H ≤ (f * B + B) * H := Nat.mul_le_mul_right _ (by omega)
    have h2 : (f * B + B) * H = (f + 1) * (B * H) := by grind
    rw [Nat.add_mul, Nat.one_mul] at h1
    omega
  have hU2 : (h * B + m) * (B * H) ≤ U := by
    have h1 : (h * B + m) * B * H ≤ ((h * B + m) * B + l) * H := Nat.mul_le_mul_right _ (by omega)
    rw [Nat.mul_assoc] at h1
    omega
  by_cases c1 : f ≤ h
  · rw [if_pos c1] at hg
    subst hg
    refine ⟨by omega, ?_, by omega⟩
    have : B - 2 ≤ q := by
      refine hlo _ ?_
      have h1 : (B - 2) * V ≤ (B - 2) * ((f + 1) * (B * H)) := Nat.mul_le_mul_left _ hV2
      have h2 : (B - 2) * (f + 1) ≤ h * B + m := by
        obtain ⟨C, rfl⟩ : ∃ C, B = C + 2 := ⟨B - 2, by omega⟩
        have h3 : f * (C + 2) ≤ h * (C + 2) := Nat.mul_le_mul_right _ c1
        have h4 : (C + 2 - 2) * (f + 1) = f * C + C := by rw [Nat.add_sub_cancel]; grind
        rw [Nat.mul_add] at h3
        omega
      have h3 : (B - 2) * (f + 1) * (B * H) ≤ (h * B + m) * (B * H) := Nat.mul_le_mul_right _ h2
      rw [Nat.mul_assoc] at h3
      omega
    omega
  · rw [if_neg c1] at hg
    have hd := Nat.div_add_mod (h * B + m) f
    have hr := Nat.mod_lt (h * B + m) hfp
    have hdB : (h * B + m) / f < B := by
      rw [Nat.div_lt_iff_lt_mul hfp]
      have : (h + 1) * B ≤ f * B := Nat.mul_le_mul_right _ (by omega)
      rw [Nat.add_mul, Nat.one_mul] at this
      rw [Nat.mul_comm B f]
      omega
    generalize (h * B + m) / f = d at *
    generalize (h * B + m) % f = r at *
    have hd2 : d * f + r = h * B + m := by rw [Nat.mul_comm]; exact hd
    clear hd
    -- the digit is at most d
    have hqd : q ≤ d := by
      refine Nat.lt_succ_iff.1 (hup _ ?_)
      have e1 : U < (h * B + m + 1) * (B * H) := by
        have h1 : ((h * B + m) * B + l + 1) * H ≤ ((h * B + m) * B + B) * H := Nat.mul_le_mul_right _ (by omega)
        have h2 : ((h * B + m) * B + B) * H = (h * B + m + 1) * (B * H) := by grind
        rw [Nat.add_mul, Nat.one_mul] at h1
        omega
      have e2 : (h * B + m + 1) * (B * H) ≤ ((d + 1) * f) * (B * H) := Nat.mul_le_mul_right _ (by rw [Nat.add_mul, Nat.one_mul]; omega)
      have e3 : (d + 1) * f * (B * H) ≤ (d + 1) * V := by
        rw [Nat.mul_assoc]
        refine Nat.mul_le_mul_left _ ?_
        have : f * (B * H) = f * B * H := by rw [Nat.mul_assoc]
        rw [this, hV, Nat.add_mul]
        omega
      show U < (d + 1) * V
      omega
    by_cases c2 : r < d * s / B
    · rw [if_pos c2] at hg
      have h1 : (r + 1) * B ≤ d * s := (Nat.le_div_iff_mul_le hB0).1 c2
      -- d is too great
      have hlt2 : U < d * V := by
        have e1 : U < (h * B + m + 1) * (B * H) := by
          have h1 : ((h * B + m) * B + l + 1) * H ≤ ((h * B + m) * B + B) * H := Nat.mul_le_mul_right _ (by omega)
          have h2 : ((h * B + m) * B + B) * H = (h * B + m + 1) * (B * H) := by grind
          rw [Nat.add_mul, Nat.one_mul] at h1
          omega
        have e2 : (h * B + m + 1) * B ≤ d * (f * B + s) := by
          have : d * (f * B + s) = d * f * B + d * s := by grind
          have e4 : (h * B + m + 1) * B = d * f * B + (r + 1) * B := by rw [← hd2]; grind
          omega
        have e3 : (h * B + m + 1) * B * H ≤ d * (f * B + s) * H := Nat.mul_le_mul_right _ e2
        have e4 : d * ((f * B + s) * H) ≤ d * V := Nat.mul_le_mul_left _ (by omega)
        rw [← Nat.mul_assoc] at e1 e4
        omega
      have hq : q < d := hup _ hlt2
      have hq2 : d ≤ q + 2 := by
        rcases Nat.lt_or_ge d 2 with g1 | g1
        · omega
        · have : d - 2 ≤ q := by
            refine hlo _ ?_
            have e1 : (d - 2) * V ≤ (d - 2) * ((f + 1) * (B * H)) := Nat.mul_le_mul_left _ hV2
            have e2 : (d - 2) * (f + 1) ≤ h * B + m := by
              obtain ⟨c, rfl⟩ : ∃ c, d = c + 2 := ⟨d - 2, by omega⟩
              rw [Nat.add_sub_cancel]
              have : (c + 2) * f = c * f + 2 * f := Nat.add_mul c 2 f
              have : c * (f + 1) = c * f + c := by rw [Nat.mul_add, Nat.mul_one]
              omega
            have e3 : (d - 2) * (f + 1) * (B * H) ≤ (h * B + m) * (B * H) := Nat.mul_le_mul_right _ e2
            rw [Nat.mul_assoc] at e3
            omega
          omega
      rw [hg]
      exact ⟨by omega, by omega, by omega⟩
    · rw [if_neg c2] at hg
      rw [hg]
      refine ⟨hqd, ?_, hdB⟩
      rcases Nat.eq_zero_or_pos d with g0 | g0
      · omega
      · have : d - 1 ≤ q := by
          refine hlo _ ?_
          have h1 : d * s < (r + 1) * B := by
            have := Nat.not_lt.1 c2
            rw [← Nat.lt_succ_iff, Nat.div_lt_iff_lt_mul hB0] at this
            exact this
          have e1 : (d - 1) * V ≤ (d - 1) * ((f * B + s + 1) * H) := Nat.mul_le_mul_left _ (by rw [hV, Nat.add_mul (f * B + s) 1 H]; omega)
          have e2 : (d - 1) * (f * B + s + 1) ≤ (h * B + m) * B := by
            obtain ⟨c, rfl⟩ : ∃ c, d = c + 1 := ⟨d - 1, by omega⟩
            rw [Nat.add_sub_cancel]
            have t1 : c * (f * B + s + 1) = c * f * B + c * s + c := by grind
            have t2 : (c + 1) * s = c * s + s := by grind
            have t3 : (h * B + m) * B = c * f * B + f * B + r * B := by rw [← hd2]; grind
            have t4 : (r + 1) * B = r * B + B := by grind
            have t5 : 2 * B ≤ f * B := Nat.mul_le_mul_right _ (by omega)
            omega
          have e3 : (d - 1) * (f * B + s + 1) * H ≤ (h * B + m) * B * H := Nat.mul_le_mul_right _ e2
          rw [Nat.mul_assoc, Nat.mul_assoc (h * B + m)] at e3
          omega
        omega
end Go.Proofs.YtlmklhffafcmmaaGreat

/- The functions wide.guessDigit and wide.subProduct. -/
namespace Go.Proofs.YtlmklhffafcmmaaGreat
open Go.RowKit

theorem wrap_dec1 (q : Nat) (h : 1 ≤ q) (hq : q < W) : IntKind.u64.wrap ((q : Int) - 1) = ((q - 1 : Nat) : Int) := by
  rw [← wrap_nat (q - 1) (by omega)]
  congr 1
  omega

set_option maxRecDepth 100000 in
set_option maxHeartbeats 1000000 in
theorem guessDigit_any (h m f s : Nat) (hm : m < W) (hf : f < W) (hs : s < W) (h0 : 0 < f) (w : World) :
    Calls Tryz.prog 190 #[.int .u64 (h : Int), .int .u64 (m : Int), .int .u64 (f : Int), .int .u64 (s : Int)] w (RwPost (gs h m f s) w) := by
  unfold gs
  by_cases c1 : f ≤ h
  · rw [if_pos c1]
    have c2 : (f : Int) ≤ (h : Int) := by omega
    go_enter Tryz.func190, Tryz.ntmps190
    go_wp2
    go_ret
    exact ⟨by unfold W; rfl, 0, rfl⟩
  · rw [if_neg c1]
    have c2 : (h : Int) < (f : Int) := by omega
    have HC := Lib.hid (div64_any h m f (by omega) hm hf)
    have hd : (h * W + m) / f < W := quo_lt (by omega) hm
    have hr : (h * W + m) % f < f := Nat.mod_lt _ h0
    generalize (h * W + m) / f = d at *
    generalize (h * W + m) % f = r at *
    have HM := Lib.hid (mul64 d s hd hs)
    unfold m1 at HM
    have hpos : r < d * s / W → 1 ≤ d := by
      intro c
      rcases Nat.eq_zero_or_pos d with g | g
      · subst g; simp at c
      · exact g
    generalize d * s / W = t at *
    generalize m0 d s = t0 at *
    have H2 := Lib.hid hd
    by_cases c3 : r < t
    · rw [if_pos c3]
      have c4 : (r : Int) < (t : Int) := by omega
      have H1 := Lib.hid (hpos c3)
      clear hpos hd hm hf hs c1 hr
      go_enter Tryz.func190, Tryz.ntmps190
      go_wp2_with fail
      refine (HC.out _).mono ?_
      rintro e w' ⟨rfl, n, rfl⟩
      go_wp2_with fail
      refine (HM.out _).mono ?_
      rintro e w' ⟨rfl, rfl⟩
      go_wp2
      go_ret
      exact ⟨by rw [wrap_dec1 d H1.out H2.out]; rfl, n, rfl⟩
    · rw [if_neg c3]
      have c4 : (t : Int) ≤ (r : Int) := by omega
      clear hpos hd hm hf hs c1 hr
      go_enter Tryz.func190, Tryz.ntmps190
      go_wp2_with fail
      refine (HC.out _).mono ?_
      rintro e w' ⟨rfl, n, rfl⟩
      go_wp2_with fail
      refine (HM.out _).mono ?_
      rintro e w' ⟨rfl, rfl⟩
      go_wp2
      go_ret
      exact ⟨rfl, n, rfl⟩

/-- What stands behind k rounds of subProduct in the segment, with what is missing beyond it. -/
def SubPInv (l X : List Nat) (off y k c : Nat) (s : List Nat) : Prop :=
  s.length = k ∧ Nm.Dig W s ∧ c < W ∧ Nm.val W s + Nm.val W (X.take k) * y = Nm.val W ((l.drop off).take k) + W ^ k * c

theorem sub_room (a b c o : Nat) (ha : a < W) (hb : b < W) (hc : c < W) (ho : o < W) : mh a b c + bw o (ml a b c) 0 < W := by
  have h1 := mlh a b c
  have h2 := df_bw o (ml a b c) 0 ho (ml_lt a b c) (by decide)
  have h3 : a * b ≤ (W - 1) * (W - 1) := Nat.mul_le_mul (by omega) (by omega)
  have h4 := df_lt o (ml a b c) 0
  generalize mh a b c = p at *
  generalize ml a b c = q at *
  generalize bw o q 0 = r at *
  generalize df o q 0 = s at *
  unfold W at *
  omega

theorem SubPInv.step {l X s : List Nat} {off y k c : Nat} (h : SubPInv l X off y k c s) (hk : off + k < l.length) (hX : k < X.length) (dx : X[k] < W) (dy : y < W) (dl : l[off + k] < W) :
    SubPInv l X off y (k + 1) (mh X[k] y c + bw l[off + k] (ml X[k] y c) 0) (s ++ [df l[off + k] (ml X[k] y c) 0]) := by
  obtain ⟨h1, h2, h3, h4⟩ := h
  refine ⟨by simp [h1], Nm.dig_append.2 ⟨h2, Nm.dig_cons.2 ⟨df_lt _ _ _, Nm.dig_nil W⟩⟩, sub_room _ _ _ _ dx dy h3 dl, ?_⟩
  have hd : k < (l.drop off).length := by simp; omega
  rw [Nm.val_snoc, h1, Nm.val_take_succ W _ k hd, Nm.val_take_succ W X k hX, List.getElem_drop, Nat.pow_succ]
  have e1 := mlh X[k] y c
  have e2 := df_bw l[off + k] (ml X[k] y c) 0 dl (ml_lt _ _ _) (by decide)
  generalize mh X[k] y c = p at *
  generalize ml X[k] y c = q at *
  generalize bw l[off + k] q 0 = r at *
  generalize df l[off + k] q 0 = t at *
  generalize W ^ k = P at *
  have e3 : P * (t + q) = P * (l[off + k] + W * r) := by rw [← e2]; rfl
  have e4 : P * (q + W * p) = P * (X[k] * y + c) := by rw [e1]
  grind

def SubPPost (g : Nat) (l X : List Nat) (off y : Nat) (w : World) (e : Ending) (w' : World) : Prop :=
  ∃ s c, e = .returned (.int .u64 (c : Nat)) ∧ SubPInv l X off y X.length c s ∧ Arr w' g (l.take off ++ (s ++ l.drop (off + X.length))) ∧ Only g w w'

set_option maxRecDepth 100000 in
set_option maxHeartbeats 1000000 in
theorem subProduct_any (l X : List Nat) (g off n cap : Nat) (p : Option Addr) (b o c y : Nat) (w : World) (hn : X.length ≤ n) (hnc : n ≤ cap) (hcap : cap ≤ 2000000000) (hoff : off ≤ 2000000000)
    (hl : off + X.length ≤ l.length) (hp : X ≠ [] → p = some ⟨b, o, none⟩) (hb : b ≠ g) (harr : Arr w g l)
    (hx : ∀ k (h : k < X.length), w.cell? ⟨b, o + k, none⟩ = some (.int .u64 (X[k] : Int))) (d1 : Nm.Dig W X) (d2 : Nm.Dig W l) (dy : y < W) :
    Calls Tryz.prog 191 #[.slice (some ⟨g, off, none⟩) n cap, .slice p X.length c, .int .u64 (y : Int)] w (SubPPost g l X off y w) := by
  go_enter Tryz.func191, Tryz.ntmps191
  have Hp := Lib.hid hp
  have Hx := Lib.hid hx
  clear hp hx
  go_wp2
  go_loopw [7, 20] (fun cv i wr => ∃ k cn s, k ≤ X.length ∧ i = .int .i64 (k : Nat) ∧ cv = .int .u64 (cn : Nat) ∧ SubPInv l X off y k cn s ∧ Arr wr g (l.take off ++ (s ++ l.drop (off + k))) ∧ Only g w wr)
    (fun _ i _ => X.length - (intOf i).toNat)
  case atStart =>
    exact ⟨0, 0, [], Nat.zero_le _, rfl, rfl, ⟨rfl, Nm.dig_nil W, W0, by simp [Nm.val]⟩, by rw [Nm.seg_all]; exact harr, Only.refl g w⟩
  case round =>
    clear harr
    obtain ⟨k, cn, s, hk, rfl, rfl, hinv, harr, honly⟩ := hrel
    by_cases hX : k < X.length
    · obtain rfl := Hp.out (by intro e; rw [e] at hX; exact absurd hX (Nat.not_lt_zero _))
      have hol : off + k < l.length := by omega
      have hlen := Nm.seg_length l s off k hinv.1 (by omega)
      have e1 := (honly.cell (p := ⟨b, o + k, none⟩) hb).trans (Hx.out k hX)
      have e3 := harr.cell (off + k) (by omega)
      rw [Nm.seg_get l s off k hinv.1 hol] at e3
      have e4 := harr.free (off + k)
      have ea := sub64_c0 l[off + k] (ml X[k] y cn)
      have dx := Nm.dig_get d1 k hX
      have dl := Nm.dig_get d2 (off + k) hol
      have hcn := hinv.2.2.1
      have hlt : mh X[k] y cn + bw l[off + k] (ml X[k] y cn) 0 < 18446744073709551616 := sub_room _ _ _ _ dx dy hcn dl
      have Hinv := Lib.hid (hinv.step hol hX dx dy dl)
      have Harr := harr.set (off + k) (df l[off + k] (ml X[k] y cn) 0)
      rw [Nm.seg_set l s off k _ hinv.1 hol] at Harr
      have HA := Lib.hid Harr
      have Ho := Lib.hid (honly.setCell (off + k) (.int .u64 (df l[off + k] (ml X[k] y cn) 0)))
      have hm := mulAdd_any X[k] y cn dx dy hcn
      have HM := Lib.hid hm
      clear hinv harr honly hlen Harr hm
      go_wp2_with fail
      refine (HM.out _).mono ?_
      rintro e w' ⟨rfl, rfl⟩
      go_wp2
      go_roundw
      case rel => exact ⟨k + 1, _, _, hX, by go_num, by go_num, Hinv.out, HA.out, Ho.out⟩
      case measure => simp [intOf]; omega
    · obtain rfl : k = X.length := by omega
      have Hinv := Lib.hid hinv
      have HA := Lib.hid harr
      have Ho := Lib.hid honly
      clear hinv harr honly
      go_wp2
      go_ret
      exact ⟨s, cn, rfl, Hinv.out, HA.out, Ho.out⟩
end Go.Proofs.YtlmklhffafcmmaaGreat

/- The function wide.divideStep: one digit of a quotient. -/
namespace Go.Proofs.YtlmklhffafcmmaaGreat
open Go.RowKit

/-- The segment of n + 1 limbs holds the remainder, and the digit comes back. -/
def DStep (g : Nat) (l : List Nat) (off n U V : Nat) (w : World) (e : Ending) (w' : World) : Prop :=
  ∃ t, e = .returned (.int .u64 ((U / V : Nat) : Int)) ∧ t.length = n + 1 ∧ Nm.Dig W t ∧ Nm.val W t = U % V ∧ Arr w' g (l.take off ++ (t ++ l.drop (off + (n + 1)))) ∧ Only g w w'

theorem dstep_fit {U V d r : Nat} (h : U = V * d + r) (h2 : U / V ≤ d) (hV : 0 < V) : d = U / V ∧ r = U % V := by
  have h3 : d ≤ U / V := (Nat.le_div_iff_mul_le hV).2 (by rw [Nat.mul_comm]; omega)
  have h4 : d = U / V := by omega
  refine ⟨h4, ?_⟩
  have h5 := Nat.div_add_mod U V
  rw [← h4] at h5
  omega

/-- The digit fits: nothing is missing beyond the highest limb. -/
theorem dstep_a {P U V low hi sv d c : Nat} (hU : U = low + P * hi) (hs : sv + V * d = low + P * c) (hc : c ≤ hi) (hq : U / V ≤ d) (hV : 0 < V) : d = U / V ∧ sv + P * (hi - c) = U % V := by
  refine dstep_fit ?_ hq hV
  obtain ⟨x, rfl⟩ : ∃ x, hi = c + x := ⟨hi - c, by omega⟩
  rw [Nat.add_sub_cancel_left, hU, Nat.mul_add]
  omega

/-- The digit is too great by 1, and the divisor is added back. -/
theorem dstep_b {P U V low hi sv d c tv cy : Nat} (hU : U = low + P * hi) (hs : sv + V * d = low + P * c) (hc : hi < c) (hq : d ≤ U / V + 1) (hV : 0 < V) (hsv : sv < P) (htv : tv < P) (hVP : V < P) (ht : tv + P * cy = sv + V) : 1 ≤ d ∧ d - 1 = U / V ∧ tv = U % V := by
  have hdm := Nat.div_add_mod U V
  have hm := Nat.mod_lt U hV
  obtain ⟨x, rfl⟩ : ∃ x, c = hi + (x + 1) := ⟨c - hi - 1, by omega⟩
  have e1 : P * (hi + (x + 1)) = P * hi + P * x + P := by rw [Nat.mul_add, Nat.mul_add, Nat.mul_one]; omega
  have hgt : U < V * d := by omega
  have hd : U / V < d := by rw [Nat.div_lt_iff_lt_mul hV, Nat.mul_comm]; exact hgt
  generalize U / V = q at *
  generalize U % V = r at *
  obtain rfl : d = q + 1 := by omega
  refine ⟨by omega, by omega, ?_⟩
  rw [Nat.mul_add, Nat.mul_one] at hs
  have e2 : tv + P * cy = r + P * (x + 1) := by rw [Nat.mul_add P x 1, Nat.mul_one]; omega
  have e3 := congrArg (· % P) e2
  simp only [Nat.add_mul_mod_self_left] at e3
  rwa [Nat.mod_eq_of_lt htv, Nat.mod_eq_of_lt (by omega)] at e3

/-- Behind k rounds of adding back. -/
def BackInv (l Y : List Nat) (off k c : Nat) (t : List Nat) : Prop :=
  t.length = k ∧ Nm.Dig W t ∧ c ≤ 1 ∧ Nm.val W t + W ^ k * c = Nm.val W ((l.drop off).take k) + Nm.val W (Y.take k)

theorem BackInv.step {l Y t : List Nat} {off k c : Nat} (h : BackInv l Y off k c t) (hk : off + k < l.length) (hY : k < Y.length) (dy : Y[k] < W) (dl : l[off + k] < W) :
    BackInv l Y off (k + 1) (cy l[off + k] Y[k] c) (t ++ [sm l[off + k] Y[k] c]) := by
  obtain ⟨h1, h2, h3, h4⟩ := h
  refine ⟨by simp [h1], Nm.dig_append.2 ⟨h2, Nm.dig_cons.2 ⟨sm_lt _ _ _, Nm.dig_nil W⟩⟩, cy_le _ _ _ dl dy h3, ?_⟩
  have hd : k < (l.drop off).length := by simp; omega
  rw [Nm.val_snoc, h1, Nm.val_take_succ W _ k hd, Nm.val_take_succ W Y k hY, List.getElem_drop, Nat.pow_succ]
  have e1 := sm_cy l[off + k] Y[k] c
  generalize cy l[off + k] Y[k] c = r at *
  generalize sm l[off + k] Y[k] c = s at *
  generalize W ^ k = P at *
  have e3 : P * (s + W * r) = P * (l[off + k] + Y[k] + c) := by rw [e1]
  grind

theorem seg_take (l s : List Nat) (off n : Nat) (h : off + n ≤ l.length) : (l.take off ++ (s ++ l.drop (off + n))).take off = l.take off := by
  rw [List.take_append_of_le_length (by simp; omega), List.take_take, Nat.min_self]
theorem seg_drop (l s : List Nat) (off n j : Nat) (hs : s.length = n) (h : off + n ≤ l.length) (hj : n ≤ j) : (l.take off ++ (s ++ l.drop (off + n))).drop (off + j) = l.drop (off + j) := by
  rw [List.drop_append, List.drop_of_length_le (by simp; omega), List.nil_append, List.drop_append, List.drop_of_length_le (by simp; omega), List.nil_append, List.drop_drop]
  congr 1
  simp
  omega
theorem seg_mid (l s : List Nat) (off n : Nat) (hs : s.length = n) (h : off + n ≤ l.length) : ((l.take off ++ (s ++ l.drop (off + n))).drop off).take n = s := by
  rw [List.drop_append, List.drop_of_length_le (by simp; omega), List.nil_append]
  have e : off - (l.take off).length = 0 := by simp; omega
  rw [e, List.drop_zero, List.take_append_of_le_length (by omega), List.take_of_length_le (by omega)]

set_option maxRecDepth 100000 in
set_option maxHeartbeats 2000000 in
theorem divideStep_any (l Y : List Nat) (g off n n1 n2 nr cap b o cb : Nat) (w : World) (hn : Y.length = n) (hn1 : n1 + 1 = n) (hn2 : n2 + 2 = n) (hnr : n + 1 ≤ nr) (hnc : nr ≤ cap) (hcap : cap ≤ 2000000000) (hoff : off ≤ 2000000000)
    (hl : off + n + 1 ≤ l.length) (hb : b ≠ g) (harr : Arr w g l) (hx : ∀ k (h : k < Y.length), w.cell? ⟨b, o + k, none⟩ = some (.int .u64 (Y[k] : Int))) (dY : Nm.Dig W Y) (dl : Nm.Dig W l)
    (htop : W ≤ 2 * Y[n1]) (hU : Nm.val W ((l.drop off).take (n + 1)) < Nm.val W Y * W) :
    Calls Tryz.prog 173 #[.slice (some ⟨g, off, none⟩) nr cap, .slice (some ⟨b, o, none⟩) n cb] w (DStep g l off n (Nm.val W ((l.drop off).take (n + 1))) (Nm.val W Y) w) := by
  have z1 : off + n < l.length := by omega
  have z2 : off + n1 < l.length := by omega
  have z3 : n1 < Y.length := by omega
  have z4 : n2 < Y.length := by omega
  have c1 := harr.cell (off + n) z1
  have c2 := harr.cell (off + n1) z2
  have c3 := hx n1 z3
  have c4 := hx n2 z4
  have t1 : (n : Int) - 1 = (n1 : Int) := by omega
  have t2 : (n : Int) - 2 = (n2 : Int) := by omega
  -- the numbers
  have dz1 := Nm.dig_get dl _ z1
  have dz2 := Nm.dig_get dl _ z2
  have dy1 := Nm.dig_get dY _ z3
  have dy2 := Nm.dig_get dY _ z4
  have hf0 : 0 < Y[n1] := by unfold W at htop; omega
  have HG := Lib.hid (fun w => guessDigit_any l[off + n] l[off + n1] Y[n1] Y[n2] dz2 dy1 dy2 hf0 w)
  have hVe : Nm.val W Y = (Y[n1] * W + Y[n2]) * W ^ n2 + Nm.val W (Y.take n2) := by
    have h1 := Nm.val_take_succ W Y n1 z3
    have h2 := Nm.val_take_succ W Y n2 z4
    rw [show n1 + 1 = Y.length by omega, List.take_length] at h1
    obtain rfl : n1 = n2 + 1 := by omega
    rw [h2, Nat.pow_succ] at h1
    rw [h1]
    grind
  have hdl1 : n2 < (l.drop off).length := by simp; omega
  have hdl2 : n1 < (l.drop off).length := by simp; omega
  have hdl3 : n < (l.drop off).length := by simp; omega
  have hlow : Nm.val W ((l.drop off).take (n + 1)) = Nm.val W ((l.drop off).take n) + W ^ n * l[off + n] := by
    rw [Nm.val_take_succ W _ n hdl3, List.getElem_drop]
  have hUe : Nm.val W ((l.drop off).take (n + 1)) = ((l[off + n] * W + l[off + n1]) * W + l[off + n2]) * W ^ n2 + Nm.val W ((l.drop off).take n2) := by
    have h1 := Nm.val_take_succ W (l.drop off) n1 hdl2
    have h2 := Nm.val_take_succ W (l.drop off) n2 hdl1
    rw [hlow]
    simp only [List.getElem_drop] at h1 h2
    obtain rfl : n = n1 + 1 := by omega
    obtain rfl : n1 = n2 + 1 := by omega
    rw [h1, h2, Nat.pow_succ, Nat.pow_succ]
    grind
  have hP : Nm.val W (Y.take n2) < W ^ n2 := by
    have := Nm.val_lt (Nm.dig_take dY n2)
    rwa [List.length_take, Nat.min_eq_left (by omega)] at this
  have hP2 : Nm.val W ((l.drop off).take n2) < W ^ n2 := by
    have := Nm.val_lt (Nm.dig_take (Nm.dig_drop dl off) n2)
    rwa [List.length_take, Nat.min_eq_left (by omega)] at this
  have hVP : Nm.val W Y < W ^ n := by
    have := Nm.val_lt dY
    rwa [hn] at this
  have hVpos : 0 < Nm.val W Y := by
    rw [hVe]
    have : 0 < (Y[n1] * W + Y[n2]) * W ^ n2 := Nat.mul_pos (Nat.add_pos_left (Nat.mul_pos hf0 W0) _) (Nat.pow_pos W0)
    omega
  have hg := guess_ok (g := gs l[off + n] l[off + n1] Y[n1] Y[n2]) hUe hVe hP2 hP (Nm.dig_get dl _ (by omega)) dz2 dy2 htop (by decide) hU rfl
  clear hUe hVe hP hP2 hdl1 hdl2 hdl3 dy1 dy2 htop hU hf0 dz2
  generalize gs l[off + n] l[off + n1] Y[n1] Y[n2] = d at *
  generalize Nm.val W ((l.drop off).take (n + 1)) = U at *
  have HD := Lib.hid hg
  have HS : Hid (∀ n' cap' w', n ≤ n' → n' ≤ cap' → cap' ≤ 2000000000 → Arr w' g l → (∀ k (h : k < Y.length), w'.cell? ⟨b, o + k, none⟩ = some (.int .u64 (Y[k] : Int))) →
      Calls Tryz.prog 191 #[.slice (some ⟨g, off, none⟩) n' cap', .slice (some ⟨b, o, none⟩) n cb, .int .u64 (d : Int)] w' (SubPPost g l Y off d w')) := by
    intro n' cap' w' h1 h2 h3 ha hh
    have := subProduct_any l Y g off n' cap' (some ⟨b, o, none⟩) b o cb d w' (by omega) h2 h3 hoff (by omega) (fun _ => rfl) hb ha hh dY dl hg.2.2
    rwa [hn] at this
  have HX := Lib.hid hx
  have HA := Lib.hid harr
  have HL := Lib.hid hlow
  have HV := Lib.hid (And.intro hVP hVpos)
  clear hg hx harr hlow hVP hVpos
  unfold RwPost at HG
  go_enter Tryz.func173, Tryz.ntmps173
  go_wp2_with fail
  go_quiet ((go_at_call 190; with_reducible exact Calls.quiet_of (HG.out _)))
  go_wp2_with fail
  refine (HS.out _ _ _ (by omega) (by omega) (by omega) (HA.out.drewN _) HX.out).mono ?_
  rintro e w' ⟨s, c, rfl, hp, ha, ho⟩
  rw [hn] at hp ha
  have hlen := Nm.seg_length l s off n hp.1 (by omega)
  have e3 := ha.cell (off + n) (by omega)
  rw [Nm.seg_get l s off n hp.1 z1] at e3
  have e4 := ha.free (off + n)
  have hcW := hp.2.2.1
  have hz2 : off + n ≤ l.length := Nat.le_of_lt z1
  have Hs := Lib.hid hp
  have hon : Only g w w' := ((Only.refl g w).drewN _).trans ho
  clear ho c1 c2 c3 c4 HG HS t1 t2
  generalize l[off + n] = hi at *
  by_cases hc : c ≤ hi
  · have q1 : (c : Int) ≤ (hi : Int) := by omega
    have q2 : IntKind.u64.wrap ((hi : Int) - (c : Int)) = ((hi - c : Nat) : Int) := by
      rw [← wrap_nat (hi - c) (by omega)]
      congr 1
      omega
    have HA2 := ha.set (off + n) (hi - c)
    rw [Nm.seg_set l s off n _ hp.1 z1] at HA2
    have HA3 := Lib.hid HA2
    have Ho := Lib.hid (hon.setCell (off + n) (.int .u64 ((hi - c : Nat) : Int)))
    have Hc := Lib.hid hc
    clear hp ha hon HA2 hlen hc
    go_wp2
    go_ret
    obtain ⟨p1, p2, p3, p4⟩ := Hs.out
    rw [← hn, List.take_length, hn] at p4
    obtain ⟨h1, h2⟩ := dstep_a HL.out p4 Hc.out HD.out.1 HV.out.2
    refine ⟨s ++ [hi - c], by rw [← h1]; rfl, by simp [p1], Nm.dig_append.2 ⟨p2, Nm.dig_cons.2 ⟨by omega, Nm.dig_nil W⟩⟩, ?_, HA3.out, Ho.out⟩
    rw [Nm.val_snoc, p1]
    exact h2
  · have q1 : (hi : Int) < (c : Int) := by omega
    have hlt : hi < c := by omega
    have HC := Lib.hid hlt
    obtain ⟨l1, hl1⟩ : ∃ l1, l1 = l.take off ++ (s ++ l.drop (off + n)) := ⟨_, rfl⟩
    rw [← hl1] at ha hlen
    have HE : Hid (l1.take off = l.take off ∧ l1.drop (off + (n + 1)) = l.drop (off + (n + 1)) ∧ (l1.drop off).take n = s ∧ Nm.Dig W l1) := by
      show _ ∧ _
      rw [hl1]
      exact ⟨seg_take l s off n hz2, seg_drop l s off n (n + 1) hp.1 hz2 (by omega), seg_mid l s off n hp.1 hz2, Nm.dig_append.2 ⟨Nm.dig_take dl _, Nm.dig_append.2 ⟨hp.2.1, Nm.dig_drop dl _⟩⟩⟩
    have dl1 := HE.out.2.2.2
    have hon2 := Lib.hid hon
    have HB := Lib.hid (fun k (hk : k < Y.length) => (hon.cell (p := ⟨b, o + k, none⟩) hb).trans (HX.out k hk))
    clear hl1 hc hp e4 hon
    rw [← hlen] at z1 hl hz2
    go_wp2
    clear e3 q1
    have hn0 : n ≤ Y.length := by omega
    go_loopw [8, 55] (fun cv i wr => ∃ k cn t, k ≤ n ∧ i = .int .i64 (k : Nat) ∧ cv = .int .u64 (cn : Nat) ∧ BackInv l1 Y off k cn t ∧ Arr wr g (l1.take off ++ (t ++ l1.drop (off + k))) ∧ Only g w wr)
      (fun _ i _ => n - (intOf i).toNat)
    case atStart =>
      exact ⟨0, 0, [], Nat.zero_le _, rfl, rfl, ⟨rfl, Nm.dig_nil W, Nat.zero_le _, by simp [Nm.val]⟩, by rw [Nm.seg_all]; exact ha, hon2.out⟩
    case round =>
      clear ha
      obtain ⟨k, cn, t, hk, rfl, rfl, hinv, harr, honly⟩ := hrel
      have hlen2 := Nm.seg_length l1 t off k hinv.1 (by omega)
      by_cases hX : k < n
      · have hY : k < Y.length := by omega
        have e1 := (honly.cell (p := ⟨b, o + k, none⟩) hb).trans (HX.out k hY)
        have hol : off + k < l1.length := by omega
        have e3 := harr.cell (off + k) (by omega)
        rw [Nm.seg_get l1 t off k hinv.1 hol] at e3
        have e4 := harr.free (off + k)
        have ea := add64_run l1[off + k] Y[k] cn hinv.2.2.1
        have Hinv := Lib.hid (hinv.step hol hY (Nm.dig_get dY k hY) (Nm.dig_get dl1 _ hol))
        have Harr := harr.set (off + k) (sm l1[off + k] Y[k] cn)
        rw [Nm.seg_set l1 t off k _ hinv.1 hol] at Harr
        have HA := Lib.hid Harr
        have Ho := Lib.hid (honly.setCell (off + k) (.int .u64 (sm l1[off + k] Y[k] cn)))
        clear hinv harr honly Harr hlen2
        go_wp2
        go_roundw
        case rel => exact ⟨k + 1, _, _, hX, by go_num, rfl, Hinv.out, HA.out, Ho.out⟩
        case measure => simp [intOf]; omega
      · obtain rfl : k = n := by omega
        obtain ⟨u3, e3⟩ := harr.has (off + k) (by omega)
        have e4 := harr.free (off + k)
        have HA2 := harr.set (off + k) 0
        rw [Nm.seg_set l1 t off k _ hinv.1 z1, HE.out.1, HE.out.2.1] at HA2
        have HA3 := Lib.hid HA2
        have Ho := Lib.hid (honly.setCell (off + k) (.int .u64 ((0 : Nat) : Int)))
        have Hinv := Lib.hid hinv
        clear hinv harr honly HA2 hlen2
        go_wp2
        go_ret
        obtain ⟨p1, p2, p3, p4⟩ := Hs.out
        rw [← hn, List.take_length, hn] at p4
        obtain ⟨b1, b2, b3, b4⟩ := Hinv.out
        rw [HE.out.2.2.1] at b4
        have b5 := Nm.val_lt b2
        rw [b1] at b5
        have p5 := Nm.val_lt p2
        rw [p1] at p5
        rw [← hn, List.take_length, hn] at b4
        obtain ⟨h1, h2, h3⟩ := dstep_b HL.out p4 HC.out HD.out.2.1 HV.out.2 p5 b5 HV.out.1 b4
        refine ⟨t ++ [0], by rw [← h2, ← wrap_dec1 d h1 HD.out.2.2]; rfl, by simp [b1], Nm.dig_append.2 ⟨b2, Nm.dig_cons.2 ⟨W0, Nm.dig_nil W⟩⟩, ?_, HA3.out, Ho.out⟩
        rw [Nm.val_snoc, Nat.mul_zero, Nat.add_zero]
        exact h3
end Go.Proofs.YtlmklhffafcmmaaGreat
