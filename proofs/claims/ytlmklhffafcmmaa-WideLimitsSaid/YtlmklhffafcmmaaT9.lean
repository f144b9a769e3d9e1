/- What the theorem leans on, part 9: Known, Short, RefFrom, LInts, RefBits. -/
import Derived.Test.YtlmklhffafcmmaaT8
import Derived.Test.YtlmklhffafcmmaaT5
import Derived.Test.YtlmklhffafcmmaaT4
import Derived.Test.YtlmklhffafcmmaaT7

/- The law's function known gives true. -/
namespace Go.Proofs.Ytlmklhffafcmmaa
open Go.RowKit

set_option maxRecDepth 100000 in
set_option maxHeartbeats 8000000 in
theorem known_true (w : World) : Calls Try.prog 12 #[] w (Ret (.bool true) w) := by
  have H_int := Lib.hid k_int
  have H_of1 := Lib.hid k_of1
  have H_of2 := Lib.hid k_of2
  have H_quo1 := Lib.hid k_quo1
  have H_quo2 := Lib.hid k_quo2
  have H_quo3 := Lib.hid k_quo3
  have H_quo4 := Lib.hid k_quo4
  have H_gcd1 := Lib.hid k_gcd1
  have H_gcd2 := Lib.hid k_gcd2
  have H_shift1 := Lib.hid k_shift1
  have H_shift2 := Lib.hid k_shift2
  have H_parse1 := Lib.hid k_parse1
  have H_parse2 := Lib.hid k_parse2
  have H_parse3 := Lib.hid k_parse3
  have H_len := Lib.hid k_len
  have H_sign := Lib.hid k_sign
  have H_ratof1 := Lib.hid k_ratof1
  have H_ratof2 := Lib.hid k_ratof2
  have H_floor := Lib.hid k_floor
  have H_add := Lib.hid k_add
  have H_mul := Lib.hid k_mul
  have H_cmp := Lib.hid k_cmp
  have H_wm7 := Lib.hid (k_w (-7) (by decide) (by decide))
  have H_wp2 := Lib.hid (k_w (2) (by decide) (by decide))
  have H_wp7 := Lib.hid (k_w (7) (by decide) (by decide))
  have H_wm2 := Lib.hid (k_w (-2) (by decide) (by decide))
  have H_wp0 := Lib.hid (k_w (0) (by decide) (by decide))
  have H_wm4 := Lib.hid (k_w (-4) (by decide) (by decide))
  have H_wp1 := Lib.hid (k_w (1) (by decide) (by decide))
  have H_wm3 := Lib.hid (k_w (-3) (by decide) (by decide))
  have H_wp4 := Lib.hid (k_w (4) (by decide) (by decide))
  have H_wm12 := Lib.hid (k_w (-12) (by decide) (by decide))
  have H_wp18 := Lib.hid (k_w (18) (by decide) (by decide))
  have H_wp6 := Lib.hid (k_w (6) (by decide) (by decide))
  have H_wm5 := Lib.hid (k_w (-5) (by decide) (by decide))
  have H_wp5 := Lib.hid (k_w (5) (by decide) (by decide))
  have H_wp40 := Lib.hid (k_w (40) (by decide) (by decide))
  have H_wp3 := Lib.hid (k_w (3) (by decide) (by decide))
  have H_qm3p2 := Lib.hid (k_q (-3) (2) (by decide) (by decide) (by decide) (by decide))
  have H_qp0p1 := Lib.hid (k_q (0) (1) (by decide) (by decide) (by decide) (by decide))
  have H_qp1p2 := Lib.hid (k_q (1) (2) (by decide) (by decide) (by decide) (by decide))
  have H_qp1p3 := Lib.hid (k_q (1) (3) (by decide) (by decide) (by decide) (by decide))
  have H_qp2p3 := Lib.hid (k_q (2) (3) (by decide) (by decide) (by decide) (by decide))
  have H_qp3p4 := Lib.hid (k_q (3) (4) (by decide) (by decide) (by decide) (by decide))
  have H_qp2p4 := Lib.hid (k_q (2) (4) (by decide) (by decide) (by decide) (by decide))
  have H_qp5p6 := Lib.hid (k_q (5) (6) (by decide) (by decide) (by decide) (by decide))
  unfold Z Q Ret at *
  unfold R64 at *
  generalize zb (-7) = b_m7 at *
  generalize zs (-7) = s_m7 at *
  generalize zb (2) = b_p2 at *
  generalize zs (2) = s_p2 at *
  generalize zb (7) = b_p7 at *
  generalize zs (7) = s_p7 at *
  generalize zb (-2) = b_m2 at *
  generalize zs (-2) = s_m2 at *
  generalize zb (0) = b_p0 at *
  generalize zs (0) = s_p0 at *
  generalize zb (-4) = b_m4 at *
  generalize zs (-4) = s_m4 at *
  generalize zb (1) = b_p1 at *
  generalize zs (1) = s_p1 at *
  generalize zb (-3) = b_m3 at *
  generalize zs (-3) = s_m3 at *
  generalize zb (4) = b_p4 at *
  generalize zs (4) = s_p4 at *
  generalize zb (-12) = b_m12 at *
  generalize zs (-12) = s_m12 at *
  generalize zb (18) = b_p18 at *
  generalize zs (18) = s_p18 at *
  generalize zb (6) = b_p6 at *
  generalize zs (6) = s_p6 at *
  generalize zb (-5) = b_m5 at *
  generalize zs (-5) = s_m5 at *
  generalize zb (5) = b_p5 at *
  generalize zs (5) = s_p5 at *
  generalize zb (40) = b_p40 at *
  generalize zs (40) = s_p40 at *
  generalize zb (3) = b_p3 at *
  generalize zs (3) = s_p3 at *
  go_enter Try.func12, Try.ntmps12
  have TOT : Hid (Below w.heap.size w w) := Below.refl _ _
  go_wp2_with fail
  refine (H_int.out _).mono ?_
  rintro e x1 ⟨rfl, b1⟩
  have E := Lib.hid b1
  clear b1
  have TOT := Lib.hid (chain TOT.out E.out)
  go_wp2_with fail
  refine (H_of1.out _).mono ?_
  rintro e x2 ⟨rfl, b2⟩
  have E := Lib.hid b2
  clear b2
  go_wp2_with fail
  refine (H_of2.out _).mono ?_
  rintro e x3 ⟨rfl, b3⟩
  have E := Lib.hid (chain E.out b3)
  clear b3
  have TOT := Lib.hid (chain TOT.out E.out)
  go_wp2_with fail
  refine (H_wm7.out _).mono ?_
  rintro e x4 ⟨rfl, b4⟩
  have E := Lib.hid b4
  clear b4
  go_wp2_with fail
  refine (H_wp2.out _).mono ?_
  rintro e x5 ⟨rfl, b5⟩
  have E := Lib.hid (chain E.out b5)
  clear b5
  go_wp2_with fail
  refine (H_quo1.out _).mono ?_
  rintro e x6 ⟨rfl, b6⟩
  have E := Lib.hid (chain E.out b6)
  clear b6
  obtain ⟨u4, hu4⟩ : ∃ u : World, u = (x6.alloc (.cells #[.bool b_m4, .string s_m4] 23)).alloc (.cells #[.bool b_p1, .string s_p1] 23) := ⟨_, rfl⟩
  have D : Hid (Below x3.heap.size x3 u4) := by rw [hu4]; exact ((E.out.alloc E.out.size _).alloc (Nat.le_trans E.out.size (by simp)) _)
  have T3 : Hid (ZC (.bool b_m4) (.string s_m4) u4 x6.heap.size) := by rw [hu4]; exact (ZC.new rfl).alloc _
  have T4 : Hid (ZC (.bool b_p1) (.string s_p1) u4 (x6.heap.size + 1)) := by rw [hu4]; exact ZC.new (by simp)
  have TOT := Lib.hid (chain TOT.out D.out)
  have Hu4 := Lib.hid hu4
  clear hu4 D E
  go_wp2_with fail
  rw [← Hu4.out]
  clear Hu4
  refine (H_wp7.out _).mono ?_
  rintro e x7 ⟨rfl, b7⟩
  have E := Lib.hid b7
  clear b7
  go_wp2_with fail
  refine (H_wm2.out _).mono ?_
  rintro e x8 ⟨rfl, b8⟩
  have E := Lib.hid (chain E.out b8)
  clear b8
  go_wp2_with fail
  refine (H_quo2.out _).mono ?_
  rintro e x9 ⟨rfl, b9⟩
  have E := Lib.hid (chain E.out b9)
  clear b9
  obtain ⟨u5, hu5⟩ : ∃ u : World, u = (x9.alloc (.cells #[.bool b_m3, .string s_m3] 23)).alloc (.cells #[.bool b_p1, .string s_p1] 23) := ⟨_, rfl⟩
  have D : Hid (Below u4.heap.size u4 u5) := by rw [hu5]; exact ((E.out.alloc E.out.size _).alloc (Nat.le_trans E.out.size (by simp)) _)
  have T3 := Lib.hid (T3.out.next D.out)
  have T4 := Lib.hid (T4.out.next D.out)
  have T6 : Hid (ZC (.bool b_m3) (.string s_m3) u5 x9.heap.size) := by rw [hu5]; exact (ZC.new rfl).alloc _
  have T7 : Hid (ZC (.bool b_p1) (.string s_p1) u5 (x9.heap.size + 1)) := by rw [hu5]; exact ZC.new (by simp)
  have TOT := Lib.hid (chain TOT.out D.out)
  have Hu5 := Lib.hid hu5
  clear hu5 D E
  go_wp2_with fail
  rw [← Hu5.out]
  clear Hu5
  refine (H_wm7.out _).mono ?_
  rintro e x10 ⟨rfl, b10⟩
  have E := Lib.hid b10
  clear b10
  go_wp2_with fail
  refine (H_wm2.out _).mono ?_
  rintro e x11 ⟨rfl, b11⟩
  have E := Lib.hid (chain E.out b11)
  clear b11
  go_wp2_with fail
  refine (H_quo3.out _).mono ?_
  rintro e x12 ⟨rfl, b12⟩
  have E := Lib.hid (chain E.out b12)
  clear b12
  obtain ⟨u6, hu6⟩ : ∃ u : World, u = (x12.alloc (.cells #[.bool b_p4, .string s_p4] 23)).alloc (.cells #[.bool b_p1, .string s_p1] 23) := ⟨_, rfl⟩
  have D : Hid (Below u5.heap.size u5 u6) := by rw [hu6]; exact ((E.out.alloc E.out.size _).alloc (Nat.le_trans E.out.size (by simp)) _)
  have T3 := Lib.hid (T3.out.next D.out)
  have T4 := Lib.hid (T4.out.next D.out)
  have T6 := Lib.hid (T6.out.next D.out)
  have T7 := Lib.hid (T7.out.next D.out)
  have T9 : Hid (ZC (.bool b_p4) (.string s_p4) u6 x12.heap.size) := by rw [hu6]; exact (ZC.new rfl).alloc _
  have T10 : Hid (ZC (.bool b_p1) (.string s_p1) u6 (x12.heap.size + 1)) := by rw [hu6]; exact ZC.new (by simp)
  have TOT := Lib.hid (chain TOT.out D.out)
  have Hu6 := Lib.hid hu6
  clear hu6 D E
  go_wp2_with fail
  rw [← Hu6.out]
  clear Hu6
  refine (H_wp7.out _).mono ?_
  rintro e x13 ⟨rfl, b13⟩
  have E := Lib.hid b13
  clear b13
  go_wp2_with fail
  refine (H_wp0.out _).mono ?_
  rintro e x14 ⟨rfl, b14⟩
  have E := Lib.hid (chain E.out b14)
  clear b14
  go_wp2_with fail
  refine (H_quo4.out _).mono ?_
  rintro e x15 ⟨rfl, b15⟩
  have E := Lib.hid (chain E.out b15)
  clear b15
  obtain ⟨u7, hu7⟩ : ∃ u : World, u = (x15.alloc (.cells #[.bool b_p0, .string s_p0] 23)).alloc (.cells #[.bool b_p0, .string s_p0] 23) := ⟨_, rfl⟩
  have D : Hid (Below u6.heap.size u6 u7) := by rw [hu7]; exact ((E.out.alloc E.out.size _).alloc (Nat.le_trans E.out.size (by simp)) _)
  have T3 := Lib.hid (T3.out.next D.out)
  have T4 := Lib.hid (T4.out.next D.out)
  have T6 := Lib.hid (T6.out.next D.out)
  have T7 := Lib.hid (T7.out.next D.out)
  have T9 := Lib.hid (T9.out.next D.out)
  have T10 := Lib.hid (T10.out.next D.out)
  have T12 : Hid (ZC (.bool b_p0) (.string s_p0) u7 x15.heap.size) := by rw [hu7]; exact (ZC.new rfl).alloc _
  have T13 : Hid (ZC (.bool b_p0) (.string s_p0) u7 (x15.heap.size + 1)) := by rw [hu7]; exact ZC.new (by simp)
  have TOT := Lib.hid (chain TOT.out D.out)
  have Hu7 := Lib.hid hu7
  clear hu7 D E
  clear T12 T13
  go_wp2_with fail
  rw [← Hu7.out]
  clear Hu7
  obtain ⟨k0, k1, _⟩ := T3.out
  obtain ⟨k2, k3, _⟩ := T4.out
  obtain ⟨k4, k5, _⟩ := T6.out
  obtain ⟨k6, k7, _⟩ := T7.out
  obtain ⟨k8, k9, _⟩ := T9.out
  obtain ⟨k10, k11, _⟩ := T10.out
  go_region_held3 (fun W' => W'.cell? ⟨x6.heap.size, 0, none⟩ = some (.bool b_m4) ∧ W'.cell? ⟨x6.heap.size, 1, none⟩ = some (.string s_m4) ∧ W'.cell? ⟨(x6.heap.size + 1), 0, none⟩ = some (.bool b_p1) ∧ W'.cell? ⟨(x6.heap.size + 1), 1, none⟩ = some (.string s_p1) ∧ W'.cell? ⟨x9.heap.size, 0, none⟩ = some (.bool b_m3) ∧ W'.cell? ⟨x9.heap.size, 1, none⟩ = some (.string s_m3) ∧ W'.cell? ⟨(x9.heap.size + 1), 0, none⟩ = some (.bool b_p1) ∧ W'.cell? ⟨(x9.heap.size + 1), 1, none⟩ = some (.string s_p1) ∧ W'.cell? ⟨x12.heap.size, 0, none⟩ = some (.bool b_p4) ∧ W'.cell? ⟨x12.heap.size, 1, none⟩ = some (.string s_p4) ∧ W'.cell? ⟨(x12.heap.size + 1), 0, none⟩ = some (.bool b_p1) ∧ W'.cell? ⟨(x12.heap.size + 1), 1, none⟩ = some (.string s_p1)) (go_keep)
    (first
      | (go_at_call 23; (with_reducible refine (H_wm4.out _).mono ?_); rintro e y ⟨rfl, b9⟩; have D := Lib.hid (show Below u7.heap.size u7 y by first | exact chain D.out b9 | exact chain ((Below.refl _ _).drew) b9); have p0 := keep1 D.out k0; have p1 := keep1 D.out k1; have p2 := keep1 D.out k2; have p3 := keep1 D.out k3; have p4 := keep1 D.out k4; have p5 := keep1 D.out k5; have p6 := keep1 D.out k6; have p7 := keep1 D.out k7; have p8 := keep1 D.out k8; have p9 := keep1 D.out k9; have p10 := keep1 D.out k10; have p11 := keep1 D.out k11; clear b9)
      | (go_at_call 23; (with_reducible refine (H_wp1.out _).mono ?_); rintro e y ⟨rfl, b9⟩; have D := Lib.hid (show Below u7.heap.size u7 y by first | exact chain D.out b9 | exact chain ((Below.refl _ _).drew) b9); have p0 := keep1 D.out k0; have p1 := keep1 D.out k1; have p2 := keep1 D.out k2; have p3 := keep1 D.out k3; have p4 := keep1 D.out k4; have p5 := keep1 D.out k5; have p6 := keep1 D.out k6; have p7 := keep1 D.out k7; have p8 := keep1 D.out k8; have p9 := keep1 D.out k9; have p10 := keep1 D.out k10; have p11 := keep1 D.out k11; clear b9)
      | (go_at_call 23; (with_reducible refine (H_wm3.out _).mono ?_); rintro e y ⟨rfl, b9⟩; have D := Lib.hid (show Below u7.heap.size u7 y by first | exact chain D.out b9 | exact chain ((Below.refl _ _).drew) b9); have p0 := keep1 D.out k0; have p1 := keep1 D.out k1; have p2 := keep1 D.out k2; have p3 := keep1 D.out k3; have p4 := keep1 D.out k4; have p5 := keep1 D.out k5; have p6 := keep1 D.out k6; have p7 := keep1 D.out k7; have p8 := keep1 D.out k8; have p9 := keep1 D.out k9; have p10 := keep1 D.out k10; have p11 := keep1 D.out k11; clear b9)
      | (go_at_call 23; (with_reducible refine (H_wp4.out _).mono ?_); rintro e y ⟨rfl, b9⟩; have D := Lib.hid (show Below u7.heap.size u7 y by first | exact chain D.out b9 | exact chain ((Below.refl _ _).drew) b9); have p0 := keep1 D.out k0; have p1 := keep1 D.out k1; have p2 := keep1 D.out k2; have p3 := keep1 D.out k3; have p4 := keep1 D.out k4; have p5 := keep1 D.out k5; have p6 := keep1 D.out k6; have p7 := keep1 D.out k7; have p8 := keep1 D.out k8; have p9 := keep1 D.out k9; have p10 := keep1 D.out k10; have p11 := keep1 D.out k11; clear b9)
      | fail)
  have TOT := Lib.hid (chain TOT.out D.out)
  clear T3 T4 T6 T7 T9 T10 k0 k1 k2 k3 k4 k5 k6 k7 k8 k9 k10 k11 p0 p1 p2 p3 p4 p5 p6 p7 p8 p9 p10 p11 D
  go_wp2_with fail
  refine (H_wm12.out _).mono ?_
  rintro e x16 ⟨rfl, b16⟩
  have E := Lib.hid b16
  clear b16
  go_wp2_with fail
  refine (H_wp18.out _).mono ?_
  rintro e x17 ⟨rfl, b17⟩
  have E := Lib.hid (chain E.out b17)
  clear b17
  go_wp2_with fail
  refine (H_gcd1.out _).mono ?_
  rintro e x18 ⟨rfl, b18⟩
  have E := Lib.hid (chain E.out b18)
  clear b18
  obtain ⟨u10, hu10⟩ : ∃ u : World, u = x18.alloc (.cells #[.bool b_p6, .string s_p6] 23) := ⟨_, rfl⟩
  have D : Hid (Below y.heap.size y u10) := by rw [hu10]; exact (E.out.alloc E.out.size _)
  have T15 : Hid (ZC (.bool b_p6) (.string s_p6) u10 x18.heap.size) := by rw [hu10]; exact ZC.new rfl
  have TOT := Lib.hid (chain TOT.out D.out)
  have Hu10 := Lib.hid hu10
  clear hu10 D E
  go_wp2_with fail
  rw [← Hu10.out]
  clear Hu10
  refine (H_wp0.out _).mono ?_
  rintro e x19 ⟨rfl, b19⟩
  have E := Lib.hid b19
  clear b19
  go_wp2_with fail
  refine (H_wp0.out _).mono ?_
  rintro e x20 ⟨rfl, b20⟩
  have E := Lib.hid (chain E.out b20)
  clear b20
  go_wp2_with fail
  refine (H_gcd2.out _).mono ?_
  rintro e x21 ⟨rfl, b21⟩
  have E := Lib.hid (chain E.out b21)
  clear b21
  obtain ⟨u11, hu11⟩ : ∃ u : World, u = x21.alloc (.cells #[.bool b_p0, .string s_p0] 23) := ⟨_, rfl⟩
  have D : Hid (Below u10.heap.size u10 u11) := by rw [hu11]; exact (E.out.alloc E.out.size _)
  have T15 := Lib.hid (T15.out.next D.out)
  have T16 : Hid (ZC (.bool b_p0) (.string s_p0) u11 x21.heap.size) := by rw [hu11]; exact ZC.new rfl
  have TOT := Lib.hid (chain TOT.out D.out)
  have Hu11 := Lib.hid hu11
  clear hu11 D E
  go_wp2_with fail
  rw [← Hu11.out]
  clear Hu11
  refine (H_wm5.out _).mono ?_
  rintro e x22 ⟨rfl, b22⟩
  have E := Lib.hid b22
  clear b22
  go_wp2_with fail
  refine (H_shift1.out _).mono ?_
  rintro e x23 ⟨rfl, b23⟩
  have E := Lib.hid (chain E.out b23)
  clear b23
  obtain ⟨u12, hu12⟩ : ∃ u : World, u = x23.alloc (.cells #[.bool b_m3, .string s_m3] 23) := ⟨_, rfl⟩
  have D : Hid (Below u11.heap.size u11 u12) := by rw [hu12]; exact (E.out.alloc E.out.size _)
  have T15 := Lib.hid (T15.out.next D.out)
  have T16 := Lib.hid (T16.out.next D.out)
  have T17 : Hid (ZC (.bool b_m3) (.string s_m3) u12 x23.heap.size) := by rw [hu12]; exact ZC.new rfl
  have TOT := Lib.hid (chain TOT.out D.out)
  have Hu12 := Lib.hid hu12
  clear hu12 D E
  go_wp2_with fail
  rw [← Hu12.out]
  clear Hu12
  refine (H_wp5.out _).mono ?_
  rintro e x24 ⟨rfl, b24⟩
  have E := Lib.hid b24
  clear b24
  go_wp2_with fail
  refine (H_shift2.out _).mono ?_
  rintro e x25 ⟨rfl, b25⟩
  have E := Lib.hid (chain E.out b25)
  clear b25
  obtain ⟨u13, hu13⟩ : ∃ u : World, u = x25.alloc (.cells #[.bool b_p40, .string s_p40] 23) := ⟨_, rfl⟩
  have D : Hid (Below u12.heap.size u12 u13) := by rw [hu13]; exact (E.out.alloc E.out.size _)
  have T15 := Lib.hid (T15.out.next D.out)
  have T16 := Lib.hid (T16.out.next D.out)
  have T17 := Lib.hid (T17.out.next D.out)
  have T19 : Hid (ZC (.bool b_p40) (.string s_p40) u13 x25.heap.size) := by rw [hu13]; exact ZC.new rfl
  have TOT := Lib.hid (chain TOT.out D.out)
  have Hu13 := Lib.hid hu13
  clear hu13 D E
  go_wp2_with fail
  rw [← Hu13.out]
  clear Hu13
  obtain ⟨k0, k1, _⟩ := T15.out
  obtain ⟨k2, k3, _⟩ := T16.out
  obtain ⟨k4, k5, _⟩ := T17.out
  obtain ⟨k6, k7, _⟩ := T19.out
  go_region_held3 (fun W' => W'.cell? ⟨x18.heap.size, 0, none⟩ = some (.bool b_p6) ∧ W'.cell? ⟨x18.heap.size, 1, none⟩ = some (.string s_p6) ∧ W'.cell? ⟨x21.heap.size, 0, none⟩ = some (.bool b_p0) ∧ W'.cell? ⟨x21.heap.size, 1, none⟩ = some (.string s_p0) ∧ W'.cell? ⟨x23.heap.size, 0, none⟩ = some (.bool b_m3) ∧ W'.cell? ⟨x23.heap.size, 1, none⟩ = some (.string s_m3) ∧ W'.cell? ⟨x25.heap.size, 0, none⟩ = some (.bool b_p40) ∧ W'.cell? ⟨x25.heap.size, 1, none⟩ = some (.string s_p40)) (go_keep)
    (first
      | (go_at_call 23; (with_reducible refine (H_wp6.out _).mono ?_); rintro e y ⟨rfl, b9⟩; have D := Lib.hid (show Below u13.heap.size u13 y by first | exact chain D.out b9 | exact chain ((Below.refl _ _).drew) b9); have p0 := keep1 D.out k0; have p1 := keep1 D.out k1; have p2 := keep1 D.out k2; have p3 := keep1 D.out k3; have p4 := keep1 D.out k4; have p5 := keep1 D.out k5; have p6 := keep1 D.out k6; have p7 := keep1 D.out k7; clear b9)
      | (go_at_call 23; (with_reducible refine (H_wp0.out _).mono ?_); rintro e y ⟨rfl, b9⟩; have D := Lib.hid (show Below u13.heap.size u13 y by first | exact chain D.out b9 | exact chain ((Below.refl _ _).drew) b9); have p0 := keep1 D.out k0; have p1 := keep1 D.out k1; have p2 := keep1 D.out k2; have p3 := keep1 D.out k3; have p4 := keep1 D.out k4; have p5 := keep1 D.out k5; have p6 := keep1 D.out k6; have p7 := keep1 D.out k7; clear b9)
      | (go_at_call 23; (with_reducible refine (H_wm3.out _).mono ?_); rintro e y ⟨rfl, b9⟩; have D := Lib.hid (show Below u13.heap.size u13 y by first | exact chain D.out b9 | exact chain ((Below.refl _ _).drew) b9); have p0 := keep1 D.out k0; have p1 := keep1 D.out k1; have p2 := keep1 D.out k2; have p3 := keep1 D.out k3; have p4 := keep1 D.out k4; have p5 := keep1 D.out k5; have p6 := keep1 D.out k6; have p7 := keep1 D.out k7; clear b9)
      | (go_at_call 23; (with_reducible refine (H_wp40.out _).mono ?_); rintro e y ⟨rfl, b9⟩; have D := Lib.hid (show Below u13.heap.size u13 y by first | exact chain D.out b9 | exact chain ((Below.refl _ _).drew) b9); have p0 := keep1 D.out k0; have p1 := keep1 D.out k1; have p2 := keep1 D.out k2; have p3 := keep1 D.out k3; have p4 := keep1 D.out k4; have p5 := keep1 D.out k5; have p6 := keep1 D.out k6; have p7 := keep1 D.out k7; clear b9)
      | fail)
  have TOT := Lib.hid (chain TOT.out D.out)
  clear T15 T16 T17 T19 k0 k1 k2 k3 k4 k5 k6 k7 p0 p1 p2 p3 p4 p5 p6 p7 D
  go_wp2_with fail
  refine (H_parse1.out _).mono ?_
  rintro e x26 ⟨rfl, b26⟩
  have E := Lib.hid b26
  clear b26
  have TOT := Lib.hid (chain TOT.out E.out)
  go_wp2_with fail
  refine (H_parse2.out _).mono ?_
  rintro e x27 ⟨rfl, b27⟩
  have E := Lib.hid b27
  clear b27
  have TOT := Lib.hid (chain TOT.out E.out)
  go_wp2_with fail
  refine (H_parse3.out _).mono ?_
  rintro e x28 ⟨rfl, b28⟩
  have E := Lib.hid b28
  clear b28
  obtain ⟨u18, hu18⟩ : ∃ u : World, u = x28.alloc (.cells #[.bool true, .string ⟨#[1, 0, 0, 0, 0, 0, 0, 0, 0]⟩] 23) := ⟨_, rfl⟩
  have D : Hid (Below x27.heap.size x27 u18) := by rw [hu18]; exact (E.out.alloc E.out.size _)
  have T21 : Hid (ZC (.bool true) (.string ⟨#[1, 0, 0, 0, 0, 0, 0, 0, 0]⟩) u18 x28.heap.size) := by rw [hu18]; exact ZC.new rfl
  have TOT := Lib.hid (chain TOT.out D.out)
  have Hu18 := Lib.hid hu18
  clear hu18 D E
  obtain ⟨k0, k1, _⟩ := T21.out
  clear T21
  go_wp2_with fail
  rw [← Hu18.out]
  clear Hu18
  refine (H_len.out _).mono ?_
  rintro e x29 ⟨rfl, b29⟩
  have E := Lib.hid b29
  clear b29
  have p0 := keep1 E.out k0
  have p1 := keep1 E.out k1
  go_wp2_with fail
  refine (H_sign.out _).mono ?_
  rintro e x30 ⟨rfl, b30⟩
  have E := Lib.hid (chain E.out b30)
  clear b30
  have TOT := Lib.hid (chain TOT.out E.out)
  clear k0 k1 p0 p1 E
  go_wp2_with fail
  refine (H_ratof1.out _).mono ?_
  rintro e x31 ⟨rfl, b31⟩
  have E := Lib.hid b31
  clear b31
  obtain ⟨u21, hu21⟩ : ∃ u : World, u = x31.alloc (.cells #[.bool b_m3, .string s_m3, .bool b_p2, .string s_p2] 64) := ⟨_, rfl⟩
  have D : Hid (Below x30.heap.size x30 u21) := by rw [hu21]; exact (E.out.alloc E.out.size _)
  have T23 : Hid (ZC4 (.bool b_m3) (.string s_m3) (.bool b_p2) (.string s_p2) u21 x31.heap.size) := by rw [hu21]; exact ZC4.made0 x31
  have TOT := Lib.hid (chain TOT.out D.out)
  have Hu21 := Lib.hid hu21
  clear hu21 D E
  go_wp2_with fail
  rw [← Hu21.out]
  clear Hu21
  refine (H_ratof2.out _).mono ?_
  rintro e x32 ⟨rfl, b32⟩
  have E := Lib.hid b32
  clear b32
  obtain ⟨u22, hu22⟩ : ∃ u : World, u = x32.alloc (.cells #[.bool b_p0, .string s_p0, .bool b_p1, .string s_p1] 64) := ⟨_, rfl⟩
  have D : Hid (Below u21.heap.size u21 u22) := by rw [hu22]; exact (E.out.alloc E.out.size _)
  have T23 := Lib.hid (T23.out.next D.out)
  have T24 : Hid (ZC4 (.bool b_p0) (.string s_p0) (.bool b_p1) (.string s_p1) u22 x32.heap.size) := by rw [hu22]; exact ZC4.made0 x32
  have TOT := Lib.hid (chain TOT.out D.out)
  have Hu22 := Lib.hid hu22
  clear hu22 D E
  go_wp2_with fail
  rw [← Hu22.out]
  clear Hu22
  refine (H_qm3p2.out _).mono ?_
  rintro e x33 ⟨rfl, b33⟩
  have E := Lib.hid b33
  clear b33
  go_wp2_with fail
  refine (H_floor.out _).mono ?_
  rintro e x34 ⟨rfl, b34⟩
  have E := Lib.hid (chain E.out b34)
  clear b34
  obtain ⟨u23, hu23⟩ : ∃ u : World, u = x34.alloc (.cells #[.bool b_m2, .string s_m2] 23) := ⟨_, rfl⟩
  have D : Hid (Below u22.heap.size u22 u23) := by rw [hu23]; exact (E.out.alloc E.out.size _)
  have T23 := Lib.hid (T23.out.next D.out)
  have T24 := Lib.hid (T24.out.next D.out)
  have T25 : Hid (ZC (.bool b_m2) (.string s_m2) u23 x34.heap.size) := by rw [hu23]; exact ZC.new rfl
  have TOT := Lib.hid (chain TOT.out D.out)
  have Hu23 := Lib.hid hu23
  clear hu23 D E
  go_wp2_with fail
  rw [← Hu23.out]
  clear Hu23
  obtain ⟨⟨k0, k1, k2, k3⟩, _⟩ := T23.out
  obtain ⟨⟨k4, k5, k6, k7⟩, _⟩ := T24.out
  obtain ⟨k8, k9, _⟩ := T25.out
  go_region_held3 (fun W' => W'.cell? ⟨x31.heap.size, 0, none⟩ = some (.bool b_m3) ∧ W'.cell? ⟨x31.heap.size, 1, none⟩ = some (.string s_m3) ∧ W'.cell? ⟨x31.heap.size, 2, none⟩ = some (.bool b_p2) ∧ W'.cell? ⟨x31.heap.size, 3, none⟩ = some (.string s_p2) ∧ W'.cell? ⟨x32.heap.size, 0, none⟩ = some (.bool b_p0) ∧ W'.cell? ⟨x32.heap.size, 1, none⟩ = some (.string s_p0) ∧ W'.cell? ⟨x32.heap.size, 2, none⟩ = some (.bool b_p1) ∧ W'.cell? ⟨x32.heap.size, 3, none⟩ = some (.string s_p1) ∧ W'.cell? ⟨x34.heap.size, 0, none⟩ = some (.bool b_m2) ∧ W'.cell? ⟨x34.heap.size, 1, none⟩ = some (.string s_m2)) (go_keep)
    (first
      | (go_at_call 50; (with_reducible refine (H_qm3p2.out _).mono ?_); rintro e y ⟨rfl, b9⟩; have D := Lib.hid (show Below u23.heap.size u23 y by first | exact chain D.out b9 | exact chain ((Below.refl _ _).drew) b9); have p0 := keep1 D.out k0; have p1 := keep1 D.out k1; have p2 := keep1 D.out k2; have p3 := keep1 D.out k3; have p4 := keep1 D.out k4; have p5 := keep1 D.out k5; have p6 := keep1 D.out k6; have p7 := keep1 D.out k7; have p8 := keep1 D.out k8; have p9 := keep1 D.out k9; clear b9)
      | (go_at_call 50; (with_reducible refine (H_qp0p1.out _).mono ?_); rintro e y ⟨rfl, b9⟩; have D := Lib.hid (show Below u23.heap.size u23 y by first | exact chain D.out b9 | exact chain ((Below.refl _ _).drew) b9); have p0 := keep1 D.out k0; have p1 := keep1 D.out k1; have p2 := keep1 D.out k2; have p3 := keep1 D.out k3; have p4 := keep1 D.out k4; have p5 := keep1 D.out k5; have p6 := keep1 D.out k6; have p7 := keep1 D.out k7; have p8 := keep1 D.out k8; have p9 := keep1 D.out k9; clear b9)
      | (go_at_call 23; (with_reducible refine (H_wm2.out _).mono ?_); rintro e y ⟨rfl, b9⟩; have D := Lib.hid (show Below u23.heap.size u23 y by first | exact chain D.out b9 | exact chain ((Below.refl _ _).drew) b9); have p0 := keep1 D.out k0; have p1 := keep1 D.out k1; have p2 := keep1 D.out k2; have p3 := keep1 D.out k3; have p4 := keep1 D.out k4; have p5 := keep1 D.out k5; have p6 := keep1 D.out k6; have p7 := keep1 D.out k7; have p8 := keep1 D.out k8; have p9 := keep1 D.out k9; clear b9)
      | fail)
  have TOT := Lib.hid (chain TOT.out D.out)
  clear T23 T24 T25 k0 k1 k2 k3 k4 k5 k6 k7 k8 k9 p0 p1 p2 p3 p4 p5 p6 p7 p8 p9 D
  go_wp2_with fail
  refine (H_qp1p2.out _).mono ?_
  rintro e x35 ⟨rfl, b35⟩
  have E := Lib.hid b35
  clear b35
  go_wp2_with fail
  refine (H_qp1p3.out _).mono ?_
  rintro e x36 ⟨rfl, b36⟩
  have E := Lib.hid (chain E.out b36)
  clear b36
  go_wp2_with fail
  refine (H_add.out _).mono ?_
  rintro e x37 ⟨rfl, b37⟩
  have E := Lib.hid (chain E.out b37)
  clear b37
  obtain ⟨u26, hu26⟩ : ∃ u : World, u = x37.alloc (.cells #[.bool b_p5, .string s_p5, .bool b_p6, .string s_p6] 64) := ⟨_, rfl⟩
  have D : Hid (Below y.heap.size y u26) := by rw [hu26]; exact (E.out.alloc E.out.size _)
  have T27 : Hid (ZC4 (.bool b_p5) (.string s_p5) (.bool b_p6) (.string s_p6) u26 x37.heap.size) := by rw [hu26]; exact ZC4.made0 x37
  have TOT := Lib.hid (chain TOT.out D.out)
  have Hu26 := Lib.hid hu26
  clear hu26 D E
  go_wp2_with fail
  rw [← Hu26.out]
  clear Hu26
  refine (H_qp2p3.out _).mono ?_
  rintro e x38 ⟨rfl, b38⟩
  have E := Lib.hid b38
  clear b38
  go_wp2_with fail
  refine (H_qp3p4.out _).mono ?_
  rintro e x39 ⟨rfl, b39⟩
  have E := Lib.hid (chain E.out b39)
  clear b39
  go_wp2_with fail
  refine (H_mul.out _).mono ?_
  rintro e x40 ⟨rfl, b40⟩
  have E := Lib.hid (chain E.out b40)
  clear b40
  obtain ⟨u27, hu27⟩ : ∃ u : World, u = x40.alloc (.cells #[.bool b_p1, .string s_p1, .bool b_p2, .string s_p2] 64) := ⟨_, rfl⟩
  have D : Hid (Below u26.heap.size u26 u27) := by rw [hu27]; exact (E.out.alloc E.out.size _)
  have T27 := Lib.hid (T27.out.next D.out)
  have T28 : Hid (ZC4 (.bool b_p1) (.string s_p1) (.bool b_p2) (.string s_p2) u27 x40.heap.size) := by rw [hu27]; exact ZC4.made0 x40
  have TOT := Lib.hid (chain TOT.out D.out)
  have Hu27 := Lib.hid hu27
  clear hu27 D E
  go_wp2_with fail
  rw [← Hu27.out]
  clear Hu27
  refine (H_qp2p4.out _).mono ?_
  rintro e x41 ⟨rfl, b41⟩
  have E := Lib.hid b41
  clear b41
  go_wp2_with fail
  refine (H_qp1p2.out _).mono ?_
  rintro e x42 ⟨rfl, b42⟩
  have E := Lib.hid (chain E.out b42)
  clear b42
  go_wp2_with fail
  refine (H_cmp.out _).mono ?_
  rintro e x43 ⟨rfl, b43⟩
  have E := Lib.hid (chain E.out b43)
  clear b43
  have TOT := Lib.hid (chain TOT.out E.out)
  have T27 := Lib.hid (T27.out.next E.out)
  have T28 := Lib.hid (T28.out.next E.out)
  go_wp2_with fail
  obtain ⟨⟨k0, k1, k2, k3⟩, _⟩ := T27.out
  obtain ⟨⟨k4, k5, k6, k7⟩, _⟩ := T28.out
  go_region_held3 (fun W' => W'.cell? ⟨x37.heap.size, 0, none⟩ = some (.bool b_p5) ∧ W'.cell? ⟨x37.heap.size, 1, none⟩ = some (.string s_p5) ∧ W'.cell? ⟨x37.heap.size, 2, none⟩ = some (.bool b_p6) ∧ W'.cell? ⟨x37.heap.size, 3, none⟩ = some (.string s_p6) ∧ W'.cell? ⟨x40.heap.size, 0, none⟩ = some (.bool b_p1) ∧ W'.cell? ⟨x40.heap.size, 1, none⟩ = some (.string s_p1) ∧ W'.cell? ⟨x40.heap.size, 2, none⟩ = some (.bool b_p2) ∧ W'.cell? ⟨x40.heap.size, 3, none⟩ = some (.string s_p2)) (go_keep)
    (first
      | (go_at_call 50; (with_reducible refine (H_qp5p6.out _).mono ?_); rintro e y ⟨rfl, b9⟩; have D := Lib.hid (show Below x43.heap.size x43 y by first | exact chain D.out b9 | exact chain ((Below.refl _ _).drew) b9); have p0 := keep1 D.out k0; have p1 := keep1 D.out k1; have p2 := keep1 D.out k2; have p3 := keep1 D.out k3; have p4 := keep1 D.out k4; have p5 := keep1 D.out k5; have p6 := keep1 D.out k6; have p7 := keep1 D.out k7; clear b9)
      | (go_at_call 50; (with_reducible refine (H_qp1p2.out _).mono ?_); rintro e y ⟨rfl, b9⟩; have D := Lib.hid (show Below x43.heap.size x43 y by first | exact chain D.out b9 | exact chain ((Below.refl _ _).drew) b9); have p0 := keep1 D.out k0; have p1 := keep1 D.out k1; have p2 := keep1 D.out k2; have p3 := keep1 D.out k3; have p4 := keep1 D.out k4; have p5 := keep1 D.out k5; have p6 := keep1 D.out k6; have p7 := keep1 D.out k7; clear b9)
      | fail)
  have TOT := Lib.hid (chain TOT.out D.out)
  clear T27 T28 k0 k1 k2 k3 k4 k5 k6 k7 p0 p1 p2 p3 p4 p5 p6 p7 D
  go_wp2
  go_ret
  exact ⟨rfl, TOT.out⟩
end Go.Proofs.Ytlmklhffafcmmaa

/- The law's functions short and valid. -/
namespace Go.Proofs.Ytlmklhffafcmmaa
open Go.RowKit

/-- A list of wide integers lies in a block. -/
def WL (w : World) (g : Nat) (L : List (Bool × ByteArray)) : Prop := ∀ k (h : k < L.length), w.cell? ⟨g, 2 * k, none⟩ = some (.bool L[k].1) ∧ w.cell? ⟨g, 2 * k + 1, none⟩ = some (.string L[k].2)
theorem WL.below {w w' : World} {g : Nat} {L : List (Bool × ByteArray)} (h : WL w g L) (b : Below w.heap.size w w') : WL w' g L := fun k hk => ⟨keep1 b (h k hk).1, keep1 b (h k hk).2⟩
theorem WL.one (w : World) (a : Bool) (s : ByteArray) (t : TypeId) : WL (w.alloc (.cells #[.bool a, .string s] t)) w.heap.size [(a, s)] := by
  intro k hk
  match k, hk with
  | 0, _ => exact ⟨by simp [go_sem], by simp [go_sem]⟩
theorem WL.two (w : World) (a b : Bool) (s t : ByteArray) (ty : TypeId) : WL (w.alloc (.cells #[.bool a, .string s, .bool b, .string t] ty)) w.heap.size [(a, s), (b, t)] := by
  intro k hk
  match k, hk with
  | 0, _ => exact ⟨by simp [go_sem], by simp [go_sem]⟩
  | 1, _ => exact ⟨by simp [go_sem], by simp [go_sem]⟩
def shortL (L : List (Bool × ByteArray)) : Bool := L.all fun x => decide (x.2.size ≤ 60)
def validL (L : List (Bool × ByteArray)) : Bool := L.all fun x => vld x.1 x.2
theorem all_false {L : List (Bool × ByteArray)} {p : Bool × ByteArray → Bool} {k : Nat} (hk : k < L.length) (h : p L[k] = false) : L.all p = false := by
  rw [List.all_eq_false]
  exact ⟨_, List.getElem_mem hk, by simp [h]⟩
theorem all_true {L : List (Bool × ByteArray)} {p : Bool × ByteArray → Bool} (h : ∀ k (hk : k < L.length), p L[k] = true) : L.all p = true := by
  rw [List.all_eq_true]
  intro x hx
  obtain ⟨k, hk, rfl⟩ := List.mem_iff_getElem.1 hx
  exact h k hk

set_option maxRecDepth 100000 in
set_option maxHeartbeats 2000000 in
theorem short_any (L : List (Bool × ByteArray)) (n g : Nat) (w : World) (hn : n = L.length) (hn4 : n ≤ 4) (h : WL w g L) :
    Calls Try.prog 11 #[.slice (some ⟨g, 0, none⟩) n n] w (BPost (shortL L) w) := by
  have HL := Lib.hid h
  have HN := Lib.hid hn
  have HE : Hid (shortL L = L.all fun x => decide (x.2.size ≤ 60)) := rfl
  generalize shortL L = res at *
  clear h hn
  go_enter Try.func11, Try.ntmps11
  go_wp2
  go_loopw [4, 7] (fun _ iv wr => ∃ (wz : World) (k : Nat), wz = wr ∧ k ≤ n ∧ iv = .int .i64 (k : Int) ∧ Hid (∀ j (hj : j < L.length), j < k → L[j].2.size ≤ 60) ∧ Hid (Below w.heap.size w wz))
    (fun _ iv _ => n - (intOf iv).toNat)
  case atStart => exact ⟨w, 0, rfl, Nat.zero_le _, rfl, fun j _ hj => absurd hj (Nat.not_lt_zero _), Below.refl _ _⟩
  case round =>
    obtain ⟨wz, k, rfl, hk, rfl, hall, hbl⟩ := hrel
    by_cases hlt : k < n
    · have hkl : k < L.length := by have h5 : n = L.length := HN.out; omega
      obtain ⟨a, s, hL⟩ : ∃ a s, L[k] = (a, s) := ⟨_, _, rfl⟩
      have c0 : wz.cell? ⟨g, k * 2, none⟩ = some (.bool a) := by
        rw [Nat.mul_comm k 2]
        have := ((HL.out.below hbl.out) k hkl).1
        simpa [hL] using this
      have c1 : wz.cell? ⟨g, k * 2 + 1, none⟩ = some (.string s) := by
        rw [Nat.mul_comm k 2]
        have := ((HL.out.below hbl.out) k hkl).2
        simpa [hL] using this
      have hall2 : Hid (∀ h : k < L.length, L[k].2.size ≤ 60 → ∀ j (hj : j < L.length), j < k + 1 → L[j].2.size ≤ 60) := by
        intro _ hs j hj hjk
        rcases Nat.lt_or_ge j k with g | g
        · exact hall.out j hj g
        · obtain rfl : j = k := by omega
          exact hs
      have hbad : Hid (∀ h : k < L.length, ¬ L[k].2.size ≤ 60 → res = false) := fun _ hs => by
        rw [HE.out]
        exact all_false hkl (by simpa using hs)
      have HKL := Lib.hid hkl
      have HS : Hid (∀ h : k < L.length, L[k].2 = s) := fun _ => by rw [hL]
      have hlw : Hid (g < wz.heap.size) := World.block_lt_of_cell? wz _ c0
      have f1 := hlw.out
      have f2 : ¬ wz.heap.size = g := by omega
      have f3 : ¬ g = wz.heap.size := by omega
      have HB2 := Lib.hid (hbl.out.alloc hbl.out.size (.cells #[.bool a, .string s] 23))
      clear hkl hL
      by_cases hsz : s.size ≤ 60
      · have hR := hall2.out HKL.out (by rw [HS.out HKL.out]; exact hsz)
        have HR := Lib.hid hR
        clear hR
        go_wp2
        go_roundw
        case rel => exact ⟨_, k + 1, rfl, by omega, by go_num, HR.out, HB2⟩
        case measure => simp [intOf]; omega
      · have hF := Lib.hid (hbad.out HKL.out (by rw [HS.out HKL.out]; exact hsz))
        go_wp2
        go_ret
        exact ⟨by rw [hF.out]; rfl, HB2.out⟩
    · have hT : Hid (res = true) := by
        show _ = _
        rw [HE.out]
        exact all_true fun j hj => by simpa using hall.out j hj (by have h5 : n = L.length := HN.out; omega)
      go_wp2
      go_ret
      exact ⟨by rw [hT.out]; rfl, hbl.out⟩
set_option maxRecDepth 100000 in
set_option maxHeartbeats 2000000 in
theorem valid_any (L : List (Bool × ByteArray)) (n g : Nat) (w : World) (hn : n = L.length) (hn4 : n ≤ 4) (h : WL w g L) (hz : ∀ x ∈ L, x.2.size ≤ 140737488351232) :
    Calls Try.prog 29 #[.slice (some ⟨g, 0, none⟩) n n] w (BPost (validL L) w) := by
  have HL := Lib.hid h
  have HV := Lib.hid (fun k (hk : k < L.length) w => rvalid_any L[k].1 L[k].2 w (hz _ (List.getElem_mem hk)))
  have HN := Lib.hid hn
  have HE : Hid (validL L = L.all fun x => vld x.1 x.2) := rfl
  generalize validL L = res at *
  clear h hn hz
  go_enter Try.func29, Try.ntmps29
  go_wp2
  go_loopw [4, 7] (fun _ iv wr => ∃ (wz : World) (k : Nat), wz = wr ∧ k ≤ n ∧ iv = .int .i64 (k : Int) ∧ Hid (∀ j (hj : j < L.length), j < k → vld L[j].1 L[j].2 = true) ∧ Hid (Below w.heap.size w wz))
    (fun _ iv _ => n - (intOf iv).toNat)
  case atStart => exact ⟨w, 0, rfl, Nat.zero_le _, rfl, fun j _ hj => absurd hj (Nat.not_lt_zero _), Below.refl _ _⟩
  case round =>
    obtain ⟨wz, k, rfl, hk, rfl, hall, hbl⟩ := hrel
    by_cases hlt : k < n
    · have hkl : k < L.length := by have h5 : n = L.length := HN.out; omega
      obtain ⟨a, s, hL⟩ : ∃ a s, L[k] = (a, s) := ⟨_, _, rfl⟩
      have c0 : wz.cell? ⟨g, k * 2, none⟩ = some (.bool a) := by
        rw [Nat.mul_comm k 2]
        have := ((HL.out.below hbl.out) k hkl).1
        simpa [hL] using this
      have c1 : wz.cell? ⟨g, k * 2 + 1, none⟩ = some (.string s) := by
        rw [Nat.mul_comm k 2]
        have := ((HL.out.below hbl.out) k hkl).2
        simpa [hL] using this
      have hall2 : Hid (∀ h : k < L.length, vld L[k].1 L[k].2 = true → ∀ j (hj : j < L.length), j < k + 1 → vld L[j].1 L[j].2 = true) := by
        intro _ hs j hj hjk
        rcases Nat.lt_or_ge j k with g | g
        · exact hall.out j hj g
        · obtain rfl : j = k := by omega
          exact hs
      have hbad : Hid (∀ h : k < L.length, ¬ vld L[k].1 L[k].2 = true → res = false) := fun _ hs => by
        rw [HE.out]
        exact all_false hkl (by simpa using hs)
      have HKL := Lib.hid hkl
      have HS : Hid (∀ h : k < L.length, vld L[k].1 L[k].2 = vld a s) := fun _ => by rw [hL]
      have HVk : Hid (∀ w, Calls Try.prog 14 #[.agg #[.bool a, .string s]] w (BPost (vld a s) w)) := by
        have := HV.out k hkl
        rw [hL] at this
        exact this
      have hlw : Hid (g < wz.heap.size) := World.block_lt_of_cell? wz _ c0
      have f1 := hlw.out
      have f2 : ¬ wz.heap.size = g := by omega
      have f3 : ¬ g = wz.heap.size := by omega
      have HB2 := Lib.hid (hbl.out.alloc hbl.out.size (.cells #[.bool a, .string s] 23))
      clear hkl hL
      by_cases hsz : vld a s = true
      · have hR := hall2.out HKL.out (by rw [HS.out HKL.out]; exact hsz)
        have HR := Lib.hid hR
        clear hR
        rw [hsz] at HVk
        go_wp2_with fail
        refine (HVk.out _).mono ?_
        rintro e w5 ⟨rfl, b5⟩
        have HB2 := Lib.hid (chain HB2.out b5)
        clear b5
        go_wp2
        go_roundw
        case rel => exact ⟨_, k + 1, rfl, by omega, by go_num, HR.out, HB2⟩
        case measure => simp [intOf]; omega
      · have hF := Lib.hid (hbad.out HKL.out (by rw [HS.out HKL.out]; exact hsz))
        rw [Bool.not_eq_true] at hsz
        rw [hsz] at HVk
        go_wp2_with fail
        refine (HVk.out _).mono ?_
        rintro e w5 ⟨rfl, b5⟩
        have HB2 := Lib.hid (chain HB2.out b5)
        clear b5
        go_wp2
        go_ret
        exact ⟨by rw [hF.out]; rfl, HB2.out⟩
    · have hT : Hid (res = true) := by
        show _ = _
        rw [HE.out]
        exact all_true fun j hj => by simpa using hall.out j hj (by have h5 : n = L.length := HN.out; omega)
      go_wp2
      go_ret
      exact ⟨by rw [hT.out]; rfl, hbl.out⟩
end Go.Proofs.Ytlmklhffafcmmaa

/- The reference's From: the integer of a wide integer's bytes. -/
namespace Go.Proofs.Ytlmklhffafcmmaa
open Go.RowKit

theorem Ri.drew {w : World} {v : Value} {xs : List Nat} (h : Ri w v xs) : Ri w.drew v xs := h
theorem Ri.allocd {w : World} {v : Value} {xs : List Nat} (h : Ri w v xs) (o : Obj) : Ri (w.alloc o) v xs := h.below (below_one w o) (Nat.le_refl _)
theorem trim_one {x : Nat} (h : x < 256) : Nm.trimL [x] = Nm.dg D9 x := by
  have h1 : Nm.Dig D9 [x] := Nm.dig_cons.2 ⟨by unfold D9; omega, Nm.dig_nil _⟩
  rw [Nm.trimL_dg D92 h1]
  simp [Nm.val]
theorem dg9_256 {m k : Nat} (h : m < 256 ^ k) : (Nm.dg D9 m).length ≤ k := by
  refine Nm.len_le_of_val D92 (Nm.nrm_dg D92 m) ?_
  rw [Nm.val_dg D92]
  exact Nat.lt_of_lt_of_le h (Nat.pow_le_pow_left (by decide) k)
theorem wrap_byte {x : Nat} (h : x < 256) : IntKind.i64.wrap (x : Int) = (x : Int) := by
  unfold IntKind.wrap
  simp [IntKind.bits, IntKind.signed]
  omega
theorem hval_take {s : ByteArray} {k : Nat} (hk : k < s.size) : hval (s.data.toList.take (k + 1)) 0 = hval (s.data.toList.take k) 0 * 256 + s[k].toNat := by
  have h2 : k < s.data.toList.length := hk
  rw [List.take_succ_eq_append_getElem h2, hval_snoc]
  rfl
theorem hval_take_lt {s : ByteArray} {k : Nat} (hk : k ≤ s.size) : hval (s.data.toList.take k) 0 < 256 ^ k := by
  have h := hval_lt (s.data.toList.take k)
  have h2 : (s.data.toList.take k).length = k := by
    have : s.data.toList.length = s.size := rfl
    simp; omega
  rwa [h2] at h
theorem hval_all (s : ByteArray) : hval (s.data.toList.take s.size) 0 = bv s := by
  have h2 : s.data.toList.length = s.size := rfl
  rw [List.take_of_length_le (by omega), hval_eq, Nat.zero_mul, Nat.zero_add]; rfl

set_option maxRecDepth 100000 in
set_option maxHeartbeats 4000000 in
theorem rfrom_any (a : Bool) (s : ByteArray) (w : World) (hs : s.size ≤ 100000) : Calls Try.prog 18 #[.agg #[.bool a, .string s]] w (IntPost (sg a (bv s)) w) := by
  have HM := Lib.hid (fun v m w h => (rmade_any a v m w h).mono (made_int (z := sg a m) rfl))
  have HT := Lib.hid (fun v xs w h => rtrim_any v xs w h)
  obtain ⟨w0, hw0⟩ : ∃ w0 : World, w0 = (w.alloc (.cells #[.bool a, .string s] 23)).alloc (.cells #[.bool false, .slice none 0 0] 31) := ⟨_, rfl⟩
  have hb0 : Hid (Below w.heap.size w w0) := by rw [hw0]; exact ((Below.refl _ _).alloc (Nat.le_refl _) _).alloc (by simp) _
  have i1 : ZC (.bool a) (.string s) w0 w.heap.size := by rw [hw0]; exact (ZC.new rfl).alloc _
  have i2 : ZC (.bool false) (.slice none 0 0) w0 (w.heap.size + 1) := by rw [hw0]; exact ZC.new (by simp)
  have I1 := Lib.hid i1
  have I2 := Lib.hid i2
  have Hw0 := Lib.hid hw0
  clear i1 i2 hw0
  go_enter Try.func18, Try.ntmps18
  go_wp2_with fail
  rw [← Hw0.out]
  clear Hw0
  go_loopw [3, 4] (fun dv iv wr => ∃ (wz : World) (k : Nat), wz = wr ∧ k ≤ s.size ∧ iv = .int .i64 (k : Int) ∧ Hid (Ri wz dv (Nm.dg D9 (hval (s.data.toList.take k) 0))) ∧ Hid (Below w0.heap.size w0 wz))
    (fun _ iv _ => s.size - (intOf iv).toNat)
  case atStart => exact ⟨w0, 0, rfl, Nat.zero_le _, rfl, by rw [List.take_zero]; exact Ri.nil w0, Below.refl _ _⟩
  case round =>
    obtain ⟨wz, k, rfl, hk, rfl, hri, hbl⟩ := hrel
    by_cases hlt : k < s.size
    · have hmx := hval_take_lt (s := s) (k := k) hk
      have HS := Lib.hid (hval_take hlt)
      have hlm := Nat.le_trans (dg9_256 hmx) (by omega : k ≤ 1000000)
      obtain ⟨m, hm⟩ : ∃ m, hval (s.data.toList.take k) 0 = m := ⟨_, rfl⟩
      rw [hm] at hri HS hlm hmx
      obtain ⟨x, hx⟩ : ∃ x : Nat, s[k].toNat = x := ⟨_, rfl⟩
      have hx2 : x < 256 := by rw [← hx]; exact UInt8.toNat_lt _
      rw [hx] at HS
      have hlm2 : (Nm.dg D9 (m * 256)).length ≤ 1000000 := by
        refine Nat.le_trans (dg9_256 (k := k + 1) ?_) (by omega)
        rw [Nat.pow_succ]
        exact Nat.mul_lt_mul_of_pos_right hmx (by decide)
      have HSM : Hid (∀ v w', Ri w' v (Nm.dg D9 m) → Calls Try.prog 56 #[v, .int .i64 256] w' (GivesI (m * 256) w')) := fun v w' h => rsmall_any v m 256 w' (by decide) h hlm
      have HP : Hid (∀ v1 v2 w', Ri w' v1 (Nm.dg D9 (m * 256)) → Ri w' v2 (Nm.dg D9 x) → Calls Try.prog 55 #[v1, v2] w' (GivesI (m * 256 + x) w')) := fun v1 v2 w' h1 h2 => rplus_any v1 v2 (m * 256) x w' h1 h2 hlm2 (Nat.le_trans (dg9_256 (k := 1) hx2) (by decide))
      have HX := Lib.hid (trim_one hx2)
      have hRi := hri.out
      have hwr := wrap_byte hx2
      obtain ⟨k0, k1, _⟩ := I1.out.next hbl.out
      have k1b := k1
      have hxi : (s[k].toNat : Int) = (x : Int) := by rw [hx]
      have hsz : Hid (w.heap.size < wz.heap.size) := World.block_lt_of_cell? wz _ k0
      have hsz2 := hsz.out
      have hsz3 : ¬ wz.heap.size = w.heap.size := by omega
      have hsz4 : ¬ w.heap.size = wz.heap.size := by omega
      clear hm hmx hlm hlm2 k0
      go_wp2_with fail
      go_region_held3 (fun W' => W'.cell? ⟨w.heap.size, 1, none⟩ = some (.string s)) (go_keep)
        (first
          | (go_at_call 56; (with_reducible refine (HSM.out _ _ (by first | exact hRi | exact hRi.drew | exact hRi.allocd _ | exact (hRi.allocd _).drew | exact hRi.drew.allocd _)).mono ?_); rintro e w1 ⟨v1, rfl, r1, b1⟩; (try (have b1 := undrew b1)); have d1 : Below wz.heap.size wz w1 := chain (by first | exact Below.refl _ _ | exact (Below.refl _ _).drew | exact below_one _ _ | exact ((Below.refl _ _).drew).alloc (Nat.le_refl _) _) b1; have p1 := keep1 d1 k1b; (try (have X1 := Lib.hid ((Ri.one wz x).below b1 (Nat.le_refl _)))); have f1 : w.heap.size < w1.heap.size := Nat.lt_of_lt_of_le hsz.out d1.size; have f2 : ¬ w1.heap.size = w.heap.size := Nat.ne_of_gt f1; have f3 : ¬ w.heap.size = w1.heap.size := Nat.ne_of_lt f1; have G1 := Lib.hid r1)
          | (go_at_call 57; (with_reducible refine (HT.out _ [x] _ (by first | exact X1.out | exact Ri.one w1 x)).mono ?_); rintro e w2 ⟨v2, rfl, r2, rfl⟩; rw [HX.out] at r2; have G2 := Lib.hid r2)
          | (go_at_call 55; (with_reducible refine (HP.out _ _ _ (by first | exact G1.out | exact G1.out.allocd _) G2.out).mono ?_); rintro e w3 ⟨v3, rfl, r3, b3⟩; have d3 : Below wz.heap.size wz w3 := chain d1 (chain (by first | exact Below.refl _ _ | exact below_one _ _) b3); have p1 := keep1 d3 k1b; have G3 := Lib.hid r3; have D3 := Lib.hid d3)
          | fail)
      all_goals
        have C3 := Lib.hid (chain hbl.out D3.out)
        rw [← HS.out] at G3
        go_wp2
        go_roundw
        case rel => exact ⟨_, k + 1, rfl, by omega, by go_num, G3, C3⟩
        case measure => simp [intOf]; omega
    · obtain rfl : k = s.size := by omega
      have hRI := hri
      rw [hval_all] at hRI
      obtain ⟨k0, _⟩ := I1.out.next hbl.out
      clear hri
      go_wp2_with fail
      refine (HM.out _ _ _ hRI.out).mono ?_
      rintro e w4 ⟨v4, rfl, r4, b4⟩
      have c := chain hbl.out b4
      obtain ⟨m0, m1, m2, m3⟩ := I2.out.next c
      have HR := Lib.hid r4
      obtain ⟨p9, q9, o9, c9, rfl, hr9⟩ := r4
      unfold iV
      obtain ⟨zz, hzz⟩ : ∃ zz, decide (sg a (bv s) < 0) = zz := ⟨_, rfl⟩
      rw [hzz]
      have HZZ := Lib.hid hzz
      clear hzz
      have HZ := Lib.hid (below_set2 (chain hb0.out c) (g := w.heap.size + 1) (by omega) (.bool zz) (.slice p9 (Nm.dg D9 (sg a (bv s)).natAbs).length c9))
      have HR2 := Lib.hid (HR.out.set2 (u1 := .bool zz) (u2 := .slice p9 (Nm.dg D9 (sg a (bv s)).natAbs).length c9) m0 m1 (fun _ => by simp))
      clear b4 c hr9
      go_wp2
      exact bodyPost_ret (v := .agg #[.bool zz, .slice p9 (Nm.dg D9 (sg a (bv s)).natAbs).length c9]) (by simp [results, Try.results18, go_sem, m0, m1]) rfl ⟨_, by rw [iV, HZZ.out], HR2.out, HZ.out⟩
end Go.Proofs.Ytlmklhffafcmmaa

/- The law WideInts gives true. -/
namespace Go.Proofs.Ytlmklhffafcmmaa
open Go.RowKit

theorem sg_z (z : Int) : sg (zb z) z.natAbs = z := by
  unfold sg zb
  by_cases h : z < 0
  · rw [decide_eq_true h, if_pos rfl]; omega
  · rw [decide_eq_false h, if_neg (by simp)]; omega
theorem zb_sg {a : Bool} {s : ByteArray} (h : vld a s = true) : zb (sg a (bv s)) = a ∧ zs (sg a (bv s)) = s := by
  have hc := vld_can h
  have e1 : (sg a (bv s)).natAbs = bv s := by unfold sg; split <;> omega
  refine ⟨?_, by rw [zs, e1, bs_bv hc]⟩
  unfold sg zb
  cases a with
  | false => rw [if_neg (by simp)]; exact decide_eq_false (by omega)
  | true =>
    rw [if_pos rfl]
    have h0 : 0 < s.size := by
      rcases Nat.eq_zero_or_pos s.size with h0 | h0
      · unfold vld at h; rw [dif_neg (by omega)] at h; simp at h
      · exact h0
    have : bv s ≠ 0 := fun h1 => by have := (bv_zero_iff hc).1 h1; omega
    exact decide_eq_true (by omega)
theorem int_z (n : Int) (w : World) (h1 : -9223372036854775808 ≤ n) (h2 : n ≤ 9223372036854775807) : Calls Try.prog 24 #[.agg #[.bool (zb n), .string (zs n)]] w (Ret (.tuple #[.int .i64 n, .int .i64 0]) w) := by
  have h := Int_valid (zb n) (zs n) w (zv (by unfold W; omega))
  unfold IntWPost at h
  rw [bv_zs, sg_z, if_pos ⟨h1, h2⟩, if_pos ⟨h1, h2⟩] at h
  exact h
theorem short_false {a : Bool} {s : ByteArray} (h : ¬ s.size ≤ 60) : shortL [(a, s)] = false := by simp [shortL, h]
theorem short_true {a : Bool} {s : ByteArray} (h : s.size ≤ 60) : shortL [(a, s)] = true := by simp [shortL, h]

set_option maxRecDepth 100000 in
set_option maxHeartbeats 4000000 in
theorem ints_long (n : Int) (a : Bool) (s : ByteArray) (w : World) (h1 : -9223372036854775808 ≤ n) (h2 : n ≤ 9223372036854775807) (hs : ¬ s.size ≤ 60) :
    Calls Try.prog 4 #[.int .i64 n, .agg #[.bool a, .string s]] w (Ret (.bool true) w) := by
  have H_known := Lib.hid known_true
  obtain ⟨w0, hw0⟩ : ∃ w0 : World, w0 = (w.alloc (.cells #[.bool a, .string s] 23)).alloc (.cells #[.bool a, .string s] 23) := ⟨_, rfl⟩
  have hb0 : Hid (Below w.heap.size w w0) := by rw [hw0]; exact ((Below.refl _ _).alloc (Nat.le_refl _) _).alloc (by simp) _
  have I1 : Hid (ZC (.bool a) (.string s) w0 w.heap.size) := by rw [hw0]; exact (ZC.new rfl).alloc _
  have HSH := short_any [(a, s)] 1 (w.heap.size + 1) w0 rfl (by decide) (by rw [hw0]; have := WL.one (w.alloc (.cells #[.bool a, .string s] 23)) a s 23; simpa using this)
  rw [short_false hs] at HSH
  have HSh := Lib.hid HSH
  have Hw0 := Lib.hid hw0
  clear HSH hw0
  unfold Ret at *
  unfold BPost at HSh
  go_enter Try.func4, Try.ntmps4
  go_wp2_with fail
  rw [← Hw0.out]
  refine HSh.out.mono ?_
  rintro e x0 ⟨rfl, b0⟩
  have D := Lib.hid b0
  clear b0
  go_wp2_with fail
  refine (H_known.out _).mono ?_
  rintro e x1 ⟨rfl, b1⟩
  have HZ := Lib.hid (chain hb0.out (chain D.out b1))
  clear b1
  go_wp2
  go_ret
  exact ⟨rfl, HZ.out⟩

set_option maxRecDepth 100000 in
set_option maxHeartbeats 4000000 in
theorem ints_invalid (n : Int) (a : Bool) (s : ByteArray) (w : World) (h1 : -9223372036854775808 ≤ n) (h2 : n ≤ 9223372036854775807) (hz : s.size ≤ 140737488351232) (hs : s.size ≤ 60) (hv : vld a s = false) :
    Calls Try.prog 4 #[.int .i64 n, .agg #[.bool a, .string s]] w (Ret (.bool true) w) := by
  have H_known := Lib.hid known_true
  obtain ⟨w0, hw0⟩ : ∃ w0 : World, w0 = (w.alloc (.cells #[.bool a, .string s] 23)).alloc (.cells #[.bool a, .string s] 23) := ⟨_, rfl⟩
  have hb0 : Hid (Below w.heap.size w w0) := by rw [hw0]; exact ((Below.refl _ _).alloc (Nat.le_refl _) _).alloc (by simp) _
  have I1 : Hid (ZC (.bool a) (.string s) w0 w.heap.size) := by rw [hw0]; exact (ZC.new rfl).alloc _
  have HSH := short_any [(a, s)] 1 (w.heap.size + 1) w0 rfl (by decide) (by rw [hw0]; have := WL.one (w.alloc (.cells #[.bool a, .string s] 23)) a s 23; simpa using this)
  rw [short_true hs] at HSH
  have H_of : Hid (∀ w, Calls Try.prog 22 #[.int .i64 n] w fun e w' => e = .returned (.agg #[.bool (zb n), .string (zs n)]) ∧ Below w.heap.size w w') := fun w => Of_any n w h1 h2
  have H_w := Lib.hid (fun w => k_w n h1 h2 w)
  have H_int := Lib.hid (fun w => int_z n w h1 h2)
  unfold Z at H_w
  have H_inta := Lib.hid (fun w => Int_invalid a s w hz hv)
  have H_val := Lib.hid (fun w => rvalid_any a s w hz)
  rw [hv] at H_val
  unfold BPost at H_val
  clear hv
  generalize zb n = nb at *
  generalize zs n = ns at *
  have HSh := Lib.hid HSH
  have Hw0 := Lib.hid hw0
  clear HSH hw0
  unfold Ret at *
  unfold BPost at HSh
  go_enter Try.func4, Try.ntmps4
  go_wp2_with fail
  rw [← Hw0.out]
  refine HSh.out.mono ?_
  rintro e x0 ⟨rfl, b0⟩
  have D := Lib.hid b0
  clear b0
  obtain ⟨k0, k1, _⟩ := I1.out.next D.out
  go_wp2_with fail
  refine (H_of.out _).mono ?_
  rintro e y ⟨rfl, b9⟩
  have D := Lib.hid (chain D.out b9)
  clear b9
  obtain ⟨k0, k1, _⟩ := I1.out.next D.out
  go_wp2_with fail
  refine (H_w.out _).mono ?_
  rintro e y ⟨rfl, b9⟩
  have D := Lib.hid (chain D.out b9)
  clear b9
  obtain ⟨k0, k1, _⟩ := I1.out.next D.out
  go_wp2_with fail
  refine (H_of.out _).mono ?_
  rintro e y ⟨rfl, b9⟩
  have D := Lib.hid (chain D.out b9)
  clear b9
  obtain ⟨k0, k1, _⟩ := I1.out.next D.out
  go_wp2_with fail
  refine (H_int.out _).mono ?_
  rintro e y ⟨rfl, b9⟩
  have D := Lib.hid (chain D.out b9)
  clear b9
  obtain ⟨k0, k1, _⟩ := I1.out.next D.out
  go_wp2_with fail
  refine (H_inta.out _).mono ?_
  rintro e y ⟨rfl, b9⟩
  have D := Lib.hid (chain D.out b9)
  clear b9
  obtain ⟨k0, k1, _⟩ := I1.out.next D.out
  go_wp2_with fail
  refine (H_val.out _).mono ?_
  rintro e y ⟨rfl, b9⟩
  have D := Lib.hid (chain D.out b9)
  clear b9
  obtain ⟨k0, k1, _⟩ := I1.out.next D.out
  go_wp2_with fail
  refine (H_known.out _).mono ?_
  rintro e x1 ⟨rfl, b1⟩
  have HZ := Lib.hid (chain hb0.out (chain D.out b1))
  clear b1
  go_wp2
  go_ret
  exact ⟨rfl, HZ.out⟩

set_option maxRecDepth 100000 in
set_option maxHeartbeats 4000000 in
theorem ints_low (n : Int) (a : Bool) (s : ByteArray) (w : World) (h1 : -9223372036854775808 ≤ n) (h2 : n ≤ 9223372036854775807) (hz : s.size ≤ 140737488351232) (hs : s.size ≤ 60) (hv : vld a s = true) (hr : sg a (bv s) < -9223372036854775808) :
    Calls Try.prog 4 #[.int .i64 n, .agg #[.bool a, .string s]] w (Ret (.bool true) w) := by
  have H_known := Lib.hid known_true
  obtain ⟨w0, hw0⟩ : ∃ w0 : World, w0 = (w.alloc (.cells #[.bool a, .string s] 23)).alloc (.cells #[.bool a, .string s] 23) := ⟨_, rfl⟩
  have hb0 : Hid (Below w.heap.size w w0) := by rw [hw0]; exact ((Below.refl _ _).alloc (Nat.le_refl _) _).alloc (by simp) _
  have I1 : Hid (ZC (.bool a) (.string s) w0 w.heap.size) := by rw [hw0]; exact (ZC.new rfl).alloc _
  have HSH := short_any [(a, s)] 1 (w.heap.size + 1) w0 rfl (by decide) (by rw [hw0]; have := WL.one (w.alloc (.cells #[.bool a, .string s] 23)) a s 23; simpa using this)
  rw [short_true hs] at HSH
  have H_of : Hid (∀ w, Calls Try.prog 22 #[.int .i64 n] w fun e w' => e = .returned (.agg #[.bool (zb n), .string (zs n)]) ∧ Below w.heap.size w w') := fun w => Of_any n w h1 h2
  have H_w := Lib.hid (fun w => k_w n h1 h2 w)
  have H_int := Lib.hid (fun w => int_z n w h1 h2)
  unfold Z at H_w
  have H_val := Lib.hid (fun w => rvalid_any a s w hz)
  rw [hv] at H_val
  unfold BPost at H_val
  have H_inta := Lib.hid (fun w => Int_valid a s w hv)
  unfold IntWPost at H_inta
  have H_from := Lib.hid (fun w => rfrom_any a s w (by omega))
  have hzl : (sg a (bv s)).natAbs < 256 ^ 60 := by
    have e1 : (sg a (bv s)).natAbs = bv s := by unfold sg; split <;> omega
    rw [e1]
    have h5 := Nm.val_lt (dig_rev s)
    rw [rev_length] at h5
    exact Nat.lt_of_lt_of_le h5 (Nat.pow_le_pow_right (by decide) hs)
  have hlz := Nat.le_trans (dg9_256 hzl) (by decide : 60 ≤ 1000000)
  have hzz := zb_sg hv
  obtain ⟨z, hzdef⟩ : ∃ z, sg a (bv s) = z := ⟨_, rfl⟩
  rw [hzdef] at H_inta H_from hlz hzz
  obtain ⟨zL, hzL⟩ : ∃ zL : Int, zL = -9223372036854775808 := ⟨_, rfl⟩
  obtain ⟨zG, hzG⟩ : ∃ zG : Int, zG = 9223372036854775807 := ⟨_, rfl⟩
  have hlL : (Nm.dg D9 zL.natAbs).length ≤ 1000000 := Nat.le_trans (dg9_256 (k := 60) (by rw [hzL]; decide)) (by decide)
  have hlG : (Nm.dg D9 zG.natAbs).length ≤ 1000000 := Nat.le_trans (dg9_256 (k := 60) (by rw [hzG]; decide)) (by decide)
  have H_numL : Hid (∀ w, Calls Try.prog 25 #[.int .i64 (-9223372036854775808)] w (IntPost zL w)) := fun w => by rw [hzL]; exact rnum_any _ w (by decide) (by decide)
  have H_numG : Hid (∀ w, Calls Try.prog 25 #[.int .i64 9223372036854775807] w (IntPost zG w)) := fun w => by rw [hzG]; exact rnum_any _ w (by decide) (by decide)
  have H_cL := Lib.hid (fun v1 v2 w g1 g2 => rcompare_int z zL v1 v2 w g1 g2 hlz hlL)
  have H_cG := Lib.hid (fun v1 v2 w g1 g2 => rcompare_int z zG v1 v2 w g1 g2 hlz hlG)
  rw [hzdef] at hr
  rw [Int.sign_eq_neg_one_of_neg (by omega : z - zL < 0)] at H_cL
  rw [if_neg (by omega), if_neg (by omega)] at H_inta
  unfold IntPost iV at H_from H_numL H_numG
  unfold iV at H_cL H_cG
  unfold SignPost at H_cL H_cG
  generalize decide (z < 0) = bz at *
  generalize decide (zL < 0) = bL at *
  generalize decide (zG < 0) = bG at *
  clear hzl hlz hzz hlL hlG hzL hzG hzdef
  generalize zb n = nb at *
  generalize zs n = ns at *
  have HSh := Lib.hid HSH
  have Hw0 := Lib.hid hw0
  clear HSH hw0
  unfold Ret at *
  unfold BPost at HSh
  go_enter Try.func4, Try.ntmps4
  go_wp2_with fail
  rw [← Hw0.out]
  refine HSh.out.mono ?_
  rintro e x0 ⟨rfl, b0⟩
  have D := Lib.hid b0
  clear b0
  obtain ⟨k0, k1, _⟩ := I1.out.next D.out
  go_wp2_with fail
  refine (H_of.out _).mono ?_
  rintro e y ⟨rfl, b9⟩
  have D := Lib.hid (chain D.out b9)
  clear b9
  obtain ⟨k0, k1, _⟩ := I1.out.next D.out
  go_wp2_with fail
  refine (H_w.out _).mono ?_
  rintro e y ⟨rfl, b9⟩
  have D := Lib.hid (chain D.out b9)
  clear b9
  obtain ⟨k0, k1, _⟩ := I1.out.next D.out
  go_wp2_with fail
  refine (H_of.out _).mono ?_
  rintro e y ⟨rfl, b9⟩
  have D := Lib.hid (chain D.out b9)
  clear b9
  obtain ⟨k0, k1, _⟩ := I1.out.next D.out
  go_wp2_with fail
  refine (H_int.out _).mono ?_
  rintro e y ⟨rfl, b9⟩
  have D := Lib.hid (chain D.out b9)
  clear b9
  obtain ⟨k0, k1, _⟩ := I1.out.next D.out
  go_wp2_with fail
  refine (H_inta.out _).mono ?_
  rintro e y ⟨rfl, b9⟩
  have D := Lib.hid (chain D.out b9)
  clear b9
  obtain ⟨k0, k1, _⟩ := I1.out.next D.out
  go_wp2_with fail
  refine (H_val.out _).mono ?_
  rintro e y ⟨rfl, b9⟩
  have D := Lib.hid (chain D.out b9)
  clear b9
  obtain ⟨k0, k1, _⟩ := I1.out.next D.out
  go_wp2_with fail
  refine (H_from.out _).mono ?_
  rintro e y1 ⟨v1, rfl, r1, b9⟩
  have D := Lib.hid (chain D.out b9)
  have R1 : Hid (Rz (y1.alloc (.cells #[.bool bz, v1] 31)) v1 z) := Ri.allocd r1 _
  obtain ⟨p1, bb1, o1, c1, rfl, rr1⟩ := r1
  obtain ⟨u1, hu1⟩ : ∃ u1 : World, u1 = y1.alloc (.cells #[.bool bz, .slice p1 (Nm.dg D9 z.natAbs).length c1] 31) := ⟨_, rfl⟩
  rw [← hu1] at R1
  have T9 : Hid (ZC (.bool bz) (.slice p1 (Nm.dg D9 z.natAbs).length c1) u1 y1.heap.size) := by rw [hu1]; exact ZC.new rfl
  have D : Hid (Below w0.heap.size w0 u1) := by rw [hu1]; exact D.out.alloc D.out.size _
  have Hu1 := Lib.hid hu1
  clear b9 rr1 hu1
  go_wp2_with fail
  rw [← Hu1.out]
  clear Hu1
  refine (H_numL.out _).mono ?_
  rintro e y2 ⟨v2, rfl, r2, b9⟩
  have D := Lib.hid (chain D.out b9)
  have T9 := Lib.hid (T9.out.next b9)
  have R1 := Lib.hid (Ri.below R1.out b9 (Nat.le_refl _))
  have R2 := Lib.hid r2
  obtain ⟨p2, bb2, o2, c2, rfl, rr2⟩ := r2
  clear b9 rr2
  go_wp2_with fail
  refine (H_numG.out _).mono ?_
  rintro e y3 ⟨v3, rfl, r3, b9⟩
  have T9 := Lib.hid (T9.out.next b9)
  have D := Lib.hid (chain D.out b9)
  have R1 := Lib.hid (Ri.below R1.out b9 (Nat.le_refl _))
  have R2 := Lib.hid (Ri.below R2.out b9 (Nat.le_refl _))
  have R3 := Lib.hid r3
  obtain ⟨p3, bb3, o3, c3, rfl, rr3⟩ := r3
  clear b9 rr3
  obtain ⟨n0, n1, _⟩ := T9.out
  have f1 : y1.heap.size < y3.heap.size := World.block_lt_of_cell? y3 _ n0
  have f2 : ¬ y1.heap.size = y3.heap.size := by omega
  have f3 : ¬ y3.heap.size = y1.heap.size := by omega
  obtain ⟨u3, hu3⟩ : ∃ u3 : World, u3 = (y3.alloc (.cells #[.bool bL, .slice p2 (Nm.dg D9 zL.natAbs).length c2] 31)).alloc (.cells #[.bool bG, .slice p3 (Nm.dg D9 zG.natAbs).length c3] 31) := ⟨_, rfl⟩
  have bu : Below y3.heap.size y3 u3 := by rw [hu3]; exact below_two _ _ _
  have T9 := Lib.hid (T9.out.next bu)
  have T10 : Hid (ZC (.bool bL) (.slice p2 (Nm.dg D9 zL.natAbs).length c2) u3 y3.heap.size) := by rw [hu3]; exact (ZC.new rfl).alloc _
  have T11 : Hid (ZC (.bool bG) (.slice p3 (Nm.dg D9 zG.natAbs).length c3) u3 (y3.heap.size + 1)) := by rw [hu3]; exact ZC.new (by simp)
  have D := Lib.hid (chain D.out bu)
  have R1 := Lib.hid (Ri.below R1.out bu (Nat.le_refl _))
  have R2 := Lib.hid (Ri.below R2.out bu (Nat.le_refl _))
  have R3 := Lib.hid (Ri.below R3.out bu (Nat.le_refl _))
  have Hu3 := Lib.hid hu3
  clear bu hu3
  obtain ⟨m0, m1, _⟩ := T9.out
  obtain ⟨m2, m3, _⟩ := T10.out
  obtain ⟨m4, m5, _⟩ := T11.out
  obtain ⟨k0, k1, _⟩ := I1.out.next D.out
  go_wp2_with fail
  rw [← Hu3.out]
  clear Hu3 n0 n1 f1 f2 f3
  refine (H_cL.out _ _ _ R1.out R2.out).mono ?_
  rintro e y4 ⟨rfl, b9⟩
  have D := Lib.hid (chain D.out b9)
  clear b9
  go_wp2_with fail
  refine (H_known.out _).mono ?_
  rintro e x1 ⟨rfl, b1⟩
  have HZ := Lib.hid (chain hb0.out (chain D.out b1))
  clear b1
  go_wp2
  go_ret
  exact ⟨rfl, HZ.out⟩

set_option maxRecDepth 100000 in
set_option maxHeartbeats 4000000 in
theorem ints_high (n : Int) (a : Bool) (s : ByteArray) (w : World) (h1 : -9223372036854775808 ≤ n) (h2 : n ≤ 9223372036854775807) (hz : s.size ≤ 140737488351232) (hs : s.size ≤ 60) (hv : vld a s = true) (hr : 9223372036854775807 < sg a (bv s)) :
    Calls Try.prog 4 #[.int .i64 n, .agg #[.bool a, .string s]] w (Ret (.bool true) w) := by
  have H_known := Lib.hid known_true
  obtain ⟨w0, hw0⟩ : ∃ w0 : World, w0 = (w.alloc (.cells #[.bool a, .string s] 23)).alloc (.cells #[.bool a, .string s] 23) := ⟨_, rfl⟩
  have hb0 : Hid (Below w.heap.size w w0) := by rw [hw0]; exact ((Below.refl _ _).alloc (Nat.le_refl _) _).alloc (by simp) _
  have I1 : Hid (ZC (.bool a) (.string s) w0 w.heap.size) := by rw [hw0]; exact (ZC.new rfl).alloc _
  have HSH := short_any [(a, s)] 1 (w.heap.size + 1) w0 rfl (by decide) (by rw [hw0]; have := WL.one (w.alloc (.cells #[.bool a, .string s] 23)) a s 23; simpa using this)
  rw [short_true hs] at HSH
  have H_of : Hid (∀ w, Calls Try.prog 22 #[.int .i64 n] w fun e w' => e = .returned (.agg #[.bool (zb n), .string (zs n)]) ∧ Below w.heap.size w w') := fun w => Of_any n w h1 h2
  have H_w := Lib.hid (fun w => k_w n h1 h2 w)
  have H_int := Lib.hid (fun w => int_z n w h1 h2)
  unfold Z at H_w
  have H_val := Lib.hid (fun w => rvalid_any a s w hz)
  rw [hv] at H_val
  unfold BPost at H_val
  have H_inta := Lib.hid (fun w => Int_valid a s w hv)
  unfold IntWPost at H_inta
  have H_from := Lib.hid (fun w => rfrom_any a s w (by omega))
  have hzl : (sg a (bv s)).natAbs < 256 ^ 60 := by
    have e1 : (sg a (bv s)).natAbs = bv s := by unfold sg; split <;> omega
    rw [e1]
    have h5 := Nm.val_lt (dig_rev s)
    rw [rev_length] at h5
    exact Nat.lt_of_lt_of_le h5 (Nat.pow_le_pow_right (by decide) hs)
  have hlz := Nat.le_trans (dg9_256 hzl) (by decide : 60 ≤ 1000000)
  have hzz := zb_sg hv
  obtain ⟨z, hzdef⟩ : ∃ z, sg a (bv s) = z := ⟨_, rfl⟩
  rw [hzdef] at H_inta H_from hlz hzz
  obtain ⟨zL, hzL⟩ : ∃ zL : Int, zL = -9223372036854775808 := ⟨_, rfl⟩
  obtain ⟨zG, hzG⟩ : ∃ zG : Int, zG = 9223372036854775807 := ⟨_, rfl⟩
  have hlL : (Nm.dg D9 zL.natAbs).length ≤ 1000000 := Nat.le_trans (dg9_256 (k := 60) (by rw [hzL]; decide)) (by decide)
  have hlG : (Nm.dg D9 zG.natAbs).length ≤ 1000000 := Nat.le_trans (dg9_256 (k := 60) (by rw [hzG]; decide)) (by decide)
  have H_numL : Hid (∀ w, Calls Try.prog 25 #[.int .i64 (-9223372036854775808)] w (IntPost zL w)) := fun w => by rw [hzL]; exact rnum_any _ w (by decide) (by decide)
  have H_numG : Hid (∀ w, Calls Try.prog 25 #[.int .i64 9223372036854775807] w (IntPost zG w)) := fun w => by rw [hzG]; exact rnum_any _ w (by decide) (by decide)
  have H_cL := Lib.hid (fun v1 v2 w g1 g2 => rcompare_int z zL v1 v2 w g1 g2 hlz hlL)
  have H_cG := Lib.hid (fun v1 v2 w g1 g2 => rcompare_int z zG v1 v2 w g1 g2 hlz hlG)
  rw [hzdef] at hr
  obtain ⟨cL, hcL⟩ : ∃ cL, (z - zL).sign = cL := ⟨_, rfl⟩
  have hcL0 : ¬ cL < 0 := by rw [← hcL, Int.sign_eq_one_of_pos (by omega : 0 < z - zL)]; decide
  rw [hcL] at H_cL
  clear hcL
  rw [Int.sign_eq_one_of_pos (by omega : 0 < z - zG)] at H_cG
  rw [if_neg (by omega), if_neg (by omega)] at H_inta
  unfold IntPost iV at H_from H_numL H_numG
  unfold iV at H_cL H_cG
  unfold SignPost at H_cL H_cG
  generalize decide (z < 0) = bz at *
  generalize decide (zL < 0) = bL at *
  generalize decide (zG < 0) = bG at *
  clear hzl hlz hzz hlL hlG hzL hzG hzdef
  generalize zb n = nb at *
  generalize zs n = ns at *
  have HSh := Lib.hid HSH
  have Hw0 := Lib.hid hw0
  clear HSH hw0
  unfold Ret at *
  unfold BPost at HSh
  go_enter Try.func4, Try.ntmps4
  go_wp2_with fail
  rw [← Hw0.out]
  refine HSh.out.mono ?_
  rintro e x0 ⟨rfl, b0⟩
  have D := Lib.hid b0
  clear b0
  obtain ⟨k0, k1, _⟩ := I1.out.next D.out
  go_wp2_with fail
  refine (H_of.out _).mono ?_
  rintro e y ⟨rfl, b9⟩
  have D := Lib.hid (chain D.out b9)
  clear b9
  obtain ⟨k0, k1, _⟩ := I1.out.next D.out
  go_wp2_with fail
  refine (H_w.out _).mono ?_
  rintro e y ⟨rfl, b9⟩
  have D := Lib.hid (chain D.out b9)
  clear b9
  obtain ⟨k0, k1, _⟩ := I1.out.next D.out
  go_wp2_with fail
  refine (H_of.out _).mono ?_
  rintro e y ⟨rfl, b9⟩
  have D := Lib.hid (chain D.out b9)
  clear b9
  obtain ⟨k0, k1, _⟩ := I1.out.next D.out
  go_wp2_with fail
  refine (H_int.out _).mono ?_
  rintro e y ⟨rfl, b9⟩
  have D := Lib.hid (chain D.out b9)
  clear b9
  obtain ⟨k0, k1, _⟩ := I1.out.next D.out
  go_wp2_with fail
  refine (H_inta.out _).mono ?_
  rintro e y ⟨rfl, b9⟩
  have D := Lib.hid (chain D.out b9)
  clear b9
  obtain ⟨k0, k1, _⟩ := I1.out.next D.out
  go_wp2_with fail
  refine (H_val.out _).mono ?_
  rintro e y ⟨rfl, b9⟩
  have D := Lib.hid (chain D.out b9)
  clear b9
  obtain ⟨k0, k1, _⟩ := I1.out.next D.out
  go_wp2_with fail
  refine (H_from.out _).mono ?_
  rintro e y1 ⟨v1, rfl, r1, b9⟩
  have D := Lib.hid (chain D.out b9)
  have R1 : Hid (Rz (y1.alloc (.cells #[.bool bz, v1] 31)) v1 z) := Ri.allocd r1 _
  obtain ⟨p1, bb1, o1, c1, rfl, rr1⟩ := r1
  obtain ⟨u1, hu1⟩ : ∃ u1 : World, u1 = y1.alloc (.cells #[.bool bz, .slice p1 (Nm.dg D9 z.natAbs).length c1] 31) := ⟨_, rfl⟩
  rw [← hu1] at R1
  have T9 : Hid (ZC (.bool bz) (.slice p1 (Nm.dg D9 z.natAbs).length c1) u1 y1.heap.size) := by rw [hu1]; exact ZC.new rfl
  have D : Hid (Below w0.heap.size w0 u1) := by rw [hu1]; exact D.out.alloc D.out.size _
  have Hu1 := Lib.hid hu1
  clear b9 rr1 hu1
  go_wp2_with fail
  rw [← Hu1.out]
  clear Hu1
  refine (H_numL.out _).mono ?_
  rintro e y2 ⟨v2, rfl, r2, b9⟩
  have D := Lib.hid (chain D.out b9)
  have T9 := Lib.hid (T9.out.next b9)
  have R1 := Lib.hid (Ri.below R1.out b9 (Nat.le_refl _))
  have R2 := Lib.hid r2
  obtain ⟨p2, bb2, o2, c2, rfl, rr2⟩ := r2
  clear b9 rr2
  go_wp2_with fail
  refine (H_numG.out _).mono ?_
  rintro e y3 ⟨v3, rfl, r3, b9⟩
  have T9 := Lib.hid (T9.out.next b9)
  have D := Lib.hid (chain D.out b9)
  have R1 := Lib.hid (Ri.below R1.out b9 (Nat.le_refl _))
  have R2 := Lib.hid (Ri.below R2.out b9 (Nat.le_refl _))
  have R3 := Lib.hid r3
  obtain ⟨p3, bb3, o3, c3, rfl, rr3⟩ := r3
  clear b9 rr3
  obtain ⟨n0, n1, _⟩ := T9.out
  have f1 : y1.heap.size < y3.heap.size := World.block_lt_of_cell? y3 _ n0
  have f2 : ¬ y1.heap.size = y3.heap.size := by omega
  have f3 : ¬ y3.heap.size = y1.heap.size := by omega
  obtain ⟨u3, hu3⟩ : ∃ u3 : World, u3 = (y3.alloc (.cells #[.bool bL, .slice p2 (Nm.dg D9 zL.natAbs).length c2] 31)).alloc (.cells #[.bool bG, .slice p3 (Nm.dg D9 zG.natAbs).length c3] 31) := ⟨_, rfl⟩
  have bu : Below y3.heap.size y3 u3 := by rw [hu3]; exact below_two _ _ _
  have T9 := Lib.hid (T9.out.next bu)
  have T10 : Hid (ZC (.bool bL) (.slice p2 (Nm.dg D9 zL.natAbs).length c2) u3 y3.heap.size) := by rw [hu3]; exact (ZC.new rfl).alloc _
  have T11 : Hid (ZC (.bool bG) (.slice p3 (Nm.dg D9 zG.natAbs).length c3) u3 (y3.heap.size + 1)) := by rw [hu3]; exact ZC.new (by simp)
  have D := Lib.hid (chain D.out bu)
  have R1 := Lib.hid (Ri.below R1.out bu (Nat.le_refl _))
  have R2 := Lib.hid (Ri.below R2.out bu (Nat.le_refl _))
  have R3 := Lib.hid (Ri.below R3.out bu (Nat.le_refl _))
  have Hu3 := Lib.hid hu3
  clear bu hu3
  obtain ⟨m0, m1, _⟩ := T9.out
  obtain ⟨m2, m3, _⟩ := T10.out
  obtain ⟨m4, m5, _⟩ := T11.out
  obtain ⟨k0, k1, _⟩ := I1.out.next D.out
  go_wp2_with fail
  rw [← Hu3.out]
  clear Hu3 n0 n1 f1 f2 f3
  refine (H_cL.out _ _ _ R1.out R2.out).mono ?_
  rintro e y4 ⟨rfl, b9⟩
  have D := Lib.hid (chain D.out b9)
  have R1 := Lib.hid (Ri.below R1.out b9 (Nat.le_refl _))
  have R3 := Lib.hid (Ri.below R3.out b9 (Nat.le_refl _))
  have m0 := keep1 b9 m0
  have m1 := keep1 b9 m1
  have m4 := keep1 b9 m4
  have m5 := keep1 b9 m5
  clear b9
  obtain ⟨k0, k1, _⟩ := I1.out.next D.out
  go_wp2_with fail
  refine (H_cG.out _ _ _ R1.out R3.out).mono ?_
  rintro e y5 ⟨rfl, b9⟩
  have D := Lib.hid (chain D.out b9)
  clear b9
  go_wp2_with fail
  refine (H_known.out _).mono ?_
  rintro e x1 ⟨rfl, b1⟩
  have HZ := Lib.hid (chain hb0.out (chain D.out b1))
  clear b1
  go_wp2
  go_ret
  exact ⟨rfl, HZ.out⟩

set_option maxRecDepth 100000 in
set_option maxHeartbeats 4000000 in
theorem ints_in (n : Int) (a : Bool) (s : ByteArray) (w : World) (h1 : -9223372036854775808 ≤ n) (h2 : n ≤ 9223372036854775807) (hz : s.size ≤ 140737488351232) (hs : s.size ≤ 60) (hv : vld a s = true) (hr1 : -9223372036854775808 ≤ sg a (bv s)) (hr2 : sg a (bv s) ≤ 9223372036854775807) :
    Calls Try.prog 4 #[.int .i64 n, .agg #[.bool a, .string s]] w (Ret (.bool true) w) := by
  have H_known := Lib.hid known_true
  obtain ⟨w0, hw0⟩ : ∃ w0 : World, w0 = (w.alloc (.cells #[.bool a, .string s] 23)).alloc (.cells #[.bool a, .string s] 23) := ⟨_, rfl⟩
  have hb0 : Hid (Below w.heap.size w w0) := by rw [hw0]; exact ((Below.refl _ _).alloc (Nat.le_refl _) _).alloc (by simp) _
  have I1 : Hid (ZC (.bool a) (.string s) w0 w.heap.size) := by rw [hw0]; exact (ZC.new rfl).alloc _
  have HSH := short_any [(a, s)] 1 (w.heap.size + 1) w0 rfl (by decide) (by rw [hw0]; have := WL.one (w.alloc (.cells #[.bool a, .string s] 23)) a s 23; simpa using this)
  rw [short_true hs] at HSH
  have H_of : Hid (∀ w, Calls Try.prog 22 #[.int .i64 n] w fun e w' => e = .returned (.agg #[.bool (zb n), .string (zs n)]) ∧ Below w.heap.size w w') := fun w => Of_any n w h1 h2
  have H_w := Lib.hid (fun w => k_w n h1 h2 w)
  have H_int := Lib.hid (fun w => int_z n w h1 h2)
  unfold Z at H_w
  have H_val := Lib.hid (fun w => rvalid_any a s w hz)
  rw [hv] at H_val
  unfold BPost at H_val
  have H_inta := Lib.hid (fun w => Int_valid a s w hv)
  unfold IntWPost at H_inta
  have H_from := Lib.hid (fun w => rfrom_any a s w (by omega))
  have hzl : (sg a (bv s)).natAbs < 256 ^ 60 := by
    have e1 : (sg a (bv s)).natAbs = bv s := by unfold sg; split <;> omega
    rw [e1]
    have h5 := Nm.val_lt (dig_rev s)
    rw [rev_length] at h5
    exact Nat.lt_of_lt_of_le h5 (Nat.pow_le_pow_right (by decide) hs)
  have hlz := Nat.le_trans (dg9_256 hzl) (by decide : 60 ≤ 1000000)
  have hzz := zb_sg hv
  obtain ⟨z, hzdef⟩ : ∃ z, sg a (bv s) = z := ⟨_, rfl⟩
  rw [hzdef] at H_inta H_from hlz hzz
  obtain ⟨zL, hzL⟩ : ∃ zL : Int, zL = -9223372036854775808 := ⟨_, rfl⟩
  obtain ⟨zG, hzG⟩ : ∃ zG : Int, zG = 9223372036854775807 := ⟨_, rfl⟩
  have hlL : (Nm.dg D9 zL.natAbs).length ≤ 1000000 := Nat.le_trans (dg9_256 (k := 60) (by rw [hzL]; decide)) (by decide)
  have hlG : (Nm.dg D9 zG.natAbs).length ≤ 1000000 := Nat.le_trans (dg9_256 (k := 60) (by rw [hzG]; decide)) (by decide)
  have H_numL : Hid (∀ w, Calls Try.prog 25 #[.int .i64 (-9223372036854775808)] w (IntPost zL w)) := fun w => by rw [hzL]; exact rnum_any _ w (by decide) (by decide)
  have H_numG : Hid (∀ w, Calls Try.prog 25 #[.int .i64 9223372036854775807] w (IntPost zG w)) := fun w => by rw [hzG]; exact rnum_any _ w (by decide) (by decide)
  have H_cL := Lib.hid (fun v1 v2 w g1 g2 => rcompare_int z zL v1 v2 w g1 g2 hlz hlL)
  have H_cG := Lib.hid (fun v1 v2 w g1 g2 => rcompare_int z zG v1 v2 w g1 g2 hlz hlG)
  rw [hzdef] at hr1 hr2
  obtain ⟨cL, hcL⟩ : ∃ cL, (z - zL).sign = cL := ⟨_, rfl⟩
  have hcL0 : ¬ cL < 0 := by
    rw [← hcL]
    rcases Int.lt_or_eq_of_le (show 0 ≤ z - zL by omega) with g | g
    · rw [Int.sign_eq_one_of_pos g]; decide
    · rw [← g]; decide
  rw [hcL] at H_cL
  clear hcL
  obtain ⟨cG, hcG⟩ : ∃ cG, (z - zG).sign = cG := ⟨_, rfl⟩
  have hcG0 : ¬ 0 < cG := by
    rw [← hcG]
    rcases Int.lt_or_eq_of_le (show z - zG ≤ 0 by omega) with g | g
    · rw [Int.sign_eq_neg_one_of_neg g]; decide
    · rw [g]; decide
  rw [hcG] at H_cG
  clear hcG
  rw [if_pos ⟨hr1, hr2⟩, if_pos ⟨hr1, hr2⟩] at H_inta
  have H_wz := Lib.hid (fun w => k_w z hr1 hr2 w)
  unfold Z at H_wz
  rw [hzz.1, hzz.2] at H_wz
  unfold IntPost iV at H_from H_numL H_numG
  unfold iV at H_cL H_cG
  unfold SignPost at H_cL H_cG
  generalize decide (z < 0) = bz at *
  generalize decide (zL < 0) = bL at *
  generalize decide (zG < 0) = bG at *
  clear hzl hlz hzz hlL hlG hzL hzG hzdef
  generalize zb n = nb at *
  generalize zs n = ns at *
  have HSh := Lib.hid HSH
  have Hw0 := Lib.hid hw0
  clear HSH hw0
  unfold Ret at *
  unfold BPost at HSh
  go_enter Try.func4, Try.ntmps4
  go_wp2_with fail
  rw [← Hw0.out]
  refine HSh.out.mono ?_
  rintro e x0 ⟨rfl, b0⟩
  have D := Lib.hid b0
  clear b0
  obtain ⟨k0, k1, _⟩ := I1.out.next D.out
  go_wp2_with fail
  refine (H_of.out _).mono ?_
  rintro e y ⟨rfl, b9⟩
  have D := Lib.hid (chain D.out b9)
  clear b9
  obtain ⟨k0, k1, _⟩ := I1.out.next D.out
  go_wp2_with fail
  refine (H_w.out _).mono ?_
  rintro e y ⟨rfl, b9⟩
  have D := Lib.hid (chain D.out b9)
  clear b9
  obtain ⟨k0, k1, _⟩ := I1.out.next D.out
  go_wp2_with fail
  refine (H_of.out _).mono ?_
  rintro e y ⟨rfl, b9⟩
  have D := Lib.hid (chain D.out b9)
  clear b9
  obtain ⟨k0, k1, _⟩ := I1.out.next D.out
  go_wp2_with fail
  refine (H_int.out _).mono ?_
  rintro e y ⟨rfl, b9⟩
  have D := Lib.hid (chain D.out b9)
  clear b9
  obtain ⟨k0, k1, _⟩ := I1.out.next D.out
  go_wp2_with fail
  refine (H_inta.out _).mono ?_
  rintro e y ⟨rfl, b9⟩
  have D := Lib.hid (chain D.out b9)
  clear b9
  obtain ⟨k0, k1, _⟩ := I1.out.next D.out
  go_wp2_with fail
  refine (H_val.out _).mono ?_
  rintro e y ⟨rfl, b9⟩
  have D := Lib.hid (chain D.out b9)
  clear b9
  obtain ⟨k0, k1, _⟩ := I1.out.next D.out
  go_wp2_with fail
  refine (H_from.out _).mono ?_
  rintro e y1 ⟨v1, rfl, r1, b9⟩
  have D := Lib.hid (chain D.out b9)
  have R1 : Hid (Rz (y1.alloc (.cells #[.bool bz, v1] 31)) v1 z) := Ri.allocd r1 _
  obtain ⟨p1, bb1, o1, c1, rfl, rr1⟩ := r1
  obtain ⟨u1, hu1⟩ : ∃ u1 : World, u1 = y1.alloc (.cells #[.bool bz, .slice p1 (Nm.dg D9 z.natAbs).length c1] 31) := ⟨_, rfl⟩
  rw [← hu1] at R1
  have T9 : Hid (ZC (.bool bz) (.slice p1 (Nm.dg D9 z.natAbs).length c1) u1 y1.heap.size) := by rw [hu1]; exact ZC.new rfl
  have D : Hid (Below w0.heap.size w0 u1) := by rw [hu1]; exact D.out.alloc D.out.size _
  have Hu1 := Lib.hid hu1
  clear b9 rr1 hu1
  go_wp2_with fail
  rw [← Hu1.out]
  clear Hu1
  refine (H_numL.out _).mono ?_
  rintro e y2 ⟨v2, rfl, r2, b9⟩
  have D := Lib.hid (chain D.out b9)
  have T9 := Lib.hid (T9.out.next b9)
  have R1 := Lib.hid (Ri.below R1.out b9 (Nat.le_refl _))
  have R2 := Lib.hid r2
  obtain ⟨p2, bb2, o2, c2, rfl, rr2⟩ := r2
  clear b9 rr2
  go_wp2_with fail
  refine (H_numG.out _).mono ?_
  rintro e y3 ⟨v3, rfl, r3, b9⟩
  have T9 := Lib.hid (T9.out.next b9)
  have D := Lib.hid (chain D.out b9)
  have R1 := Lib.hid (Ri.below R1.out b9 (Nat.le_refl _))
  have R2 := Lib.hid (Ri.below R2.out b9 (Nat.le_refl _))
  have R3 := Lib.hid r3
  obtain ⟨p3, bb3, o3, c3, rfl, rr3⟩ := r3
  clear b9 rr3
  obtain ⟨n0, n1, _⟩ := T9.out
  have f1 : y1.heap.size < y3.heap.size := World.block_lt_of_cell? y3 _ n0
  have f2 : ¬ y1.heap.size = y3.heap.size := by omega
  have f3 : ¬ y3.heap.size = y1.heap.size := by omega
  obtain ⟨u3, hu3⟩ : ∃ u3 : World, u3 = (y3.alloc (.cells #[.bool bL, .slice p2 (Nm.dg D9 zL.natAbs).length c2] 31)).alloc (.cells #[.bool bG, .slice p3 (Nm.dg D9 zG.natAbs).length c3] 31) := ⟨_, rfl⟩
  have bu : Below y3.heap.size y3 u3 := by rw [hu3]; exact below_two _ _ _
  have T9 := Lib.hid (T9.out.next bu)
  have T10 : Hid (ZC (.bool bL) (.slice p2 (Nm.dg D9 zL.natAbs).length c2) u3 y3.heap.size) := by rw [hu3]; exact (ZC.new rfl).alloc _
  have T11 : Hid (ZC (.bool bG) (.slice p3 (Nm.dg D9 zG.natAbs).length c3) u3 (y3.heap.size + 1)) := by rw [hu3]; exact ZC.new (by simp)
  have D := Lib.hid (chain D.out bu)
  have R1 := Lib.hid (Ri.below R1.out bu (Nat.le_refl _))
  have R2 := Lib.hid (Ri.below R2.out bu (Nat.le_refl _))
  have R3 := Lib.hid (Ri.below R3.out bu (Nat.le_refl _))
  have Hu3 := Lib.hid hu3
  clear bu hu3
  obtain ⟨m0, m1, _⟩ := T9.out
  obtain ⟨m2, m3, _⟩ := T10.out
  obtain ⟨m4, m5, _⟩ := T11.out
  obtain ⟨k0, k1, _⟩ := I1.out.next D.out
  go_wp2_with fail
  rw [← Hu3.out]
  clear Hu3 n0 n1 f1 f2 f3
  refine (H_cL.out _ _ _ R1.out R2.out).mono ?_
  rintro e y4 ⟨rfl, b9⟩
  have D := Lib.hid (chain D.out b9)
  have R1 := Lib.hid (Ri.below R1.out b9 (Nat.le_refl _))
  have R3 := Lib.hid (Ri.below R3.out b9 (Nat.le_refl _))
  have m0 := keep1 b9 m0
  have m1 := keep1 b9 m1
  have m4 := keep1 b9 m4
  have m5 := keep1 b9 m5
  clear b9
  obtain ⟨k0, k1, _⟩ := I1.out.next D.out
  go_wp2_with fail
  refine (H_cG.out _ _ _ R1.out R3.out).mono ?_
  rintro e y5 ⟨rfl, b9⟩
  have D := Lib.hid (chain D.out b9)
  clear b9 m0 m1 m2 m3 m4 m5
  obtain ⟨k0, k1, _⟩ := I1.out.next D.out
  go_wp2_with fail
  go_region_held3 (fun W' => W'.cell? ⟨w.heap.size, 0, none⟩ = some (.bool a) ∧ W'.cell? ⟨w.heap.size, 1, none⟩ = some (.string s)) (go_keep)
    (first
      | (go_at_call 23; (with_reducible refine (H_wz.out _).mono ?_); rintro e z1 ⟨rfl, b9⟩; have E := Lib.hid (chain ((Below.refl y5.heap.size y5).drew) b9); have p0 := keep1 E.out k0; have p1 := keep1 E.out k1; clear b9)
      | (go_at_call 12; (with_reducible refine (H_known.out _).mono ?_); rintro e z2 ⟨rfl, b9⟩; have E := Lib.hid (chain E.out b9); have p0 := keep1 E.out k0; have p1 := keep1 E.out k1; clear b9)
      | fail)
  have HZ := Lib.hid (chain hb0.out (chain D.out E.out))
  go_wp2
  go_ret
  exact ⟨rfl, HZ.out⟩
end Go.Proofs.Ytlmklhffafcmmaa

/- The reference's Bits, Big and Out; the law's function is. -/
namespace Go.Proofs.Ytlmklhffafcmmaa
open Go.RowKit

theorem field_mag (x : Bool) (s : ByteArray) (w : World) : (Instr.field 23 (.agg #[.bool x, .string s]) 1).run Try.prog w = .ok (.string s) w := by kernel_rfl
theorem bitLen_half : ∀ x < 256, x ≠ 0 → Lib.bitLen x = Lib.bitLen (x / 2) + 1 := by decide +kernel
theorem bitLen_0 : Lib.bitLen 0 = 0 := by decide

set_option maxRecDepth 100000 in
set_option maxHeartbeats 2000000 in
theorem rbits_int (z : Int) (v : Value) (w : World) (h : Rz w v z) (hl : (Nm.dg D9 z.natAbs).length ≤ 1000000) (hs : (zs z).size ≤ 100000000) :
    Calls Try.prog 20 #[iV z v] w (IPost (lenB (zs z)) w) := by
  have HT : Hid (∀ v w, Rz w v z → Calls Try.prog 46 #[iV z v] w fun e w' => e = .returned (.agg #[.bool (zb z), .string (zs z)]) ∧ Below w.heap.size w w') := fun v w h => by
    have := rto_int z v w h hl
    unfold ToPost at this
    rwa [wz_eq] at this
  have H0 := Lib.hid h
  obtain ⟨p, b1, o1, c1, rfl, hr⟩ := h
  clear hr hl
  unfold iV at HT ⊢
  generalize decide (z < 0) = bz at *
  generalize zb z = bb at *
  generalize zs z = s at *
  generalize (Nm.dg D9 z.natAbs).length = len at *
  obtain ⟨w0, hw0⟩ : ∃ w0 : World, w0 = w.alloc (.cells #[.bool bz, .slice p len c1] 31) := ⟨_, rfl⟩
  have hb0 : Hid (Below w.heap.size w w0) := by rw [hw0]; exact below_one _ _
  have R0 : Hid (Rz w0 (.slice p len c1) z) := Ri.below H0.out hb0.out (Nat.le_refl _)
  have Hw0 := Lib.hid hw0
  clear hw0 H0
  rcases Nat.eq_zero_or_pos s.size with h0 | h0
  · have E : Hid (lenB s = 0) := by show _ = _; unfold lenB; rw [dif_neg (by omega)]
    rw [E.out]
    have hz : ((s.size : Int) == 0) = true := beq_iff_eq.2 (by omega)
    have hfm := field_mag
    clear h0
    go_enter Try.func20, Try.ntmps20
    go_wp2_with fail
    rw [← Hw0.out]
    refine (HT.out _ _ R0.out).mono ?_
    rintro e wa ⟨rfl, ba⟩
    have HZ := Lib.hid (chain hb0.out ba)
    clear ba
    go_wp2
    go_ret
    exact ⟨rfl, HZ.out⟩
  · have hz : ((s.size : Int) == 0) = false := beq_eq_false_iff_ne.2 (by omega)
    have hfm := field_mag
    obtain ⟨x, hx⟩ : ∃ x : Nat, s[0].toNat = x := ⟨_, rfl⟩
    have hx2 : x < 256 := by rw [← hx]; exact UInt8.toNat_lt _
    have hxi : (s[0].toNat : Int) = (x : Int) := by rw [hx]
    have hwr : IntKind.i64.wrap (x : Int) = (x : Int) := by
      unfold IntKind.wrap
      simp [IntKind.bits, IntKind.signed]
      omega
    obtain ⟨T, hT⟩ : ∃ T : Int, lenB s = T := ⟨_, rfl⟩
    rw [hT]
    have hT2 : 8 * ((s.size : Int) - 1) + ((Lib.bitLen x : Nat) : Int) = T := by
      rw [← hT]
      unfold lenB
      rw [dif_pos h0, hx]
      omega
    have HTT := Lib.hid hT2
    have hT1 : T ≤ 900000000 := by
      have := bitLen_le64 x (Nat.lt_of_lt_of_le hx2 (by decide))
      omega
    clear hT hx hT2
    go_enter Try.func20, Try.ntmps20
    go_wp2_with fail
    rw [← Hw0.out]
    refine (HT.out _ _ R0.out).mono ?_
    rintro e wa ⟨rfl, ba⟩
    have HZ := Lib.hid (chain hb0.out ba)
    clear ba
    go_wp2
    go_loop [4, 5] (fun nv kv => ∃ (n kk : Int) (k : Nat), nv = .int .i64 n ∧ kv = .int .i64 kk ∧ 0 ≤ kk ∧ kk < 256 ∧ 0 ≤ n ∧ n ≤ T ∧ Hid (kk = (k : Int)) ∧ Hid (n + ((Lib.bitLen k : Nat) : Int) = T)) (fun _ kv => (intOf kv).toNat)
    case atStart => exact ⟨_, _, x, rfl, rfl, by omega, by omega, by omega, by have h5 := HTT.out; omega, rfl, HTT.out⟩
    case round =>
      obtain ⟨n, kk, k, rfl, rfl, hk1, hk2, hn0, hnT, hkk, hinv⟩ := hrel
      by_cases hk0 : kk = 0
      · have E2 : Hid (n = T) := by
          have h5 := hinv.out
          have h6 : kk = (k : Int) := hkk.out
          obtain rfl : k = 0 := by omega
          rw [bitLen_0] at h5
          show _ = _
          omega
        subst hk0
        go_wp2
        go_ret
        exact ⟨by rw [← E2.out]; rfl, HZ.out⟩
      · have hpos : 0 < kk := by omega
        have h6 : kk = (k : Int) := hkk.out
        have hst : Hid (n + 1 + ((Lib.bitLen (k / 2) : Nat) : Int) = T) := by
          have h5 := hinv.out
          rw [bitLen_half k (by omega) (by omega)] at h5
          show _ = _
          omega
        have hn1 : n + 1 ≤ T := by have h5 := hst.out; omega
        obtain ⟨k2, hk2e⟩ : ∃ k2 : Int, kk / 2 = k2 := ⟨_, rfl⟩
        have hk3 : 0 ≤ k2 := by omega
        have hk4 : k2 < 256 := by omega
        have hk5 : Hid (k2 = ((k / 2 : Nat) : Int)) := by show _ = _; omega
        have hk6 : Hid (k2 < kk) := by show _ < _; omega
        clear h6 hk0
        go_wp2
        go_round
        case rel => exact ⟨n + 1, k2, k / 2, rfl, by first | rfl | rw [hk2e], hk3, hk4, by omega, hn1, hk5, hst⟩
        case measure => have h5 := hk6.out; simp only [intOf]; omega

theorem bitLen_le (x : Nat) (h : x < 256) : Lib.bitLen x ≤ 8 := by
  revert x
  decide +kernel
theorem lenB_65536 {s : ByteArray} (h : s.size ≤ 8192) : lenB s ≤ 65536 := by
  unfold lenB
  split
  · next h0 =>
    have := bitLen_le s[0].toNat (UInt8.toNat_lt _)
    omega
  · omega

set_option maxRecDepth 100000 in
set_option maxHeartbeats 1000000 in
theorem rbig_int (z : Int) (v : Value) (w : World) (h : Rz w v z) (hl : (Nm.dg D9 z.natAbs).length ≤ 1000000) (hs : (zs z).size ≤ 8192) :
    Calls Try.prog 94 #[iV z v] w (BPost false w) := by
  have HB := Lib.hid (fun v w h => rbits_int z v w h hl (Nat.le_trans hs (by decide)))
  have hle := lenB_65536 hs
  generalize lenB (zs z) = n at *
  have H0 := Lib.hid h
  obtain ⟨p, b1, o1, c1, rfl, hr⟩ := h
  clear hr hl hs
  unfold iV at HB ⊢
  generalize decide (z < 0) = bz at *
  generalize (Nm.dg D9 z.natAbs).length = len at *
  obtain ⟨w0, hw0⟩ : ∃ w0 : World, w0 = w.alloc (.cells #[.bool bz, .slice p len c1] 31) := ⟨_, rfl⟩
  have hb0 : Hid (Below w.heap.size w w0) := by rw [hw0]; exact below_one _ _
  have R0 : Hid (Rz w0 (.slice p len c1) z) := Ri.below H0.out hb0.out (Nat.le_refl _)
  have Hw0 := Lib.hid hw0
  clear hw0 H0
  go_enter Try.func94, Try.ntmps94
  go_wp2_with fail
  rw [← Hw0.out]
  refine (HB.out _ _ R0.out).mono ?_
  rintro e wa ⟨rfl, ba⟩
  have HZ := Lib.hid (chain hb0.out ba)
  clear ba
  go_wp2
  go_ret
  exact ⟨by simp; omega, HZ.out⟩
end Go.Proofs.Ytlmklhffafcmmaa
