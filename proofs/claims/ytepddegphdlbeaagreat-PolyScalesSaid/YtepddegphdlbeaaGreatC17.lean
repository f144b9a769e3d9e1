/- What the theorem leans on, part 17: Kp, Lps, Pe11, Lsa, Lsb, Lpt, Lpu, Rq6, Rq7, Rr1. -/
import Derived.Test.YtepddegphdlbeaaGreatC16
import Derived.Test.YtepddegphdlbeaaGreatC13
import Derived.Test.YtepddegphdlbeaaGreatC15
import Derived.Test.YtepddegphdlbeaaGreatC9
import Derived.Test.YtepddegphdlbeaaGreatC12
import Derived.Test.YtepddegphdlbeaaGreatC5
import Derived.Test.YtepddegphdlbeaaGreatC7
import Derived.Test.YtepddegphdlbeaaGreatC11
import Derived.Deep.RegionHeld3
import Derived.Test.YtepddegphdlbeaaGreatC6

/- The law's function known gives true. -/
namespace Go.Proofs.YtepddegphdlbeaaGreat
open Go.RowKit

set_option maxRecDepth 100000 in
set_option maxHeartbeats 8000000 in
theorem known_true (w : World) : Calls Tryz.prog 12 #[] w (Ret (.bool true) w) := by
  have H_ofp1p0m2p0 : Hid (∀ y : World, Calls Tryz.prog 22 #[.slice (some ⟨y.heap.size, 0, none⟩) 4 4] (y.alloc (.cells #[.int .i64 1, .int .i64 0, .int .i64 (-2), .int .i64 0] 3)) (ResP [1, 0, -2] y)) := fun y => k_of [1, 0, -2, 0] [1, 0, -2] (by rfl) (by rfl) y
  have H_ofp0p0 : Hid (∀ y : World, Calls Tryz.prog 22 #[.slice (some ⟨y.heap.size, 0, none⟩) 2 2] (y.alloc (.cells #[.int .i64 0, .int .i64 0] 3)) (ResP [] y)) := fun y => k_of [0, 0] [] (by rfl) (by rfl) y
  have H_pp1p1 : Hid (∀ y : World, Calls Tryz.prog 65 #[.slice (some ⟨y.heap.size, 0, none⟩) 2 2] (y.alloc (.cells #[.int .i64 1, .int .i64 1] 3)) (RpPost [1, 1] y)) := fun y => k_p [1, 1] [1, 1] (by rfl) (by rfl) y
  have H_pm1p1 : Hid (∀ y : World, Calls Tryz.prog 65 #[.slice (some ⟨y.heap.size, 0, none⟩) 2 2] (y.alloc (.cells #[.int .i64 (-1), .int .i64 1] 3)) (RpPost [-1, 1] y)) := fun y => k_p [-1, 1] [-1, 1] (by rfl) (by rfl) y
  have H_pp1p2 : Hid (∀ y : World, Calls Tryz.prog 65 #[.slice (some ⟨y.heap.size, 0, none⟩) 2 2] (y.alloc (.cells #[.int .i64 1, .int .i64 2] 3)) (RpPost [1, 2] y)) := fun y => k_p [1, 2] [1, 2] (by rfl) (by rfl) y
  have H_pp3p2 : Hid (∀ y : World, Calls Tryz.prog 65 #[.slice (some ⟨y.heap.size, 0, none⟩) 2 2] (y.alloc (.cells #[.int .i64 3, .int .i64 2] 3)) (RpPost [3, 2] y)) := fun y => k_p [3, 2] [3, 2] (by rfl) (by rfl) y
  have H_pp5p4p3 : Hid (∀ y : World, Calls Tryz.prog 65 #[.slice (some ⟨y.heap.size, 0, none⟩) 3 3] (y.alloc (.cells #[.int .i64 5, .int .i64 4, .int .i64 3] 3)) (RpPost [5, 4, 3] y)) := fun y => k_p [5, 4, 3] [5, 4, 3] (by rfl) (by rfl) y
  have H_pp1p0p2 : Hid (∀ y : World, Calls Tryz.prog 65 #[.slice (some ⟨y.heap.size, 0, none⟩) 3 3] (y.alloc (.cells #[.int .i64 1, .int .i64 0, .int .i64 2] 3)) (RpPost [1, 0, 2] y)) := fun y => k_p [1, 0, 2] [1, 0, 2] (by rfl) (by rfl) y
  have H_pm2p0p1 : Hid (∀ y : World, Calls Tryz.prog 65 #[.slice (some ⟨y.heap.size, 0, none⟩) 3 3] (y.alloc (.cells #[.int .i64 (-2), .int .i64 0, .int .i64 1] 3)) (RpPost [-2, 0, 1] y)) := fun y => k_p [-2, 0, 1] [-2, 0, 1] (by rfl) (by rfl) y
  have H_pp6m4 : Hid (∀ y : World, Calls Tryz.prog 65 #[.slice (some ⟨y.heap.size, 0, none⟩) 2 2] (y.alloc (.cells #[.int .i64 6, .int .i64 (-4)] 3)) (RpPost [6, -4] y)) := fun y => k_p [6, -4] [6, -4] (by rfl) (by rfl) y
  have H_pm6m4 : Hid (∀ y : World, Calls Tryz.prog 65 #[.slice (some ⟨y.heap.size, 0, none⟩) 2 2] (y.alloc (.cells #[.int .i64 (-6), .int .i64 (-4)] 3)) (RpPost [-6, -4] y)) := fun y => k_p [-6, -4] [-6, -4] (by rfl) (by rfl) y
  have H_pp1p0p0p1 : Hid (∀ y : World, Calls Tryz.prog 65 #[.slice (some ⟨y.heap.size, 0, none⟩) 4 4] (y.alloc (.cells #[.int .i64 1, .int .i64 0, .int .i64 0, .int .i64 1] 3)) (RpPost [1, 0, 0, 1] y)) := fun y => k_p [1, 0, 0, 1] [1, 0, 0, 1] (by rfl) (by rfl) y
  have H_pm1p0p1 : Hid (∀ y : World, Calls Tryz.prog 65 #[.slice (some ⟨y.heap.size, 0, none⟩) 3 3] (y.alloc (.cells #[.int .i64 (-1), .int .i64 0, .int .i64 1] 3)) (RpPost [-1, 0, 1] y)) := fun y => k_p [-1, 0, 1] [-1, 0, 1] (by rfl) (by rfl) y
  have H_pp1p0p1 : Hid (∀ y : World, Calls Tryz.prog 65 #[.slice (some ⟨y.heap.size, 0, none⟩) 3 3] (y.alloc (.cells #[.int .i64 1, .int .i64 0, .int .i64 1] 3)) (RpPost [1, 0, 1] y)) := fun y => k_p [1, 0, 1] [1, 0, 1] (by rfl) (by rfl) y
  have H_pp2p4p2 : Hid (∀ y : World, Calls Tryz.prog 65 #[.slice (some ⟨y.heap.size, 0, none⟩) 3 3] (y.alloc (.cells #[.int .i64 2, .int .i64 4, .int .i64 2] 3)) (RpPost [2, 4, 2] y)) := fun y => k_p [2, 4, 2] [2, 4, 2] (by rfl) (by rfl) y
  have H_pp2 : Hid (∀ y : World, Calls Tryz.prog 65 #[.slice (some ⟨y.heap.size, 0, none⟩) 1 1] (y.alloc (.cells #[.int .i64 2] 3)) (RpPost [2] y)) := fun y => k_p [2] [2] (by rfl) (by rfl) y
  have H_pp4 : Hid (∀ y : World, Calls Tryz.prog 65 #[.slice (some ⟨y.heap.size, 0, none⟩) 1 1] (y.alloc (.cells #[.int .i64 4] 3)) (RpPost [4] y)) := fun y => k_p [4] [4] (by rfl) (by rfl) y
  have H_isp1p0m2 : Hid (∀ (y : World) (v : Value), Rp y v [1, 0, -2] → Calls Tryz.prog 64 #[v, .int .i64 0, .slice (some ⟨y.heap.size, 0, none⟩) 3 3] (y.alloc (.cells #[.int .i64 1, .int .i64 0, .int .i64 (-2)] 3)) (BPost true y)) := fun y v h => k_is [1, 0, -2] [1, 0, -2] (by rfl) (by rfl) y v h
  have H_ism1p0p1 : Hid (∀ (y : World) (v : Value), Rp y v [-1, 0, 1] → Calls Tryz.prog 64 #[v, .int .i64 0, .slice (some ⟨y.heap.size, 0, none⟩) 3 3] (y.alloc (.cells #[.int .i64 (-1), .int .i64 0, .int .i64 1] 3)) (BPost true y)) := fun y v h => k_is [-1, 0, 1] [-1, 0, 1] (by rfl) (by rfl) y v h
  have H_ism2 : Hid (∀ (y : World) (v : Value), Rp y v [-2] → Calls Tryz.prog 64 #[v, .int .i64 0, .slice (some ⟨y.heap.size, 0, none⟩) 1 1] (y.alloc (.cells #[.int .i64 (-2)] 3)) (BPost true y)) := fun y v h => k_is [-2] [-2] (by rfl) (by rfl) y v h
  have H_isp4p6 : Hid (∀ (y : World) (v : Value), Rp y v [4, 6] → Calls Tryz.prog 64 #[v, .int .i64 0, .slice (some ⟨y.heap.size, 0, none⟩) 2 2] (y.alloc (.cells #[.int .i64 4, .int .i64 6] 3)) (BPost true y)) := fun y v h => k_is [4, 6] [4, 6] (by rfl) (by rfl) y v h
  have H_isp11p4p2 : Hid (∀ (y : World) (v : Value), Rp y v [11, 4, 2] → Calls Tryz.prog 64 #[v, .int .i64 0, .slice (some ⟨y.heap.size, 0, none⟩) 3 3] (y.alloc (.cells #[.int .i64 11, .int .i64 4, .int .i64 2] 3)) (BPost true y)) := fun y v h => k_is [11, 4, 2] [11, 4, 2] (by rfl) (by rfl) y v h
  have H_ism3m2 : Hid (∀ (y : World) (v : Value), Rp y v [-3, -2] → Calls Tryz.prog 64 #[v, .int .i64 0, .slice (some ⟨y.heap.size, 0, none⟩) 2 2] (y.alloc (.cells #[.int .i64 (-3), .int .i64 (-2)] 3)) (BPost true y)) := fun y v h => k_is [-3, -2] [-3, -2] (by rfl) (by rfl) y v h
  have H_isp7 : Hid (∀ (y : World) (v : Value), Rp y v [7] → Calls Tryz.prog 64 #[v, .int .i64 0, .slice (some ⟨y.heap.size, 0, none⟩) 1 1] (y.alloc (.cells #[.int .i64 7] 3)) (BPost true y)) := fun y v h => k_is [7] [7] (by rfl) (by rfl) y v h
  have H_ism1p1 : Hid (∀ (y : World) (v : Value), Rp y v [-1, 1] → Calls Tryz.prog 64 #[v, .int .i64 0, .slice (some ⟨y.heap.size, 0, none⟩) 2 2] (y.alloc (.cells #[.int .i64 (-1), .int .i64 1] 3)) (BPost true y)) := fun y v h => k_is [-1, 1] [-1, 1] (by rfl) (by rfl) y v h
  have H_isp1p1 : Hid (∀ (y : World) (v : Value), Rp y v [1, 1] → Calls Tryz.prog 64 #[v, .int .i64 0, .slice (some ⟨y.heap.size, 0, none⟩) 2 2] (y.alloc (.cells #[.int .i64 1, .int .i64 1] 3)) (BPost true y)) := fun y v h => k_is [1, 1] [1, 1] (by rfl) (by rfl) y v h
  have H_isp1 : Hid (∀ (y : World) (v : Value), Rp y v [1] → Calls Tryz.prog 64 #[v, .int .i64 0, .slice (some ⟨y.heap.size, 0, none⟩) 1 1] (y.alloc (.cells #[.int .i64 1] 3)) (BPost true y)) := fun y v h => k_is [1] [1] (by rfl) (by rfl) y v h
  have H_deg1 := Lib.hid (fun y v h => k_deg [1, 0, -2] (vp2 _) y v h 2 (by rfl))
  have H_deg2 := Lib.hid (fun y v h => k_deg [] (vp2 _) y v h (-1) (by rfl))
  have H_bits := Lib.hid (fun y v h => k_bits [1, 0, -2] (vp2 _) y v h 2 (by rfl))
  have H_mul := Lib.hid k_mul
  have H_sub := Lib.hid k_sub
  have H_der := Lib.hid k_der
  have H_eval := Lib.hid k_eval
  have H_value := Lib.hid k_value
  have H_signat := Lib.hid k_signat
  have H_comp := Lib.hid k_comp
  have H_cont := Lib.hid k_cont
  have H_prim := Lib.hid k_prim
  have H_rest := Lib.hid k_rest
  have H_div1 := Lib.hid k_div1
  have H_div2 := Lib.hid k_div2
  have H_gcd1 := Lib.hid kp_gcd1
  have H_gcd2 := Lib.hid kp_gcd2
  have H_gcd3 := Lib.hid kp_gcd3
  have H_w1 := Lib.hid (fun w => w2_any 1 w (by decide) (by decide))
  have H_w3 := Lib.hid (fun w => w2_any 3 w (by decide) (by decide))
  have H_w11 := Lib.hid (fun w => w2_any 11 w (by decide) (by decide))
  have H_w2 := Lib.hid (fun w => w2_any 2 w (by decide) (by decide))
  have H_q1_3 := Lib.hid (fun w => q2_any 1 3 w (by decide) (by decide) (by decide) (by decide))
  have H_q7_5 := Lib.hid (fun w => q2_any 7 5 w (by decide) (by decide) (by decide) (by decide))
  have H_q11_9 := Lib.hid (fun w => q2_any 11 9 w (by decide) (by decide) (by decide) (by decide))
  unfold ResP ResE Ret RpPost BPost ZPost QZPost Z R at *
  unfold rat at *
  generalize zb 1 = b1 at *
  generalize zs 1 = s1 at *
  generalize zb 3 = b3 at *
  generalize zs 3 = s3 at *
  generalize zb 7 = b7 at *
  generalize zs 7 = s7 at *
  generalize zb 5 = b5 at *
  generalize zs 5 = s5 at *
  generalize zb 11 = b11 at *
  generalize zs 11 = s11 at *
  generalize zb 9 = b9 at *
  generalize zs 9 = s9 at *
  generalize zb 2 = b2 at *
  generalize zs 2 = s2 at *
  go_enter Tryz.func12, Tryz.ntmps12
  have TOT : Hid (Below w.heap.size w w) := Below.refl _ _
  go_wp2_with fail
  refine (H_ofp1p0m2p0.out _).mono ?_
  rintro e x1 ⟨v1, rfl, r1, b1⟩
  have E := Lib.hid b1
  have Ra := Lib.hid r1
  clear r1
  clear b1
  have TOT := Lib.hid (chain TOT.out E.out)
  clear E
  go_wp2_with fail
  refine (H_deg1.out _ _ Ra.out).mono ?_
  rintro e x2 ⟨rfl, b2⟩
  have E := Lib.hid b2
  clear b2
  have TOT := Lib.hid (chain TOT.out E.out)
  have Ra := Lib.hid (Ra.out.below E.out)
  clear E
  go_wp2_with fail
  refine (H_bits.out _ _ Ra.out).mono ?_
  rintro e x3 ⟨rfl, b3⟩
  have E := Lib.hid b3
  clear b3
  have TOT := Lib.hid (chain TOT.out E.out)
  have Ra := Lib.hid (Ra.out.below E.out)
  clear E
  go_wp2_with fail
  refine (H_ofp0p0.out _).mono ?_
  rintro e x4 ⟨v4, rfl, r4, b4⟩
  have E := Lib.hid b4
  have Rz := Lib.hid r4
  clear r4
  clear b4
  have TOT := Lib.hid (chain TOT.out E.out)
  have Ra := Lib.hid (Ra.out.below E.out)
  clear E
  go_wp2_with fail
  refine (H_deg2.out _ _ Rz.out).mono ?_
  rintro e x5 ⟨rfl, b5⟩
  have E := Lib.hid b5
  clear b5
  have TOT := Lib.hid (chain TOT.out E.out)
  have Ra := Lib.hid (Ra.out.below E.out)
  have Rz := Lib.hid (Rz.out.below E.out)
  clear E
  obtain ⟨z1, z2, z3, z4, hz, -, -, -, -⟩ := Rp.open_ Rz.out
  subst hz
  simp only [List.length_nil] at Rz ⊢
  go_wp2_with fail
  refine (H_isp1p0m2.out _ _ Ra.out).mono ?_
  rintro e x6 ⟨rfl, b6⟩
  have E := Lib.hid b6
  clear b6
  have TOT := Lib.hid (chain TOT.out E.out)
  have Ra := Lib.hid (Ra.out.below E.out)
  have Rz := Lib.hid (Rz.out.below E.out)
  clear E
  clear Ra
  clear Rz
  go_wp2_with fail
  refine (H_pp1p1.out _).mono ?_
  rintro e x7 ⟨v7, rfl, r7, b7⟩
  have E := Lib.hid b7
  have Rl1 := Lib.hid r7
  clear r7
  clear b7
  go_wp2_with fail
  refine (H_pm1p1.out _).mono ?_
  rintro e x8 ⟨v8, rfl, r8, b8⟩
  have Rl1 := Lib.hid (Rl1.out.below b8)
  have E := Lib.hid (chain E.out b8)
  have Rl2 := Lib.hid r8
  clear r8
  clear b8
  go_wp2_with fail
  refine (H_mul.out _ _ _ Rl1.out Rl2.out).mono ?_
  rintro e x9 ⟨v9, rfl, r9, b9⟩
  have Rl1 := Lib.hid (Rl1.out.below b9)
  have Rl2 := Lib.hid (Rl2.out.below b9)
  have E := Lib.hid (chain E.out b9)
  have Rm := Lib.hid r9
  clear r9
  clear b9
  have TOT := Lib.hid (chain TOT.out E.out)
  clear Rl1
  clear Rl2
  clear E
  go_wp2_with fail
  refine (H_pp1p2.out _).mono ?_
  rintro e x10 ⟨v10, rfl, r10, b10⟩
  have E := Lib.hid b10
  have Rl1 := Lib.hid r10
  clear r10
  clear b10
  go_wp2_with fail
  refine (H_pp3p2.out _).mono ?_
  rintro e x11 ⟨v11, rfl, r11, b11⟩
  have Rl1 := Lib.hid (Rl1.out.below b11)
  have E := Lib.hid (chain E.out b11)
  have Rl2 := Lib.hid r11
  clear r11
  clear b11
  go_wp2_with fail
  refine (H_sub.out _ _ _ Rl1.out Rl2.out).mono ?_
  rintro e x12 ⟨v12, rfl, r12, b12⟩
  have Rl1 := Lib.hid (Rl1.out.below b12)
  have Rl2 := Lib.hid (Rl2.out.below b12)
  have E := Lib.hid (chain E.out b12)
  have Rs := Lib.hid r12
  clear r12
  clear b12
  have TOT := Lib.hid (chain TOT.out E.out)
  have Rm := Lib.hid (Rm.out.below E.out)
  clear Rl1
  clear Rl2
  clear E
  go_wp2_with fail
  refine (H_pp5p4p3.out _).mono ?_
  rintro e x13 ⟨v13, rfl, r13, b13⟩
  have E := Lib.hid b13
  have Rl1 := Lib.hid r13
  clear r13
  clear b13
  go_wp2_with fail
  refine (H_der.out _ _ Rl1.out).mono ?_
  rintro e x14 ⟨v14, rfl, r14, b14⟩
  have Rl1 := Lib.hid (Rl1.out.below b14)
  have E := Lib.hid (chain E.out b14)
  have Rt := Lib.hid r14
  clear r14
  clear b14
  have TOT := Lib.hid (chain TOT.out E.out)
  have Rm := Lib.hid (Rm.out.below E.out)
  have Rs := Lib.hid (Rs.out.below E.out)
  clear Rl1
  clear E
  go_wp2_with fail
  refine (H_ism1p0p1.out _ _ Rm.out).mono ?_
  rintro e x15 ⟨rfl, b15⟩
  have E := Lib.hid b15
  clear b15
  go_wp2_with fail
  refine (H_ism2.out _ _ (Rs.out.below E.out)).mono ?_
  rintro e x16 ⟨rfl, b16⟩
  have E := Lib.hid (chain E.out b16)
  clear b16
  go_wp2_with fail
  refine (H_isp4p6.out _ _ (Rt.out.below E.out)).mono ?_
  rintro e x17 ⟨rfl, b17⟩
  have E := Lib.hid (chain E.out b17)
  clear b17
  have TOT := Lib.hid (chain TOT.out E.out)
  have Rm := Lib.hid (Rm.out.below E.out)
  have Rs := Lib.hid (Rs.out.below E.out)
  have Rt := Lib.hid (Rt.out.below E.out)
  clear E
  clear Rm
  clear Rs
  clear Rt
  go_wp2_with fail
  refine (H_pp1p0p2.out _).mono ?_
  rintro e x18 ⟨v18, rfl, r18, b18⟩
  have E := Lib.hid b18
  have Rl1 := Lib.hid r18
  clear r18
  clear b18
  go_wp2_with fail
  refine (H_q1_3.out _).mono ?_
  rintro e x19 ⟨rfl, b19⟩
  have Rl1 := Lib.hid (Rl1.out.below b19)
  have E := Lib.hid (chain E.out b19)
  clear b19
  go_wp2_with fail
  refine (H_eval.out _ _ Rl1.out).mono ?_
  rintro e x20 ⟨rfl, b20⟩
  have Rl1 := Lib.hid (Rl1.out.below b20)
  have E := Lib.hid (chain E.out b20)
  clear b20
  obtain ⟨u14, hu14⟩ : ∃ u : World, u = x20.alloc (.cells #[.bool b11, .string s11] 44) := ⟨_, rfl⟩
  have N14 : Hid (ZC (.bool b11) (.string s11) u14 x20.heap.size) := by rw [hu14]; exact ZC.new rfl
  have B9 : Hid (Below x20.heap.size x20 u14) := by rw [hu14]; exact below_one _ _
  have E := Lib.hid (chain E.out B9.out)
  clear B9
  have TOT := Lib.hid (chain TOT.out E.out)
  clear Rl1
  clear E
  have T14 := N14
  clear N14
  go_upto_region 14 with (fail)
  rw [← hu14]
  clear hu14
  go_wp2_with fail
  refine (H_pp1p0p2.out _).mono ?_
  rintro e x21 ⟨v21, rfl, r21, b21⟩
  have E := Lib.hid b21
  have Rl1 := Lib.hid r21
  clear r21
  clear b21
  go_wp2_with fail
  refine (H_q1_3.out _).mono ?_
  rintro e x22 ⟨rfl, b22⟩
  have Rl1 := Lib.hid (Rl1.out.below b22)
  have E := Lib.hid (chain E.out b22)
  clear b22
  go_wp2_with fail
  refine (H_value.out _ _ Rl1.out).mono ?_
  rintro e x23 ⟨rfl, b23⟩
  have Rl1 := Lib.hid (Rl1.out.below b23)
  have E := Lib.hid (chain E.out b23)
  clear b23
  obtain ⟨u15, hu15⟩ : ∃ u : World, u = x23.alloc (.cells #[.bool b11, .string s11, .bool b9, .string s9] 59) := ⟨_, rfl⟩
  have N15 : Hid (ZC4 (.bool b11) (.string s11) (.bool b9) (.string s9) u15 x23.heap.size) := by rw [hu15]; exact ZC4.made0 x23
  have B9 : Hid (Below x23.heap.size x23 u15) := by rw [hu15]; exact below_one _ _
  have E := Lib.hid (chain E.out B9.out)
  clear B9
  have TOT := Lib.hid (chain TOT.out E.out)
  have T14 := Lib.hid (T14.out.next E.out)
  clear Rl1
  clear E
  have T15 := N15
  clear N15
  go_upto_region 15 with (fail)
  rw [← hu15]
  clear hu15
  go_wp2_with fail
  refine (H_pm2p0p1.out _).mono ?_
  rintro e x24 ⟨v24, rfl, r24, b24⟩
  have E := Lib.hid b24
  have Rl1 := Lib.hid r24
  clear r24
  clear b24
  go_wp2_with fail
  refine (H_q7_5.out _).mono ?_
  rintro e x25 ⟨rfl, b25⟩
  have Rl1 := Lib.hid (Rl1.out.below b25)
  have E := Lib.hid (chain E.out b25)
  clear b25
  go_wp2_with fail
  refine (H_signat.out _ _ Rl1.out).mono ?_
  rintro e x26 ⟨rfl, b26⟩
  have Rl1 := Lib.hid (Rl1.out.below b26)
  have E := Lib.hid (chain E.out b26)
  clear b26
  have TOT := Lib.hid (chain TOT.out E.out)
  have T14 := Lib.hid (T14.out.next E.out)
  have T15 := Lib.hid (T15.out.next E.out)
  clear Rl1
  clear E
  go_wp2_with fail
  refine (H_pp1p0p2.out _).mono ?_
  rintro e x27 ⟨v27, rfl, r27, b27⟩
  have E := Lib.hid b27
  have Rl1 := Lib.hid r27
  clear r27
  clear b27
  go_wp2_with fail
  refine (H_w1.out _).mono ?_
  rintro e x28 ⟨rfl, b28⟩
  have Rl1 := Lib.hid (Rl1.out.below b28)
  have E := Lib.hid (chain E.out b28)
  clear b28
  go_wp2_with fail
  refine (H_w1.out _).mono ?_
  rintro e x29 ⟨rfl, b29⟩
  have Rl1 := Lib.hid (Rl1.out.below b29)
  have E := Lib.hid (chain E.out b29)
  clear b29
  go_wp2_with fail
  refine (H_w3.out _).mono ?_
  rintro e x30 ⟨rfl, b30⟩
  have Rl1 := Lib.hid (Rl1.out.below b30)
  have E := Lib.hid (chain E.out b30)
  clear b30
  go_wp2_with fail
  refine (H_comp.out _ _ Rl1.out).mono ?_
  rintro e x31 ⟨v31, rfl, r31, b31⟩
  have Rl1 := Lib.hid (Rl1.out.below b31)
  have E := Lib.hid (chain E.out b31)
  have Ro := Lib.hid r31
  clear r31
  clear b31
  have TOT := Lib.hid (chain TOT.out E.out)
  have T14 := Lib.hid (T14.out.next E.out)
  have T15 := Lib.hid (T15.out.next E.out)
  clear Rl1
  clear E
  go_wp2_with fail
  obtain ⟨k0, k1, _⟩ := T14.out
  obtain ⟨⟨k2, k3, k4, k5⟩, _⟩ := T15.out
  go_region_held3 (fun W' => W'.cell? ⟨x20.heap.size, 0, none⟩ = some (.bool b11) ∧ W'.cell? ⟨x20.heap.size, 1, none⟩ = some (.string s11) ∧ W'.cell? ⟨x23.heap.size, 0, none⟩ = some (.bool b11) ∧ W'.cell? ⟨x23.heap.size, 1, none⟩ = some (.string s11) ∧ W'.cell? ⟨x23.heap.size, 2, none⟩ = some (.bool b9) ∧ W'.cell? ⟨x23.heap.size, 3, none⟩ = some (.string s9)) (go_keep)
    (first
      | (go_at_call 63; (with_reducible refine (H_w11.out _).mono ?_); rintro e y ⟨rfl, b9⟩; have D := Lib.hid (show Below x31.heap.size x31 y by first | exact chain D.out b9 | exact chain ((Below.refl _ _).drew) b9); have p0 := keep1 D.out k0; have p1 := keep1 D.out k1; have p2 := keep1 D.out k2; have p3 := keep1 D.out k3; have p4 := keep1 D.out k4; have p5 := keep1 D.out k5; clear b9)
      | (go_at_call 66; (with_reducible refine (H_q11_9.out _).mono ?_); rintro e y ⟨rfl, b9⟩; have D := Lib.hid (show Below x31.heap.size x31 y by first | exact chain D.out b9 | exact chain ((Below.refl _ _).drew) b9); have p0 := keep1 D.out k0; have p1 := keep1 D.out k1; have p2 := keep1 D.out k2; have p3 := keep1 D.out k3; have p4 := keep1 D.out k4; have p5 := keep1 D.out k5; clear b9)
      | (go_at_call 64; (with_reducible refine (H_isp11p4p2.out _ _ (Ro.out.below ?hb2x31)).mono ?_); (first | exact D.out | exact (Below.refl _ _).drew); rintro e y ⟨rfl, b9⟩; have D := Lib.hid (show Below x31.heap.size x31 y by first | exact chain D.out b9 | exact chain ((Below.refl _ _).drew) b9); have p0 := keep1 D.out k0; have p1 := keep1 D.out k1; have p2 := keep1 D.out k2; have p3 := keep1 D.out k3; have p4 := keep1 D.out k4; have p5 := keep1 D.out k5; clear b9)
      | fail)
  have E := D
  clear D k0 k1 k2 k3 k4 k5 p0 p1 p2 p3 p4 p5
  clear T14
  clear T15
  have TOT := Lib.hid (chain TOT.out E.out)
  have Ro := Lib.hid (Ro.out.below E.out)
  clear E
  clear Ro
  go_wp2_with fail
  refine (H_pp6m4.out _).mono ?_
  rintro e x32 ⟨v32, rfl, r32, b32⟩
  have E := Lib.hid b32
  have Rl1 := Lib.hid r32
  clear r32
  clear b32
  go_wp2_with fail
  refine (H_cont.out _ _ Rl1.out).mono ?_
  rintro e x33 ⟨rfl, b33⟩
  have Rl1 := Lib.hid (Rl1.out.below b33)
  have E := Lib.hid (chain E.out b33)
  clear b33
  obtain ⟨u18, hu18⟩ : ∃ u : World, u = x33.alloc (.cells #[.bool b2, .string s2] 44) := ⟨_, rfl⟩
  have N18 : Hid (ZC (.bool b2) (.string s2) u18 x33.heap.size) := by rw [hu18]; exact ZC.new rfl
  have B9 : Hid (Below x33.heap.size x33 u18) := by rw [hu18]; exact below_one _ _
  have E := Lib.hid (chain E.out B9.out)
  clear B9
  have TOT := Lib.hid (chain TOT.out E.out)
  clear Rl1
  clear E
  have T18 := N18
  clear N18
  go_upto_region 20 with (fail)
  rw [← hu18]
  clear hu18
  go_wp2_with fail
  refine (H_pm6m4.out _).mono ?_
  rintro e x34 ⟨v34, rfl, r34, b34⟩
  have E := Lib.hid b34
  have Rl1 := Lib.hid r34
  clear r34
  clear b34
  go_wp2_with fail
  refine (H_prim.out _ _ Rl1.out).mono ?_
  rintro e x35 ⟨v35, rfl, r35, b35⟩
  have Rl1 := Lib.hid (Rl1.out.below b35)
  have E := Lib.hid (chain E.out b35)
  have Ry1 := Lib.hid r35
  clear r35
  clear b35
  have TOT := Lib.hid (chain TOT.out E.out)
  have T18 := Lib.hid (T18.out.next E.out)
  clear Rl1
  clear E
  go_wp2_with fail
  refine (H_pp1p0p0p1.out _).mono ?_
  rintro e x36 ⟨v36, rfl, r36, b36⟩
  have E := Lib.hid b36
  have Rl1 := Lib.hid r36
  clear r36
  clear b36
  go_wp2_with fail
  refine (H_pp1p2.out _).mono ?_
  rintro e x37 ⟨v37, rfl, r37, b37⟩
  have Rl1 := Lib.hid (Rl1.out.below b37)
  have E := Lib.hid (chain E.out b37)
  have Rl2 := Lib.hid r37
  clear r37
  clear b37
  go_wp2_with fail
  refine (H_rest.out _ _ _ Rl1.out Rl2.out).mono ?_
  rintro e x38 ⟨v38, rfl, r38, b38⟩
  have Rl1 := Lib.hid (Rl1.out.below b38)
  have Rl2 := Lib.hid (Rl2.out.below b38)
  have E := Lib.hid (chain E.out b38)
  have Ru1 := Lib.hid r38
  clear r38
  clear b38
  have TOT := Lib.hid (chain TOT.out E.out)
  have Ry1 := Lib.hid (Ry1.out.below E.out)
  have T18 := Lib.hid (T18.out.next E.out)
  clear Rl1
  clear Rl2
  clear E
  go_wp2_with fail
  refine (H_pm1p0p1.out _).mono ?_
  rintro e x39 ⟨v39, rfl, r39, b39⟩
  have E := Lib.hid b39
  have Rl1 := Lib.hid r39
  clear r39
  clear b39
  go_wp2_with fail
  refine (H_pp1p1.out _).mono ?_
  rintro e x40 ⟨v40, rfl, r40, b40⟩
  have Rl1 := Lib.hid (Rl1.out.below b40)
  have E := Lib.hid (chain E.out b40)
  have Rl2 := Lib.hid r40
  clear r40
  clear b40
  go_wp2_with fail
  refine (H_div1.out _ _ _ Rl1.out Rl2.out).mono ?_
  rintro e x41 ⟨v41, rfl, r41, b41⟩
  have Rl1 := Lib.hid (Rl1.out.below b41)
  have Rl2 := Lib.hid (Rl2.out.below b41)
  have E := Lib.hid (chain E.out b41)
  have Rk1 := Lib.hid r41
  clear r41
  clear b41
  have TOT := Lib.hid (chain TOT.out E.out)
  have Ry1 := Lib.hid (Ry1.out.below E.out)
  have Ru1 := Lib.hid (Ru1.out.below E.out)
  have T18 := Lib.hid (T18.out.next E.out)
  clear Rl1
  clear Rl2
  clear E
  go_wp2_with fail
  refine (H_pp1p0p1.out _).mono ?_
  rintro e x42 ⟨v42, rfl, r42, b42⟩
  have E := Lib.hid b42
  have Rl1 := Lib.hid r42
  clear r42
  clear b42
  go_wp2_with fail
  refine (H_pp1p1.out _).mono ?_
  rintro e x43 ⟨v43, rfl, r43, b43⟩
  have Rl1 := Lib.hid (Rl1.out.below b43)
  have E := Lib.hid (chain E.out b43)
  have Rl2 := Lib.hid r43
  clear r43
  clear b43
  go_wp2_with fail
  refine (H_div2.out _ _ _ Rl1.out Rl2.out).mono ?_
  rintro e x44 ⟨rfl, b44⟩
  have Rl1 := Lib.hid (Rl1.out.below b44)
  have Rl2 := Lib.hid (Rl2.out.below b44)
  have E := Lib.hid (chain E.out b44)
  clear b44
  have TOT := Lib.hid (chain TOT.out E.out)
  have Ry1 := Lib.hid (Ry1.out.below E.out)
  have Ru1 := Lib.hid (Ru1.out.below E.out)
  have Rk1 := Lib.hid (Rk1.out.below E.out)
  have T18 := Lib.hid (T18.out.next E.out)
  clear Rl1
  clear Rl2
  clear E
  go_wp2_with fail
  obtain ⟨k0, k1, _⟩ := T18.out
  go_region_held3 (fun W' => W'.cell? ⟨x33.heap.size, 0, none⟩ = some (.bool b2) ∧ W'.cell? ⟨x33.heap.size, 1, none⟩ = some (.string s2)) (go_keep)
    (first
      | (go_at_call 63; (with_reducible refine (H_w2.out _).mono ?_); rintro e y ⟨rfl, b9⟩; have D := Lib.hid (show Below x44.heap.size x44 y by first | exact chain D.out b9 | exact chain ((Below.refl _ _).drew) b9); have p0 := keep1 D.out k0; have p1 := keep1 D.out k1; clear b9)
      | (go_at_call 64; (with_reducible refine (H_ism3m2.out _ _ (Ry1.out.below ?hb1x44)).mono ?_); (first | exact D.out | exact (Below.refl _ _).drew); rintro e y ⟨rfl, b9⟩; have D := Lib.hid (show Below x44.heap.size x44 y by first | exact chain D.out b9 | exact chain ((Below.refl _ _).drew) b9); have p0 := keep1 D.out k0; have p1 := keep1 D.out k1; clear b9)
      | (go_at_call 64; (with_reducible refine (H_isp7.out _ _ (Ru1.out.below ?hb2x44)).mono ?_); (first | exact D.out | exact (Below.refl _ _).drew); rintro e y ⟨rfl, b9⟩; have D := Lib.hid (show Below x44.heap.size x44 y by first | exact chain D.out b9 | exact chain ((Below.refl _ _).drew) b9); have p0 := keep1 D.out k0; have p1 := keep1 D.out k1; clear b9)
      | (go_at_call 64; (with_reducible refine (H_ism1p1.out _ _ (Rk1.out.below ?hb3x44)).mono ?_); (first | exact D.out | exact (Below.refl _ _).drew); rintro e y ⟨rfl, b9⟩; have D := Lib.hid (show Below x44.heap.size x44 y by first | exact chain D.out b9 | exact chain ((Below.refl _ _).drew) b9); have p0 := keep1 D.out k0; have p1 := keep1 D.out k1; clear b9)
      | fail)
  have E := D
  clear D k0 k1 p0 p1
  clear T18
  have TOT := Lib.hid (chain TOT.out E.out)
  have Ry1 := Lib.hid (Ry1.out.below E.out)
  have Ru1 := Lib.hid (Ru1.out.below E.out)
  have Rk1 := Lib.hid (Rk1.out.below E.out)
  clear E
  clear Ry1
  clear Ru1
  clear Rk1
  go_wp2_with fail
  refine (H_pm1p0p1.out _).mono ?_
  rintro e x45 ⟨v45, rfl, r45, b45⟩
  have E := Lib.hid b45
  have Rl1 := Lib.hid r45
  clear r45
  clear b45
  go_wp2_with fail
  refine (H_pp2p4p2.out _).mono ?_
  rintro e x46 ⟨v46, rfl, r46, b46⟩
  have Rl1 := Lib.hid (Rl1.out.below b46)
  have E := Lib.hid (chain E.out b46)
  have Rl2 := Lib.hid r46
  clear r46
  clear b46
  go_wp2_with fail
  refine (H_gcd1.out _ _ _ Rl1.out Rl2.out).mono ?_
  rintro e x47 ⟨v47, rfl, r47, b47⟩
  have Rl1 := Lib.hid (Rl1.out.below b47)
  have Rl2 := Lib.hid (Rl2.out.below b47)
  have E := Lib.hid (chain E.out b47)
  have Rj1 := Lib.hid r47
  clear r47
  clear b47
  have TOT := Lib.hid (chain TOT.out E.out)
  clear Rl1
  clear Rl2
  clear E
  go_wp2_with fail
  refine (H_pp1p1.out _).mono ?_
  rintro e x48 ⟨v48, rfl, r48, b48⟩
  have E := Lib.hid b48
  have Rl1 := Lib.hid r48
  clear r48
  clear b48
  go_wp2_with fail
  refine (H_gcd2.out _ _ Rl1.out).mono ?_
  rintro e x49 ⟨v49, rfl, r49, b49⟩
  have Rl1 := Lib.hid (Rl1.out.below b49)
  have E := Lib.hid (chain E.out b49)
  have Rl3 := Lib.hid r49
  clear r49
  clear b49
  have TOT := Lib.hid (chain TOT.out E.out)
  have Rj1 := Lib.hid (Rj1.out.below E.out)
  clear Rl1
  clear E
  go_wp2_with fail
  refine (H_pp2.out _).mono ?_
  rintro e x50 ⟨v50, rfl, r50, b50⟩
  have E := Lib.hid b50
  have Rl1 := Lib.hid r50
  clear r50
  clear b50
  go_wp2_with fail
  refine (H_pp4.out _).mono ?_
  rintro e x51 ⟨v51, rfl, r51, b51⟩
  have Rl1 := Lib.hid (Rl1.out.below b51)
  have E := Lib.hid (chain E.out b51)
  have Rl2 := Lib.hid r51
  clear r51
  clear b51
  go_wp2_with fail
  refine (H_gcd3.out _ _ _ Rl1.out Rl2.out).mono ?_
  rintro e x52 ⟨v52, rfl, r52, b52⟩
  have Rl1 := Lib.hid (Rl1.out.below b52)
  have Rl2 := Lib.hid (Rl2.out.below b52)
  have E := Lib.hid (chain E.out b52)
  have Rone := Lib.hid r52
  clear r52
  clear b52
  have TOT := Lib.hid (chain TOT.out E.out)
  have Rj1 := Lib.hid (Rj1.out.below E.out)
  have Rl3 := Lib.hid (Rl3.out.below E.out)
  clear Rl1
  clear Rl2
  clear E
  go_wp2_with fail
  refine (H_isp1p1.out _ _ Rj1.out).mono ?_
  rintro e x53 ⟨rfl, b53⟩
  have E := Lib.hid b53
  clear b53
  go_wp2_with fail
  refine (H_isp1p1.out _ _ (Rl3.out.below E.out)).mono ?_
  rintro e x54 ⟨rfl, b54⟩
  have E := Lib.hid (chain E.out b54)
  clear b54
  go_wp2_with fail
  refine (H_isp1.out _ _ (Rone.out.below E.out)).mono ?_
  rintro e x55 ⟨rfl, b55⟩
  have E := Lib.hid (chain E.out b55)
  clear b55
  have TOT := Lib.hid (chain TOT.out E.out)
  have Rj1 := Lib.hid (Rj1.out.below E.out)
  have Rl3 := Lib.hid (Rl3.out.below E.out)
  have Rone := Lib.hid (Rone.out.below E.out)
  clear E
  go_wp2
  go_ret
  exact ⟨rfl, TOT.out⟩
end Go.Proofs.YtepddegphdlbeaaGreat

/- PolySums: the walk. -/
namespace Go.Proofs.YtepddegphdlbeaaGreat
open Go.RowKit

end Go.Proofs.YtepddegphdlbeaaGreat

/- The function poly.Scale. -/
namespace Go.Proofs.YtepddegphdlbeaaGreat
open Go.RowKit

set_option maxRecDepth 100000 in
set_option maxHeartbeats 2000000 in
theorem Scale_bad (L : List (Bool × ByteArray)) (v : Value) (a : Bool) (s : ByteArray) (w : World) (h : Rw w v L) (z : Small L) (zs1 : s.size ≤ 140737488351232) (he : (vldP L && vld a s) = false) :
    Calls Tryz.prog 31 #[v, .agg #[.bool a, .string s]] w (ResE 2 w) := by
  obtain ⟨w0, hw0⟩ : ∃ w0 : World, w0 = w.alloc (.cells #[.bool a, .string s] 44) := ⟨_, rfl⟩
  have B0 : Hid (Below w.heap.size w w0) := by show Below _ _ _; rw [hw0]; exact (Below.refl _ _).alloc (Nat.le_refl _) _
  have C0 : Hid (w0.cell? ⟨w.heap.size, 0, none⟩ = some (.bool a) ∧ w0.cell? ⟨w.heap.size, 1, none⟩ = some (.string s)) := by rw [hw0]; exact ⟨by simp [go_sem], by simp [go_sem]⟩
  have HV := Lib.hid (pvalid_any L v w0 (h.below B0.out) z)
  have HS := Lib.hid (fun w => Valid_any a s w zs1)
  clear h z zs1
  generalize vldP L = x1 at *
  generalize vld a s = x2 at *
  cases x1
  · clear he HS
    go_enter Tryz.func31, Tryz.ntmps31
    go_wp2_with fail
    rw [← hw0]
    clear hw0
    refine HV.out.mono ?_
    rintro e w1 ⟨rfl, b1⟩
    have B1 := Lib.hid (chain B0.out b1)
    clear b1
    go_wp2
    go_ret2
    exact ⟨rfl, B1.out⟩
  · obtain rfl : x2 = false := he
    go_enter Tryz.func31, Tryz.ntmps31
    go_wp2_with fail
    rw [← hw0]
    clear hw0
    refine HV.out.mono ?_
    rintro e w1 ⟨rfl, b1⟩
    have c0 := keep1 b1 C0.out.1
    have c1 := keep1 b1 C0.out.2
    have B1 := Lib.hid (chain B0.out b1)
    clear b1
    go_wp2_with fail
    refine (HS.out _).mono ?_
    rintro e w2 ⟨rfl, b2⟩
    have B2 := Lib.hid (chain B1.out b2)
    clear b2 c0 c1
    go_wp2
    go_ret2
    exact ⟨rfl, B2.out⟩

set_option maxRecDepth 100000 in
set_option maxHeartbeats 2000000 in
theorem Scale_ok (p : List Int) (v : Value) (a : Int) (w : World) (h : Rp w v p) (hp : VP p) (ha : a.natAbs < Top) (hb : Pl.sm p * a.natAbs < Top) :
    Calls Tryz.prog 31 #[v, Z a] w (ResP (Pl.trim (Pl.mul p [a])) w) := by
  obtain ⟨w0, hw0⟩ : ∃ w0 : World, w0 = w.alloc (.cells #[.bool (zb a), .string (zs a)] 44) := ⟨_, rfl⟩
  have B0 : Hid (Below w.heap.size w w0) := by show Below _ _ _; rw [hw0]; exact (Below.refl _ _).alloc (Nat.le_refl _) _
  have HA0 : Hid (Aw w0 w.heap.size [a]) := by show Aw _ _ _; rw [hw0]; exact Aw.made w [a]
  have HV := Lib.hid (pvalid_z p v w0 (h.below B0.out) hp)
  have HS := Lib.hid (fun w => Valid_any (zb a) (zs a) w (Nat.le_trans (zs_size ha) (by decide)))
  rw [zvt ha] at HS
  have hl := hp.len
  have hmx : Pl.mx [a] = a.natAbs := by simp [Pl.mx]
  have HM : Hid (∀ c v2 w', Below w.heap.size w w' → Ck w' c 0 → Rp w' v2 [a] → Calls Tryz.prog 81 #[.pointer (some ⟨c, 0, none⟩), v, v2] w' (RpPost (Pl.mul p [a]) w')) := fun c v2 w' hbw hck hr => by
    by_cases h0 : p = []
    · refine (product_empty c p [a] v v2 w' (h.below hbw) hr (Or.inl h0) (by omega)).mono ?_
      rintro e w1 ⟨rfl, b1⟩
      exact ⟨_, rfl, by rw [h0]; exact Rw.nil _, b1⟩
    · exact product_some c p [a] v v2 0 w' (h.below hbw) hr hck h0 (by simp) (by omega) (by simp) hp.top (by intro x hx; simp at hx; rw [hx]; exact ha) (by rw [hmx]; exact hb)
  have HT : Hid (∀ v' w', Rp w' v' (Pl.mul p [a]) → Calls Tryz.prog 86 #[v'] w' (RpPost (Pl.trim (Pl.mul p [a])) w')) := fun v' w' hr => by
    refine ptrim_any v' _ w' hr ?_
    intro x hx
    by_cases h0 : p = []
    · subst h0; simp [Pl.mul] at hx
    · obtain ⟨k, hk, rfl⟩ := List.mem_iff_getElem.1 hx
      rw [← Pl.cf_lt hk, Pl.cf_mul]
      have h5 := Pl.conv_le p [a] p.length k (Nat.le_refl _)
      rw [List.take_length, hmx] at h5
      exact Nat.lt_of_le_of_lt h5 hb
  generalize Pl.trim (Pl.mul p [a]) = T at *
  generalize Pl.mul p [a] = M at *
  clear h hp ha hb hmx
  unfold Z
  go_enter Tryz.func31, Tryz.ntmps31
  go_wp2_with fail
  rw [← hw0]
  clear hw0
  refine HV.out.mono ?_
  rintro e w1 ⟨rfl, b1⟩
  have HA1 := Lib.hid (HA0.out.below b1)
  have B1 := Lib.hid (chain B0.out b1)
  clear b1
  obtain ⟨c0, c1⟩ := HA1.out.cell 0 (by simp)
  simp only [Nat.zero_mul, Nat.zero_add, List.getElem_cons_zero] at c0 c1
  go_wp2_with fail
  refine (HS.out _).mono ?_
  rintro e w2 ⟨rfl, b2⟩
  have HA2 := Lib.hid (HA1.out.below b2)
  have B2 := Lib.hid (chain B1.out b2)
  clear c0 c1 b2
  obtain ⟨w3, hw3⟩ : ∃ w3 : World, w3 = w2.alloc (.cells #[.int .i64 0] 96) := ⟨_, rfl⟩
  have HK : Hid (Ck w3 w2.heap.size 0) := by show Ck _ _ _; rw [hw3]; exact heap_alloc_new w2 _
  have B3 : Hid (Below w.heap.size w w3) := by show Below _ _ _; rw [hw3]; exact B2.out.alloc B2.out.size _
  have HA3 : Hid (Aw w3 w.heap.size [a]) := by rw [hw3]; exact HA2.out.alloc _
  go_upto_region 4 with (fail)
  rw [← hw3]
  clear hw3
  obtain ⟨c0, c1⟩ := HA3.out.cell 0 (by simp)
  simp only [Nat.zero_mul, Nat.zero_add, List.getElem_cons_zero] at c0 c1
  obtain ⟨w4, hw4⟩ : ∃ w4 : World, w4 = w3.alloc (.cells #[.bool (zb a), .string (zs a)] 44) := ⟨_, rfl⟩
  have HK4 : Hid (Ck w4 w2.heap.size 0) := by rw [hw4]; exact HK.out.alloc _
  have B4 : Hid (Below w.heap.size w w4) := by show Below _ _ _; rw [hw4]; exact B3.out.alloc B3.out.size _
  have HA4 : Hid (Aw w4 w3.heap.size [a]) := by show Aw _ _ _; rw [hw4]; exact Aw.made w3 [a]
  go_wp2_with fail
  rw [← hw4]
  clear hw4 c0 c1
  refine (HM.out _ _ _ B4.out HK4.out (Rp.of_whole HA4.out 1 1 rfl (Nat.le_refl _) (by decide))).mono ?_
  rintro e w5 ⟨v5, rfl, r5, b5⟩
  have HK5 := Lib.hid (HK4.out.below b5)
  have B5 := Lib.hid (chain B4.out b5)
  have R5 := Lib.hid r5
  clear b5 r5
  go_wp2_with fail
  refine (HT.out _ _ R5.out).mono ?_
  rintro e w6 ⟨v6, rfl, r6, b6⟩
  obtain ⟨a6, bb6, o6, c6, rfl, -⟩ := r6.open_
  have HK6 := Lib.hid (HK5.out.below b6)
  have B6 := Lib.hid (chain B5.out b6)
  have R6 := Lib.hid r6
  clear b6 r6
  go_wp2_with fail
  refine (finish_poly _ _ _ _ _ HK6.out).mono ?_
  rintro en w9 ⟨rfl, b7⟩
  have B7 := Lib.hid (chain B6.out b7)
  have R7 := Lib.hid (R6.out.below b7)
  clear b7
  go_wp2
  go_ret2
  exact ⟨_, rfl, R7.out, B7.out⟩
end Go.Proofs.YtepddegphdlbeaaGreat

/- PolyScales: the walks that fail early. -/
namespace Go.Proofs.YtepddegphdlbeaaGreat
open Go.RowKit

theorem k_short1 {L : List (Bool × ByteArray)} {v : Value} {w : World} (h : Rw w v L) (z : Lim L) (r : Bool) (hr : shP L = r) :
    Calls Tryz.prog 11 #[.slice (some ⟨w.heap.size, 0, none⟩) 1 1] (w.alloc (.cells #[v] 23)) (BPost r w) := by
  have h := lshort_any [L] _ _ (rl_one w h) (by intro L' hL; simp at hL; subst hL; exact z) (by simp)
  have e : [L].all shP = r := by rw [← hr]; simp
  rw [e] at h
  exact h.mono fun e w' ⟨h1, h2⟩ => ⟨h1, chain (below_one _ _) h2⟩
theorem k_valid1 {L : List (Bool × ByteArray)} {v : Value} {w : World} (h : Rw w v L) (z : Small L) (r : Bool) (hr : vldP L = r) :
    Calls Tryz.prog 19 #[.slice (some ⟨w.heap.size, 0, none⟩) 1 1] (w.alloc (.cells #[v] 23)) (BPost r w) := by
  have h := lvalid_any [L] _ _ (rl_one w h) (by intro L' hL; simp at hL; subst hL; exact z) (by simp)
  have e : [L].all vldP = r := by rw [← hr]; simp
  rw [e] at h
  exact h.mono fun e w' ⟨h1, h2⟩ => ⟨h1, chain (below_one _ _) h2⟩

set_option maxRecDepth 100000 in
set_option maxHeartbeats 4000000 in
theorem psc_long1 (L : List (Bool × ByteArray)) (v : Value) (b : Bool) (s : ByteArray) (w : World) (h : Rw w v L) (z : Lim L) (hz : s.size ≤ 9223372036854775807) (hs : shP L = false) :
    Calls Tryz.prog 5 #[v, .agg #[.bool b, .string s]] w (Ret (.bool true) w) := by
  obtain ⟨w0, hw0⟩ : ∃ w0 : World, w0 = w.alloc (.cells #[.bool b, .string s] 44) := ⟨_, rfl⟩
  have I3 : Hid (ZC (.bool b) (.string s) w0 w.heap.size) := by rw [hw0]; exact ZC.new rfl
  have B0 : Hid (Below w.heap.size w w0) := by rw [hw0]; exact below_one _ _
  have HK := Lib.hid known_true
  have HS := Lib.hid (k_short1 (h.below B0.out) z _ hs)
  obtain ⟨p1, a1, o1, c1, rfl, -, -, -, -⟩ := h
  generalize L.length = n1 at *
  clear z hs
  unfold BPost at *
  unfold Ret at *
  go_enter Tryz.func5, Tryz.ntmps5
  go_upto_region 1 with (fail)
  rw [← hw0]
  clear hw0
  go_wp2_with fail
  refine (HS.out).mono ?_
  rintro e x1 ⟨rfl, b1⟩
  have E := Lib.hid (b1)
  clear b1
  go_wp2_with fail
  refine (HK.out _).mono ?_
  rintro e x2 ⟨rfl, b2⟩
  have E := Lib.hid (chain E.out b2)
  clear b2
  go_wp2
  go_ret
  exact ⟨rfl, chain B0.out E.out⟩

set_option maxRecDepth 100000 in
set_option maxHeartbeats 4000000 in
theorem psc_long2 (L : List (Bool × ByteArray)) (v : Value) (b : Bool) (s : ByteArray) (w : World) (h : Rw w v L) (z : Lim L) (hz : s.size ≤ 9223372036854775807) (hs : shP L = true) (hl : 30 < s.size) :
    Calls Tryz.prog 5 #[v, .agg #[.bool b, .string s]] w (Ret (.bool true) w) := by
  obtain ⟨w0, hw0⟩ : ∃ w0 : World, w0 = w.alloc (.cells #[.bool b, .string s] 44) := ⟨_, rfl⟩
  have I3 : Hid (ZC (.bool b) (.string s) w0 w.heap.size) := by rw [hw0]; exact ZC.new rfl
  have B0 : Hid (Below w.heap.size w w0) := by rw [hw0]; exact below_one _ _
  have HK := Lib.hid known_true
  have HS := Lib.hid (k_short1 (h.below B0.out) z _ hs)
  have f1 : (30 : Int) < (s.size : Int) := by omega
  obtain ⟨p1, a1, o1, c1, rfl, -, -, -, -⟩ := h
  generalize L.length = n1 at *
  clear z hs
  unfold BPost at *
  unfold Ret at *
  go_enter Tryz.func5, Tryz.ntmps5
  go_upto_region 1 with (fail)
  rw [← hw0]
  clear hw0
  go_wp2_with fail
  refine (HS.out).mono ?_
  rintro e x1 ⟨rfl, b1⟩
  have E := Lib.hid (b1)
  clear b1
  obtain ⟨k0, k1, _⟩ := I3.out.next E.out
  go_wp2_with fail
  refine (HK.out _).mono ?_
  rintro e x2 ⟨rfl, b2⟩
  have E := Lib.hid (chain E.out b2)
  clear b2
  go_wp2
  go_ret
  exact ⟨rfl, chain B0.out E.out⟩

set_option maxRecDepth 100000 in
set_option maxHeartbeats 4000000 in
theorem psc_bad (L : List (Bool × ByteArray)) (v : Value) (b : Bool) (s : ByteArray) (w : World) (h : Rw w v L) (z : Lim L) (hz : s.size ≤ 9223372036854775807) (hs : shP L = true) (hl : s.size ≤ 30) (hv : vldP L = false) :
    Calls Tryz.prog 5 #[v, .agg #[.bool b, .string s]] w (Ret (.bool true) w) := by
  obtain ⟨w0, hw0⟩ : ∃ w0 : World, w0 = w.alloc (.cells #[.bool b, .string s] 44) := ⟨_, rfl⟩
  have I3 : Hid (ZC (.bool b) (.string s) w0 w.heap.size) := by rw [hw0]; exact ZC.new rfl
  have B0 : Hid (Below w.heap.size w w0) := by rw [hw0]; exact below_one _ _
  have HK := Lib.hid known_true
  have HS := Lib.hid (k_short1 (h.below B0.out) z _ hs)
  have s1 := shP_small hs
  have f1 : ¬ (30 : Int) < (s.size : Int) := by omega
  have HA := Lib.hid (fun w' (hb : Below w0.heap.size w0 w') => Scale_bad L v b s w' (h.below (chain B0.out hb)) s1 (by omega) (by rw [hv]; rfl))
  have HD := Lib.hid (fun w' (hb : Below w0.heap.size w0 w') => Derive_bad L v w' (h.below (chain B0.out hb)) s1 hv)
  have HC := Lib.hid (fun w' (hb : Below w0.heap.size w0 w') => Content_bad L v w' (h.below (chain B0.out hb)) s1 hv)
  have HP := Lib.hid (fun w' (hb : Below w0.heap.size w0 w') => Primitive_bad L v w' (h.below (chain B0.out hb)) s1 hv)
  have HV := Lib.hid (fun w' (hb : Below w0.heap.size w0 w') => k_valid1 (h.below (chain B0.out hb)) s1 _ hv)
  have hz0 : Z 0 = .agg #[.bool false, .string ⟨#[]⟩] := by rfl
  rw [hz0] at HC
  clear hv s1 hz0
  unfold ResE at *
  obtain ⟨p1, a1, o1, c1, rfl, -, -, -, -⟩ := h
  generalize L.length = n1 at *
  clear z hs
  unfold BPost at *
  unfold Ret at *
  go_enter Tryz.func5, Tryz.ntmps5
  go_upto_region 1 with (fail)
  rw [← hw0]
  clear hw0
  go_wp2_with fail
  refine (HS.out).mono ?_
  rintro e x1 ⟨rfl, b1⟩
  have E := Lib.hid (b1)
  clear b1
  obtain ⟨k0, k1, _⟩ := I3.out.next E.out
  go_wp2_with fail
  refine (HA.out _ E.out).mono ?_
  rintro e x2 ⟨rfl, b2⟩
  have E := Lib.hid (chain E.out b2)
  clear b2
  go_wp2_with fail
  refine (HD.out _ E.out).mono ?_
  rintro e x3 ⟨rfl, b3⟩
  have E := Lib.hid (chain E.out b3)
  clear b3
  go_wp2_with fail
  refine (HC.out _ E.out).mono ?_
  rintro e x4 ⟨rfl, b4⟩
  have E := Lib.hid (chain E.out b4)
  clear b4
  obtain ⟨u, hu⟩ : ∃ u : World, u = x4.alloc (.cells #[.bool false, .string ⟨#[]⟩] 44) := ⟨_, rfl⟩
  have T9 : Hid (ZC (.bool false) (.string ⟨#[]⟩) u x4.heap.size) := by rw [hu]; exact ZC.new rfl
  have E : Hid (Below w0.heap.size w0 u) := by rw [hu]; exact E.out.alloc E.out.size _
  go_upto_region 6 with (fail)
  rw [← hu]
  clear hu k0 k1
  go_wp2_with fail
  refine (HP.out _ E.out).mono ?_
  rintro e x5 ⟨rfl, b5⟩
  have E := Lib.hid (chain E.out b5)
  have T9 := Lib.hid (T9.out.next b5)
  clear b5
  go_wp2_with fail
  refine (HV.out _ E.out).mono ?_
  rintro e x6 ⟨rfl, b6⟩
  have E := Lib.hid (chain E.out b6)
  have T9 := Lib.hid (T9.out.next b6)
  clear b6
  obtain ⟨m0, m1, _⟩ := T9.out
  go_wp2_with fail
  refine (HK.out _).mono ?_
  rintro e x7 ⟨rfl, b7⟩
  have E := Lib.hid (chain E.out b7)
  clear b7
  go_wp2
  go_ret
  exact ⟨rfl, chain B0.out E.out⟩
end Go.Proofs.YtepddegphdlbeaaGreat

/- PolyScales: the walks where the polynomial is valid. -/
namespace Go.Proofs.YtepddegphdlbeaaGreat
open Go.RowKit

set_option maxRecDepth 100000 in
set_option maxHeartbeats 8000000 in
theorem psc_inv (p Ts Td Tp : List Int) (c : Int) (cb : Bool) (cs : ByteArray) (v : Value) (b : Bool) (s : ByteArray) (w : World) (n : Nat) (hn : p.length = n) (h : Rp w v p) (hl : s.size ≤ 30)
    (HS : ∀ w', Below w.heap.size w w' → Calls Tryz.prog 11 #[.slice (some ⟨w'.heap.size, 0, none⟩) 1 1] (w'.alloc (.cells #[v] 23)) (BPost true w'))
    (HV : ∀ w', Below w.heap.size w w' → Calls Tryz.prog 19 #[.slice (some ⟨w'.heap.size, 0, none⟩) 1 1] (w'.alloc (.cells #[v] 23)) (BPost true w'))
    (HA : ∀ w', Below w.heap.size w w' → Calls Tryz.prog 31 #[v, .agg #[.bool b, .string s]] w' (ResE 2 w'))
    (HD : ∀ w', Below w.heap.size w w' → Calls Tryz.prog 32 #[v] w' (ResP Td w'))
    (HC : ∀ w', Below w.heap.size w w' → Calls Tryz.prog 33 #[v] w' (Ret (.tuple #[.agg #[.bool cb, .string cs], .int .i64 0]) w'))
    (HP : ∀ w', Below w.heap.size w w' → Calls Tryz.prog 34 #[v] w' (ResP Tp w'))
    (HF : ∀ w', Below w.heap.size w w' → Calls Tryz.prog 21 #[v] w' (RPPost p w'))
    (HW : ∀ w', Calls Tryz.prog 35 #[.agg #[.bool b, .string s]] w' (BPost false w'))
    (HRD : ∀ w' x, RP w' x p → Calls Tryz.prog 38 #[x] w' (RPPost Td w'))
    (HRC : ∀ w' x, RP w' x p → Calls Tryz.prog 40 #[x] w' (IntPost c w'))
    (HRP : ∀ w' x, RP w' x p → Calls Tryz.prog 41 #[x] w' (RPPost Tp w'))
    (HT : ∀ w' u, Rz w' u c → Calls Tryz.prog 39 #[iV c u] w' fun e w'' => e = .returned (.agg #[.bool cb, .string cs]) ∧ Below w'.heap.size w' w'')
    (HE : ∀ T, T = Td ∨ T = Tp → ∀ w' v x, Rp w' v T → RP w' x T → Calls Tryz.prog 24 #[v, .int .i64 0, x] w' (BPost true w')) :
    Calls Tryz.prog 5 #[v, .agg #[.bool b, .string s]] w (Ret (.bool true) w) := by
  have ED := Lib.hid (HE Td (Or.inl rfl))
  have EP := Lib.hid (HE Tp (Or.inr rfl))
  obtain ⟨w0, hw0⟩ : ∃ w0 : World, w0 = w.alloc (.cells #[.bool b, .string s] 44) := ⟨_, rfl⟩
  have I3 : Hid (ZC (.bool b) (.string s) w0 w.heap.size) := by rw [hw0]; exact ZC.new rfl
  have B0 : Hid (Below w.heap.size w w0) := by rw [hw0]; exact below_one _ _
  have HK := Lib.hid known_true
  have HS := Lib.hid HS
  have HV := Lib.hid HV
  have HA := Lib.hid HA
  have HD := Lib.hid HD
  have HC := Lib.hid HC
  have HP := Lib.hid HP
  have HF := Lib.hid HF
  have HW := Lib.hid HW
  have HRD := Lib.hid HRD
  have HRC := Lib.hid HRC
  have HRP := Lib.hid HRP
  have HT := Lib.hid HT
  have f1 : ¬ (30 : Int) < (s.size : Int) := by omega
  obtain ⟨p1, a1, o1, c1, rfl, -, -, -, -⟩ := h.open_
  clear HE h hl
  rw [hn] at *
  clear hn
  unfold ResP at *
  unfold ResE at HA
  unfold RPPost at *
  unfold IntPost iV at *
  unfold BPost at *
  unfold Ret at *
  go_enter Tryz.func5, Tryz.ntmps5
  go_upto_region 1 with (fail)
  rw [← hw0]
  clear hw0
  go_wp2_with fail
  refine (HS.out _ B0.out).mono ?_
  rintro e x1 ⟨rfl, b1⟩
  have E := Lib.hid (chain B0.out b1)
  have I3 := Lib.hid (I3.out.next b1)
  clear b1
  obtain ⟨k0, k1, _⟩ := I3.out
  go_wp2_with fail
  refine (HA.out _ E.out).mono ?_
  rintro e x2 ⟨rfl, b2⟩
  have E := Lib.hid (chain E.out b2)
  have I3 := Lib.hid (I3.out.next b2)
  clear b2
  go_wp2_with fail
  refine (HD.out _ E.out).mono ?_
  rintro e x3 ⟨y3, rfl, r3, b3⟩
  have E := Lib.hid (chain E.out b3)
  have I3 := Lib.hid (I3.out.next b3)
  have RD := Lib.hid r3
  clear r3
  clear b3
  go_wp2_with fail
  refine (HC.out _ E.out).mono ?_
  rintro e x4 ⟨rfl, b4⟩
  have RD := Lib.hid (RD.out.below b4)
  have E := Lib.hid (chain E.out b4)
  have I3 := Lib.hid (I3.out.next b4)
  clear b4
  clear k0 k1
  obtain ⟨u, hu⟩ : ∃ u : World, u = x4.alloc (.cells #[.bool cb, .string cs] 44) := ⟨_, rfl⟩
  have T9 : Hid (ZC (.bool cb) (.string cs) u x4.heap.size) := by rw [hu]; exact ZC.new rfl
  have B9 : Hid (Below x4.heap.size x4 u) := by rw [hu]; exact below_one _ _
  have E := Lib.hid (chain E.out B9.out)
  have I3 := Lib.hid (I3.out.next B9.out)
  have RD := Lib.hid (RD.out.below B9.out)
  go_upto_region 6 with (fail)
  rw [← hu]
  clear hu B9
  go_wp2_with fail
  refine (HP.out _ E.out).mono ?_
  rintro e x5 ⟨y5, rfl, r5, b5⟩
  have RD := Lib.hid (RD.out.below b5)
  have T9 := Lib.hid (T9.out.next b5)
  have E := Lib.hid (chain E.out b5)
  have I3 := Lib.hid (I3.out.next b5)
  have RP1 := Lib.hid r5
  clear r5
  clear b5
  go_wp2_with fail
  refine (HV.out _ E.out).mono ?_
  rintro e x6 ⟨rfl, b6⟩
  have RD := Lib.hid (RD.out.below b6)
  have RP1 := Lib.hid (RP1.out.below b6)
  have T9 := Lib.hid (T9.out.next b6)
  have E := Lib.hid (chain E.out b6)
  have I3 := Lib.hid (I3.out.next b6)
  clear b6
  go_wp2_with fail
  refine (HF.out _ E.out).mono ?_
  rintro e x7 ⟨y7, rfl, r7, b7⟩
  have RD := Lib.hid (RD.out.below b7)
  have RP1 := Lib.hid (RP1.out.below b7)
  have T9 := Lib.hid (T9.out.next b7)
  have E := Lib.hid (chain E.out b7)
  have I3 := Lib.hid (I3.out.next b7)
  have RX := Lib.hid r7
  clear r7
  clear b7
  obtain ⟨k0, k1, _⟩ := I3.out
  go_wp2_with fail
  refine (HW.out _).mono ?_
  rintro e x8 ⟨rfl, b8⟩
  have RD := Lib.hid (RD.out.below b8)
  have RP1 := Lib.hid (RP1.out.below b8)
  have RX := Lib.hid (RX.out.below b8)
  have T9 := Lib.hid (T9.out.next b8)
  have E := Lib.hid (chain E.out b8)
  have I3 := Lib.hid (I3.out.next b8)
  clear b8
  obtain ⟨m0, m1, _⟩ := T9.out
  clear T9 I3 k0 k1
  go_wp2_with fail
  go_region_held3 (fun W' => W'.cell? ⟨x4.heap.size, 0, none⟩ = some (.bool cb) ∧ W'.cell? ⟨x4.heap.size, 1, none⟩ = some (.string cs)) (go_keep)
    (first
      | (go_at_call 38; (with_reducible refine (HRD.out _ _ (RX.out.below ?psc_inva)).mono ?_); (first | exact D.out | exact (Below.refl _ _).drew); rintro e y ⟨z9, rfl, r9, b9⟩; have D := Lib.hid (show Below x8.heap.size x8 y by first | exact chain D.out b9 | exact chain ((Below.refl _ _).drew) b9); have QD := Lib.hid r9; clear r9; have p0 := keep1 D.out m0; have p1 := keep1 D.out m1; clear b9)
      | (go_at_call 24; (with_reducible refine (ED.out _ _ _ (RD.out.below ?psc_invb) (QD.out.below ?psc_invc)).mono ?_); (first | exact D.out | exact (Below.refl _ _).drew); (first | exact Below.refl _ _ | exact (Below.refl _ _).drew); rintro e y ⟨rfl, b9⟩; have D := Lib.hid (show Below x8.heap.size x8 y by first | exact chain D.out b9 | exact chain ((Below.refl _ _).drew) b9); have p0 := keep1 D.out m0; have p1 := keep1 D.out m1; clear b9)
      | (go_at_call 40; (with_reducible refine (HRC.out _ _ (RX.out.below ?psc_invd)).mono ?_); (first | exact D.out | exact (Below.refl _ _).drew); rintro e y ⟨z9, rfl, r9, b9⟩; have D := Lib.hid (show Below x8.heap.size x8 y by first | exact chain D.out b9 | exact chain ((Below.refl _ _).drew) b9); have QC := Lib.hid r9; clear r9; have p0 := keep1 D.out m0; have p1 := keep1 D.out m1; clear b9)
      | (go_at_call 39; (with_reducible refine (HT.out _ _ (Rz.below QC.out ?psc_inve)).mono ?_); (first | exact Below.refl _ _ | exact (Below.refl _ _).drew); rintro e y ⟨rfl, b9⟩; have D := Lib.hid (show Below x8.heap.size x8 y by first | exact chain D.out b9 | exact chain ((Below.refl _ _).drew) b9); have p0 := keep1 D.out m0; have p1 := keep1 D.out m1; clear b9)
      | (go_at_call 41; (with_reducible refine (HRP.out _ _ (RX.out.below ?psc_invf)).mono ?_); (first | exact D.out | exact (Below.refl _ _).drew); rintro e y ⟨z9, rfl, r9, b9⟩; have D := Lib.hid (show Below x8.heap.size x8 y by first | exact chain D.out b9 | exact chain ((Below.refl _ _).drew) b9); have QP := Lib.hid r9; clear r9; have p0 := keep1 D.out m0; have p1 := keep1 D.out m1; clear b9)
      | (go_at_call 24; (with_reducible refine (EP.out _ _ _ (RP1.out.below ?psc_invg) (QP.out.below ?psc_invh)).mono ?_); (first | exact D.out | exact (Below.refl _ _).drew); (first | exact Below.refl _ _ | exact (Below.refl _ _).drew); rintro e y ⟨rfl, b9⟩; have D := Lib.hid (show Below x8.heap.size x8 y by first | exact chain D.out b9 | exact chain ((Below.refl _ _).drew) b9); have p0 := keep1 D.out m0; have p1 := keep1 D.out m1; clear b9)
      | (go_at_call 12; (with_reducible refine (HK.out _).mono ?_); rintro e y ⟨rfl, b9⟩; have D := Lib.hid (show Below x8.heap.size x8 y by first | exact chain D.out b9 | exact chain ((Below.refl _ _).drew) b9); have p0 := keep1 D.out m0; have p1 := keep1 D.out m1; clear b9)
      | fail)
  go_wp2
  go_ret
  exact ⟨rfl, chain E.out D.out⟩

set_option maxRecDepth 100000 in
set_option maxHeartbeats 8000000 in
theorem psc_ok (p Ts Td Tp : List Int) (c c2 : Int) (cb : Bool) (cs : ByteArray) (v : Value) (b : Bool) (s : ByteArray) (w : World) (n : Nat) (hn : p.length = n) (h : Rp w v p) (hl : s.size ≤ 30)
    (HS : ∀ w', Below w.heap.size w w' → Calls Tryz.prog 11 #[.slice (some ⟨w'.heap.size, 0, none⟩) 1 1] (w'.alloc (.cells #[v] 23)) (BPost true w'))
    (HV : ∀ w', Below w.heap.size w w' → Calls Tryz.prog 19 #[.slice (some ⟨w'.heap.size, 0, none⟩) 1 1] (w'.alloc (.cells #[v] 23)) (BPost true w'))
    (HA : ∀ w', Below w.heap.size w w' → Calls Tryz.prog 31 #[v, .agg #[.bool b, .string s]] w' (ResP Ts w'))
    (HD : ∀ w', Below w.heap.size w w' → Calls Tryz.prog 32 #[v] w' (ResP Td w'))
    (HC : ∀ w', Below w.heap.size w w' → Calls Tryz.prog 33 #[v] w' (Ret (.tuple #[.agg #[.bool cb, .string cs], .int .i64 0]) w'))
    (HP : ∀ w', Below w.heap.size w w' → Calls Tryz.prog 34 #[v] w' (ResP Tp w'))
    (HF : ∀ w', Below w.heap.size w w' → Calls Tryz.prog 21 #[v] w' (RPPost p w'))
    (HW : ∀ w', Calls Tryz.prog 35 #[.agg #[.bool b, .string s]] w' (BPost true w'))
    (HG : ∀ w', Calls Tryz.prog 37 #[.agg #[.bool b, .string s]] w' (IntPost c2 w'))
    (HRS : ∀ w' x u, RP w' x p → Rz w' u c2 → Calls Tryz.prog 36 #[x, iV c2 u] w' (RPPost Ts w'))
    (HRD : ∀ w' x, RP w' x p → Calls Tryz.prog 38 #[x] w' (RPPost Td w'))
    (HRC : ∀ w' x, RP w' x p → Calls Tryz.prog 40 #[x] w' (IntPost c w'))
    (HRP : ∀ w' x, RP w' x p → Calls Tryz.prog 41 #[x] w' (RPPost Tp w'))
    (HT : ∀ w' u, Rz w' u c → Calls Tryz.prog 39 #[iV c u] w' fun e w'' => e = .returned (.agg #[.bool cb, .string cs]) ∧ Below w'.heap.size w' w'')
    (HE : ∀ T, T = Ts ∨ T = Td ∨ T = Tp → ∀ w' v x, Rp w' v T → RP w' x T → Calls Tryz.prog 24 #[v, .int .i64 0, x] w' (BPost true w')) :
    Calls Tryz.prog 5 #[v, .agg #[.bool b, .string s]] w (Ret (.bool true) w) := by
  have ES := Lib.hid (HE Ts (Or.inl rfl))
  have ED := Lib.hid (HE Td (Or.inr (Or.inl rfl)))
  have EP := Lib.hid (HE Tp (Or.inr (Or.inr rfl)))
  obtain ⟨w0, hw0⟩ : ∃ w0 : World, w0 = w.alloc (.cells #[.bool b, .string s] 44) := ⟨_, rfl⟩
  have I3 : Hid (ZC (.bool b) (.string s) w0 w.heap.size) := by rw [hw0]; exact ZC.new rfl
  have B0 : Hid (Below w.heap.size w w0) := by rw [hw0]; exact below_one _ _
  have HK := Lib.hid known_true
  have HS := Lib.hid HS
  have HV := Lib.hid HV
  have HA := Lib.hid HA
  have HD := Lib.hid HD
  have HC := Lib.hid HC
  have HP := Lib.hid HP
  have HF := Lib.hid HF
  have HW := Lib.hid HW
  have HG := Lib.hid HG
  have HRS := Lib.hid HRS
  have HRD := Lib.hid HRD
  have HRC := Lib.hid HRC
  have HRP := Lib.hid HRP
  have HT := Lib.hid HT
  have f1 : ¬ (30 : Int) < (s.size : Int) := by omega
  obtain ⟨p1, a1, o1, c1, rfl, -, -, -, -⟩ := h.open_
  clear HE h hl
  rw [hn] at *
  clear hn
  unfold ResP at *
  unfold RPPost at *
  unfold IntPost iV at *
  unfold BPost at *
  unfold Ret at *
  go_enter Tryz.func5, Tryz.ntmps5
  go_upto_region 1 with (fail)
  rw [← hw0]
  clear hw0
  go_wp2_with fail
  refine (HS.out _ B0.out).mono ?_
  rintro e x1 ⟨rfl, b1⟩
  have E := Lib.hid (chain B0.out b1)
  have I3 := Lib.hid (I3.out.next b1)
  clear b1
  obtain ⟨k0, k1, _⟩ := I3.out
  go_wp2_with fail
  refine (HA.out _ E.out).mono ?_
  rintro e x2 ⟨y2, rfl, r2, b2⟩
  have E := Lib.hid (chain E.out b2)
  have I3 := Lib.hid (I3.out.next b2)
  have RS := Lib.hid r2
  clear r2
  clear b2
  go_wp2_with fail
  refine (HD.out _ E.out).mono ?_
  rintro e x3 ⟨y3, rfl, r3, b3⟩
  have RS := Lib.hid (RS.out.below b3)
  have E := Lib.hid (chain E.out b3)
  have I3 := Lib.hid (I3.out.next b3)
  have RD := Lib.hid r3
  clear r3
  clear b3
  go_wp2_with fail
  refine (HC.out _ E.out).mono ?_
  rintro e x4 ⟨rfl, b4⟩
  have RS := Lib.hid (RS.out.below b4)
  have RD := Lib.hid (RD.out.below b4)
  have E := Lib.hid (chain E.out b4)
  have I3 := Lib.hid (I3.out.next b4)
  clear b4
  clear k0 k1
  obtain ⟨u, hu⟩ : ∃ u : World, u = x4.alloc (.cells #[.bool cb, .string cs] 44) := ⟨_, rfl⟩
  have T9 : Hid (ZC (.bool cb) (.string cs) u x4.heap.size) := by rw [hu]; exact ZC.new rfl
  have B9 : Hid (Below x4.heap.size x4 u) := by rw [hu]; exact below_one _ _
  have E := Lib.hid (chain E.out B9.out)
  have I3 := Lib.hid (I3.out.next B9.out)
  have RS := Lib.hid (RS.out.below B9.out)
  have RD := Lib.hid (RD.out.below B9.out)
  go_upto_region 6 with (fail)
  rw [← hu]
  clear hu B9
  go_wp2_with fail
  refine (HP.out _ E.out).mono ?_
  rintro e x5 ⟨y5, rfl, r5, b5⟩
  have RS := Lib.hid (RS.out.below b5)
  have RD := Lib.hid (RD.out.below b5)
  have T9 := Lib.hid (T9.out.next b5)
  have E := Lib.hid (chain E.out b5)
  have I3 := Lib.hid (I3.out.next b5)
  have RP1 := Lib.hid r5
  clear r5
  clear b5
  go_wp2_with fail
  refine (HV.out _ E.out).mono ?_
  rintro e x6 ⟨rfl, b6⟩
  have RS := Lib.hid (RS.out.below b6)
  have RD := Lib.hid (RD.out.below b6)
  have RP1 := Lib.hid (RP1.out.below b6)
  have T9 := Lib.hid (T9.out.next b6)
  have E := Lib.hid (chain E.out b6)
  have I3 := Lib.hid (I3.out.next b6)
  clear b6
  go_wp2_with fail
  refine (HF.out _ E.out).mono ?_
  rintro e x7 ⟨y7, rfl, r7, b7⟩
  have RS := Lib.hid (RS.out.below b7)
  have RD := Lib.hid (RD.out.below b7)
  have RP1 := Lib.hid (RP1.out.below b7)
  have T9 := Lib.hid (T9.out.next b7)
  have E := Lib.hid (chain E.out b7)
  have I3 := Lib.hid (I3.out.next b7)
  have RX := Lib.hid r7
  clear r7
  clear b7
  obtain ⟨k0, k1, _⟩ := I3.out
  go_wp2_with fail
  refine (HW.out _).mono ?_
  rintro e x8 ⟨rfl, b8⟩
  have RS := Lib.hid (RS.out.below b8)
  have RD := Lib.hid (RD.out.below b8)
  have RP1 := Lib.hid (RP1.out.below b8)
  have RX := Lib.hid (RX.out.below b8)
  have T9 := Lib.hid (T9.out.next b8)
  have E := Lib.hid (chain E.out b8)
  have I3 := Lib.hid (I3.out.next b8)
  clear b8
  clear k0 k1
  obtain ⟨k0, k1, _⟩ := I3.out
  go_wp2_with fail
  refine (HG.out _).mono ?_
  rintro e x9 ⟨y9, rfl, r9, b9⟩
  have RS := Lib.hid (RS.out.below b9)
  have RD := Lib.hid (RD.out.below b9)
  have RP1 := Lib.hid (RP1.out.below b9)
  have RX := Lib.hid (RX.out.below b9)
  have T9 := Lib.hid (T9.out.next b9)
  have E := Lib.hid (chain E.out b9)
  have I3 := Lib.hid (I3.out.next b9)
  have RG := Lib.hid r9
  clear r9
  clear b9
  go_wp2_with fail
  refine (HRS.out _ _ _ RX.out RG.out).mono ?_
  rintro e x10 ⟨y10, rfl, r10, b10⟩
  have RS := Lib.hid (RS.out.below b10)
  have RD := Lib.hid (RD.out.below b10)
  have RP1 := Lib.hid (RP1.out.below b10)
  have RX := Lib.hid (RX.out.below b10)
  have RG := Lib.hid (RG.out.below b10)
  have T9 := Lib.hid (T9.out.next b10)
  have E := Lib.hid (chain E.out b10)
  have I3 := Lib.hid (I3.out.next b10)
  have ZS := Lib.hid r10
  clear r10
  clear b10
  go_wp2_with fail
  refine (ES.out _ _ _ RS.out ZS.out).mono ?_
  rintro e x11 ⟨rfl, b11⟩
  have RS := Lib.hid (RS.out.below b11)
  have RD := Lib.hid (RD.out.below b11)
  have RP1 := Lib.hid (RP1.out.below b11)
  have RX := Lib.hid (RX.out.below b11)
  have RG := Lib.hid (RG.out.below b11)
  have ZS := Lib.hid (ZS.out.below b11)
  have T9 := Lib.hid (T9.out.next b11)
  have E := Lib.hid (chain E.out b11)
  have I3 := Lib.hid (I3.out.next b11)
  clear b11
  clear RS RG ZS
  obtain ⟨m0, m1, _⟩ := T9.out
  clear T9 I3 k0 k1
  go_wp2_with fail
  go_region_held3 (fun W' => W'.cell? ⟨x4.heap.size, 0, none⟩ = some (.bool cb) ∧ W'.cell? ⟨x4.heap.size, 1, none⟩ = some (.string cs)) (go_keep)
    (first
      | (go_at_call 38; (with_reducible refine (HRD.out _ _ (RX.out.below ?psc_oka)).mono ?_); (first | exact D.out | exact (Below.refl _ _).drew); rintro e y ⟨z9, rfl, r9, b9⟩; have D := Lib.hid (show Below x11.heap.size x11 y by first | exact chain D.out b9 | exact chain ((Below.refl _ _).drew) b9); have QD := Lib.hid r9; clear r9; have p0 := keep1 D.out m0; have p1 := keep1 D.out m1; clear b9)
      | (go_at_call 24; (with_reducible refine (ED.out _ _ _ (RD.out.below ?psc_okb) (QD.out.below ?psc_okc)).mono ?_); (first | exact D.out | exact (Below.refl _ _).drew); (first | exact Below.refl _ _ | exact (Below.refl _ _).drew); rintro e y ⟨rfl, b9⟩; have D := Lib.hid (show Below x11.heap.size x11 y by first | exact chain D.out b9 | exact chain ((Below.refl _ _).drew) b9); have p0 := keep1 D.out m0; have p1 := keep1 D.out m1; clear b9)
      | (go_at_call 40; (with_reducible refine (HRC.out _ _ (RX.out.below ?psc_okd)).mono ?_); (first | exact D.out | exact (Below.refl _ _).drew); rintro e y ⟨z9, rfl, r9, b9⟩; have D := Lib.hid (show Below x11.heap.size x11 y by first | exact chain D.out b9 | exact chain ((Below.refl _ _).drew) b9); have QC := Lib.hid r9; clear r9; have p0 := keep1 D.out m0; have p1 := keep1 D.out m1; clear b9)
      | (go_at_call 39; (with_reducible refine (HT.out _ _ (Rz.below QC.out ?psc_oke)).mono ?_); (first | exact Below.refl _ _ | exact (Below.refl _ _).drew); rintro e y ⟨rfl, b9⟩; have D := Lib.hid (show Below x11.heap.size x11 y by first | exact chain D.out b9 | exact chain ((Below.refl _ _).drew) b9); have p0 := keep1 D.out m0; have p1 := keep1 D.out m1; clear b9)
      | (go_at_call 41; (with_reducible refine (HRP.out _ _ (RX.out.below ?psc_okf)).mono ?_); (first | exact D.out | exact (Below.refl _ _).drew); rintro e y ⟨z9, rfl, r9, b9⟩; have D := Lib.hid (show Below x11.heap.size x11 y by first | exact chain D.out b9 | exact chain ((Below.refl _ _).drew) b9); have QP := Lib.hid r9; clear r9; have p0 := keep1 D.out m0; have p1 := keep1 D.out m1; clear b9)
      | (go_at_call 24; (with_reducible refine (EP.out _ _ _ (RP1.out.below ?psc_okg) (QP.out.below ?psc_okh)).mono ?_); (first | exact D.out | exact (Below.refl _ _).drew); (first | exact Below.refl _ _ | exact (Below.refl _ _).drew); rintro e y ⟨rfl, b9⟩; have D := Lib.hid (show Below x11.heap.size x11 y by first | exact chain D.out b9 | exact chain ((Below.refl _ _).drew) b9); have p0 := keep1 D.out m0; have p1 := keep1 D.out m1; clear b9)
      | (go_at_call 12; (with_reducible refine (HK.out _).mono ?_); rintro e y ⟨rfl, b9⟩; have D := Lib.hid (show Below x11.heap.size x11 y by first | exact chain D.out b9 | exact chain ((Below.refl _ _).drew) b9); have p0 := keep1 D.out m0; have p1 := keep1 D.out m1; clear b9)
      | fail)
  go_wp2
  go_ret
  exact ⟨rfl, chain E.out D.out⟩
end Go.Proofs.YtepddegphdlbeaaGreat

/- PolySums: the walks where both are valid. -/
namespace Go.Proofs.YtepddegphdlbeaaGreat
open Go.RowKit

end Go.Proofs.YtepddegphdlbeaaGreat

/- PolySums gives true for all lists. -/
namespace Go.Proofs.YtepddegphdlbeaaGreat
open Go.RowKit

theorem top_of {z : Int} {n : Nat} (h : z.natAbs < D9 ^ n) (hn : n ≤ 2000) : z.natAbs < Top := (nine_fit h rfl).top (by omega)

end Go.Proofs.YtepddegphdlbeaaGreat

/- The reference's Content and Primitive. -/
namespace Go.Proofs.YtepddegphdlbeaaGreat
open Go.RowKit

theorem rcont_snoc (p : List Int) (k : Nat) (h : k < p.length) : Nat.gcd (Pl.cont (p.take k)) (p[k]).natAbs = Pl.cont (p.take (k + 1)) := by
  unfold Pl.cont
  rw [List.take_succ_eq_append_getElem h, List.foldl_append]
  rfl
theorem cont_take_lt {n : Nat} {p : List Int} (s : Sz n p) (k : Nat) : Pl.cont (p.take k) < D9 ^ n := by
  induction k with
  | zero => simp [Pl.cont]; exact Nat.pow_pos (by decide)
  | succ k ih =>
    by_cases h : k < p.length
    · rw [← rcont_snoc p k h]
      rcases Nat.eq_zero_or_pos (Pl.cont (p.take k)) with h0 | h0
      · rw [h0, Nat.gcd_zero_left]
        have := s k
        rwa [Pl.cf_lt h] at this
      · exact Nat.lt_of_le_of_lt (Nat.gcd_le_left _ h0) ih
    · rw [List.take_of_length_le (by omega)]
      rw [List.take_of_length_le (by omega)] at ih
      exact ih
theorem Sz.prim {n : Nat} {p : List Int} (s : Sz n p) : Sz n (Pl.prim p) := fun k => by
  rw [Pl.cf_prim]
  exact Nat.lt_of_le_of_lt (Int.natAbs_ediv_le_natAbs _ _) (s k)

set_option maxRecDepth 100000 in
set_option maxHeartbeats 2000000 in
theorem rContent_any (n : Nat) (hn : n ≤ 90000) (p : List Int) (v : Value) (w : World) (h : RP w v p) (l : p.length ≤ 1000) (s : Sz n p) :
    Calls Tryz.prog 40 #[v] w (IntPost (Pl.cont p : Nat) w) := by
  obtain ⟨w0, hw0⟩ : ∃ w0 : World, w0 = (w.alloc (.cells #[.bool false, .slice none 0 0] 52)).alloc (.cells #[.bool false, .slice none 0 0] 52) := ⟨_, rfl⟩
  have hb0 : Hid (Below w.heap.size w w0) := by rw [hw0]; exact (below_one _ _).alloc (by simp) _
  have I2 : Hid (Bz w0 w.heap.size 0) := by rw [hw0]; exact (Bz.made (rz_zero w)).alloc _
  have T0 : Hid (Bz w0 (w.heap.size + 1) 0) := by
    show Bz _ _ _
    rw [hw0]
    have := Bz.made (rz_zero (w.alloc (.cells #[.bool false, .slice none 0 0] 52)))
    simpa using this
  have HZ0 : Hid (w0.heap.size = w.heap.size + 2) := by show _ = _; rw [hw0]; simp
  have HG := Lib.hid (fun k (hk : k < p.length) u1 u2 w' (g1 : Rz w' u1 ((Pl.cont (p.take k) : Nat) : Int)) (g2 : Rz w' u2 p[k]) => rgcd_int _ _ u1 u2 w' g1 g2 (by
    refine Nat.le_trans (len9 (k := n) ?_) (by omega)
    rw [Int.natAbs_natCast]; exact cont_take_lt s k) (by
    have := s.len k
    rw [Pl.cf_lt hk] at this
    omega))
  have HC : ∀ k (hk : k < p.length), (Nat.gcd ((Pl.cont (p.take k) : Nat) : Int).natAbs (p[k]).natAbs) = Pl.cont (p.take (k + 1)) := fun k hk => by rw [Int.natAbs_natCast]; exact rcont_snoc p k hk
  have HG : Hid (∀ k (hk : k < p.length) u1 u2 w', Rz w' u1 ((Pl.cont (p.take k) : Nat) : Int) → Rz w' u2 p[k] → Calls Tryz.prog 97 #[iV ((Pl.cont (p.take k) : Nat) : Int) u1, iV p[k] u2] w' (IntPost ((Pl.cont (p.take (k + 1)) : Nat) : Int) w')) := fun k hk u1 u2 w' g1 g2 => by rw [← HC k hk]; exact HG.out k hk u1 u2 w' g1 g2
  have Hw0 := Lib.hid hw0
  clear hw0 s hn HC
  obtain ⟨f, hf⟩ : ∃ f : Nat → Int, f = fun k => ((Pl.cont (p.take k) : Nat) : Int) := ⟨_, rfl⟩
  have HF : ∀ k, ((Pl.cont (p.take k) : Nat) : Int) = f k := fun k => by rw [hf]
  simp only [HF] at HG
  have E0 : Hid (f 0 = 0) := by show _ = _; rw [hf]; rfl
  have EN : Hid (((Pl.cont p : Nat) : Int) = f p.length) := by show _ = _; rw [hf]; simp only; rw [List.take_length]
  rw [EN.out]
  obtain ⟨a1, b1, o1, c1, rfl, -, -, h4, h5⟩ := h
  have H4 := Lib.hid h4
  have H5 := Lib.hid h5
  obtain ⟨n1, hn1⟩ : ∃ n, n = p.length := ⟨_, rfl⟩
  rw [← hn1] at l ⊢
  have HN := Lib.hid hn1
  clear h4 h5 HF hf EN hn1
  go_enter Tryz.func40, Tryz.ntmps40
  go_upto_region 2 with (fail)
  rw [← Hw0.out]
  clear Hw0
  go_wp2
  go_loopw [4] (fun iv wr => ∃ (wz : World) (k : Nat), wz = wr ∧ iv = .int .i64 (k : Int) ∧ k ≤ n1 ∧ Hid (Bz wz (w.heap.size + 1) (f k)) ∧ Hid (Bz wz w.heap.size 0) ∧ Hid (Below w.heap.size w wz))
    (fun iv _ => n1 - (intOf iv).toNat)
  case atStart => exact ⟨w0, 0, rfl, rfl, Nat.zero_le _, by rw [E0.out]; exact T0.out, I2.out, hb0.out⟩
  case round =>
    obtain ⟨wz, k, rfl, rfl, hk, ht, hI, hd⟩ := hrel
    clear T0
    obtain ⟨pz, cz, R, k0, k1, k2, k3⟩ := ht.out.open_
    have HR := Lib.hid R
    clear R
    by_cases hlt : k < n1
    · have hkp : k < p.length := by have h5 : n1 = p.length := HN.out; omega
      have hkk : (k : Int) < (n1 : Int) := by omega
      have hk0 : (0 : Int) ≤ (k : Int) := by omega
      obtain rfl := H4.out (by intro e; rw [e] at hkp; exact absurd hkp (Nat.not_lt_zero _))
      obtain ⟨uk, g0, g1, g2⟩ := H5.out k hkp
      have G0 := Lib.hid (And.intro g0 g1)
      have hbl1 := World.block_lt_of_cell? w _ g0
      simp only at hbl1
      have c0 := keep1 hd.out g0
      have c1 := keep1 hd.out g1
      have HG := Lib.hid (fun w' (h1 : Rz w' (.slice pz (Nm.dg D9 (f k).natAbs).length cz) (f k)) (hb : Below wz.heap.size wz w') => HG.out k hkp _ uk w' h1 ((g2.below hd.out).below hb))
      have q1 : ¬ b1 = w.heap.size + 1 := by omega
      generalize p[k] = x at *
      obtain ⟨pk, bk, ok, ck, rfl, -⟩ := g2
      unfold iV at HG
      clear g0 g1 hkp
      go_upto_region 5 with (fail)
      refine wp_region_noPanic ?_
      refine wp_region_held_drew (S := (fun W' => W'.cell? ⟨b1, o1 + k * 2, none⟩ = some (.bool (decide (x < 0))) ∧ W'.cell? ⟨b1, o1 + k * 2 + 1, none⟩ = some (.slice pk (Nm.dg D9 x.natAbs).length ck))) (by kernel_rfl) ?_ (fun hHeld => ?_)
      · (try dsimp only)
        exact ⟨c0, c1⟩
      refine wpAnyH_take (i := 1) (oi := ?oi1) (v := ?v1) ?hi1 (by kernel_rfl) (by kernel_rfl) (by kernel_rfl) (fun _ _ _ h => h) (Or.inl ⟨?hw1, ?hy1⟩) (by assumption) ?rest1
      case hi1 => simp only [List.getElem?_toArray, List.getElem?_cons_succ, List.getElem?_cons_zero]; rfl
      case hw1 => rfl
      case hy1 =>
        intro w hSw
        (try dsimp only at hSw)
        go_simp
        (try with_reducible rfl)
      (try simp only [Act.put, List.setIfInBounds_toArray, List.set_cons_zero, List.set_cons_succ])
      refine wpAnyH_take (i := 2) (oi := ?oi2) (v := ?v2) ?hi2 (by kernel_rfl) (by kernel_rfl) (by kernel_rfl) (fun _ _ _ h => h) (Or.inl ⟨?hw2, ?hy2⟩) (by assumption) ?rest2
      case hi2 => simp only [List.getElem?_toArray, List.getElem?_cons_succ, List.getElem?_cons_zero]; rfl
      case hw2 => rfl
      case hy2 =>
        intro w hSw
        (try dsimp only at hSw)
        go_simp
        (try with_reducible rfl)
      (try simp only [Act.put, List.setIfInBounds_toArray, List.set_cons_zero, List.set_cons_succ])
      refine wpAnyH_take (i := 3) (oi := ?oi3) (v := ?v3) ?hi3 (by kernel_rfl) (by kernel_rfl) (by kernel_rfl) (fun _ _ _ h => h) (Or.inl ⟨?hw3, ?hy3⟩) (by assumption) ?rest3
      case hi3 => simp only [List.getElem?_toArray, List.getElem?_cons_succ, List.getElem?_cons_zero]; rfl
      case hw3 => rfl
      case hy3 =>
        intro w hSw
        (try dsimp only at hSw)
        go_simp
        (try with_reducible rfl)
      (try simp only [Act.put, List.setIfInBounds_toArray, List.set_cons_zero, List.set_cons_succ])
      refine wpAnyH_take (i := 4) (oi := ?oi4) (v := ?v4) ?hi4 (by kernel_rfl) (by kernel_rfl) (by kernel_rfl) (fun _ _ _ h => h) (Or.inl ⟨?hw4, ?hy4⟩) (by assumption) ?rest4
      case hi4 => simp only [List.getElem?_toArray, List.getElem?_cons_succ, List.getElem?_cons_zero]; rfl
      case hw4 => rfl
      case hy4 =>
        intro w hSw
        (try dsimp only at hSw)
        go_simp
        (try with_reducible rfl)
      (try simp only [Act.put, List.setIfInBounds_toArray, List.set_cons_zero, List.set_cons_succ])
      refine wpAnyH_ready (rs := [0]) (by kernel_rfl) (by simp) ?_
      refine AllReadyH.cons (o := ?oi5) ?hi5 ?rest5 AllReadyH.nil
      case hi5 => simp only [List.getElem?_toArray, List.getElem?_cons_succ, List.getElem?_cons_zero]; rfl
      intro K hK
      go_simp
      refine hK.out _ _ ?_ (fun hHeld => ?_)
      · (try dsimp only)
        exact ⟨c0, c1⟩
      clear hK K
      (try simp only [Act.put, List.setIfInBounds_toArray, List.set_cons_zero, List.set_cons_succ])
      refine wpAnyH_ready (rs := [5]) (by kernel_rfl) (by simp) ?_
      refine AllReadyH.cons (o := ?oi6) ?hi6 ?rest6 AllReadyH.nil
      case hi6 => simp only [List.getElem?_toArray, List.getElem?_cons_succ, List.getElem?_cons_zero]; rfl
      intro K hK
      go_simp
      (with_reducible refine (HG.out wz.drew HR.out.drew (Below.refl _ _).drew).mono ?_)
      rintro e y ⟨v2, rfl, r2, b2⟩
      have d2 := chain ((Below.refl wz.heap.size wz).drew) b2
      unfold iV
      have ZZ := Lib.hid (ht.out.below d2)
      have C2 := Lib.hid (below_set2 (chain hd.out d2) (g := w.heap.size + 1) (by omega) (.bool (decide (f (k + 1) < 0))) v2)
      have CI := Lib.hid ((hI.out.below d2).other ZZ.out (by omega) (.bool (decide (f (k + 1) < 0))) v2)
      have TT := Lib.hid (ZZ.out.store r2)
      have p0 := keep1 d2 c0
      have p1 := keep1 d2 c1
      obtain ⟨_, _, -, j0, j1, j2, j3⟩ := ZZ.out.open_
      obtain ⟨pq2, bb2, oo2, cc2, rfl, rr2⟩ := r2
      clear b2 d2 rr2
      (try go_wp2_with fail)
      refine hK.out _ _ ?_ (fun hHeld => ?_)
      · (try dsimp only)
        exact ⟨p0, p1⟩
      clear hK K
      (try simp only [Act.put, List.setIfInBounds_toArray, List.set_cons_zero, List.set_cons_succ])
      refine wpAnyH_ready (rs := [6]) (by kernel_rfl) (by simp) ?_
      refine AllReadyH.cons (o := ?oi7) ?hi7 ?rest7 AllReadyH.nil
      case hi7 => simp only [List.getElem?_toArray, List.getElem?_cons_succ, List.getElem?_cons_zero]; rfl
      intro K hK
      go_simp
      refine hK.out _ _ ?_ (fun hHeld => ?_)
      · (try dsimp only)
        exact ⟨far2 (by simp only; omega) p0, far2 (by simp only; omega) p1⟩
      clear hK K
      (try simp only [Act.put, List.setIfInBounds_toArray, List.set_cons_zero, List.set_cons_succ])
      refine wpAnyH_done (by kernel_rfl) ?_ _
      refine NoPanic.normal ?_
      (try dsimp only [Exit.then])
      go_wp2
      go_roundw
      case rel => exact ⟨_, k + 1, rfl, by go_num, by omega, TT.out, CI.out, C2.out⟩
      case measure => simp [intOf]; omega
    · obtain rfl : k = n1 := by omega
      have ZI := hI
      obtain ⟨_, _, -, m0, m1, m2, m3⟩ := ZI.out.open_
      have f1 : ¬ w.heap.size + 1 = w.heap.size := by omega
      have f2 : ¬ w.heap.size = w.heap.size + 1 := by omega
      have HZ := Lib.hid (below_set2 hd.out (g := w.heap.size) (Nat.le_refl _) (.bool (decide (f k < 0))) (.slice pz (Nm.dg D9 (f k).natAbs).length cz))
      have HR2 := Lib.hid (HR.out.stored ZI.out (.bool (decide (f k < 0))) (.slice pz (Nm.dg D9 (f k).natAbs).length cz))
      go_wp2
      exact bodyPost_ret (v := .agg #[.bool (decide (f k < 0)), .slice pz (Nm.dg D9 (f k).natAbs).length cz]) (by simp [results, Tryz.results40, go_sem, m0, m1]) rfl ⟨_, rfl, HR2.out, HZ.out⟩
end Go.Proofs.YtepddegphdlbeaaGreat

/- The reference's Primitive. -/
namespace Go.Proofs.YtepddegphdlbeaaGreat
open Go.RowKit

set_option maxRecDepth 100000 in
set_option maxHeartbeats 4000000 in
theorem rPrimitive_any (n : Nat) (hn : n ≤ 80000) (p : List Int) (v : Value) (w : World) (h : RP w v p) (l : p.length ≤ 1000) (s : Sz n p) (hnr : Pl.Nrm p) :
    Calls Tryz.prog 41 #[v] w (RPPost (Pl.prim p) w) := by
  have HC := Lib.hid (rContent_any n (by omega) p v w h l s)
  have HQ := Lib.hid (fun k (hk : k < p.length) u1 u2 w' (g1 : Rz w' u1 p[k]) (g2 : Rz w' u2 ((Pl.cont p : Nat) : Int)) => rquo_int p[k] ((Pl.cont p : Nat) : Int) u1 u2 w' (n + 1) (by omega) (by
      have := s k
      rw [Pl.cf_lt hk] at this
      exact Nat.lt_of_lt_of_le this (Nat.pow_le_pow_right (by decide) (Nat.le_succ _))) (by
      have := cont_take_lt s p.length
      rw [List.take_length] at this
      rw [Int.natAbs_natCast]
      exact Nat.lt_of_lt_of_le this (Nat.pow_le_pow_right (by decide) (Nat.le_succ _))) g1 g2 (by
      have := Pl.cont_pos hnr (by intro e; rw [e] at hk; exact absurd hk (Nat.not_lt_zero _))
      omega))
  obtain ⟨f, hf⟩ : ∃ f : Nat → Int, f = fun k => Pl.cf p k / ((Pl.cont p : Nat) : Int) := ⟨_, rfl⟩
  have HF := Lib.hid (fun k (hk : k < p.length) => show p[k] / ((Pl.cont p : Nat) : Int) = f k by rw [hf]; simp only; rw [Pl.cf_lt hk])
  have HT : Hid (tab f p.length = Pl.prim p) := Pl.ext_cf (by rw [tab_length, Pl.prim_length]) fun k hk => by
    rw [tab_length] at hk
    rw [cf_tab, Pl.cf_prim, hf, if_pos hk]
  rw [← HT.out]
  generalize ((Pl.cont p : Nat) : Int) = g at *
  clear hf s hn hnr HT
  obtain ⟨a1, b1, o1, c1, rfl, -, -, h4, h5⟩ := h
  have H4 := Lib.hid h4
  have H5 := Lib.hid h5
  obtain ⟨n1, hn1⟩ : ∃ n, n = p.length := ⟨_, rfl⟩
  rw [← hn1] at l HC ⊢
  have HN := Lib.hid hn1
  clear h4 h5 hn1
  unfold IntPost iV at HC
  generalize hbg : decide (g < 0) = bg at *
  have HBG := Lib.hid hbg
  clear hbg
  go_enter Tryz.func41, Tryz.ntmps41
  go_wp2_with fail
  refine HC.out.mono ?_
  rintro e y0 ⟨v0, rfl, r0, b0⟩
  obtain ⟨u0, hu0⟩ : ∃ u0 : World, u0 = y0.alloc (.cells #[.bool bg, v0] 52) := ⟨_, rfl⟩
  have T0 : Hid (ZC (.bool bg) v0 u0 y0.heap.size) := by rw [hu0]; exact ZC.new rfl
  have R0 : Hid (Rz u0 v0 g) := by rw [hu0]; exact r0.allocd _
  have D0 : Hid (Below w.heap.size w u0) := by rw [hu0]; exact b0.alloc b0.size _
  obtain ⟨p0, bb0, o0, c0, rfl, rr0⟩ := r0
  have Hu0 := Lib.hid hu0
  clear b0 rr0 hu0 HC
  generalize (Nm.dg D9 g.natAbs).length = lg at *
  go_upto_region 2 with (fail)
  rw [← Hu0.out]
  clear Hu0
  go_wp2
  go_loopw [4, 5] (fun v iv wr => ∃ (wz : World) (k : Nat), wz = wr ∧ k ≤ n1 ∧ iv = .int .i64 (k : Int) ∧ Hid (RowP wz u0.heap.size v (tab f k)) ∧ Hid (Below u0.heap.size u0 wz))
    (fun _ iv _ => n1 - (intOf iv).toNat)
  case atStart => exact ⟨u0, 0, rfl, Nat.zero_le _, rfl, RowP.nil _ _, Below.refl _ _⟩
  case round =>
    obtain ⟨wz, k, rfl, hk, rfl, hrow, hd⟩ := hrel
    have hk0 : (0 : Int) ≤ (k : Int) := by omega
    by_cases hlt : k < n1
    · have hkp : k < p.length := by have h5 : n1 = p.length := HN.out; omega
      have hkk : (k : Int) < (n1 : Int) := by omega
      obtain rfl := H4.out (by intro e; rw [e] at hkp; exact absurd hkp (Nat.not_lt_zero _))
      obtain ⟨uk, g0, g1, g2⟩ := H5.out k hkp
      have d0 := keep1 (chain D0.out hd.out) g0
      have d1 := keep1 (chain D0.out hd.out) g1
      obtain ⟨d2, d3, -, -⟩ := T0.out.next hd.out
      have HQ := Lib.hid (fun w' (hb : Below wz.heap.size wz w') => HQ.out k hkp uk (.slice p0 lg c0) w' ((g2.below (chain D0.out hd.out)).below hb) ((R0.out.below hd.out).below hb))
      rw [HF.out k hkp] at HQ
      have HS := Lib.hid (tab_snoc f k)
      have hb1 := World.block_lt_of_cell? w _ g0
      simp only at hb1
      have hy0 := T0.out.lt
      have hw0 := hd.out.size
      have hdw := D0.out.size
      have e1 : ¬ b1 = wz.heap.size := by omega
      have e2 : ¬ b1 = wz.heap.size + 1 := by omega
      have e3 : ¬ y0.heap.size = wz.heap.size := by omega
      have e4 : ¬ y0.heap.size = wz.heap.size + 1 := by omega
      have e5 : ¬ wz.heap.size = b1 := by omega
      have e6 : ¬ wz.heap.size + 1 = b1 := by omega
      have e7 : ¬ wz.heap.size = y0.heap.size := by omega
      have e8 : ¬ wz.heap.size + 1 = y0.heap.size := by omega
      generalize p[k] = x at *
      generalize f k = z at *
      generalize x % g = zr at *
      obtain ⟨pk, bk, ok, ck, rfl, -⟩ := g2
      unfold iV at HQ
      rw [HBG.out] at HQ
      unfold QIPost iV at HQ
      generalize (Nm.dg D9 x.natAbs).length = lx at *
      generalize decide (x < 0) = bx at *
      obtain ⟨bz, hbz⟩ : ∃ b, decide (z < 0) = b := ⟨_, rfl⟩
      obtain ⟨bzr, hbzr⟩ : ∃ b, decide (zr < 0) = b := ⟨_, rfl⟩
      rw [hbz, hbzr] at HQ
      have HBZ := Lib.hid hbz
      clear g0 g1 hkp hbz hbzr hb1 hw0 hdw hy0
      go_upto_region 6 with (fail)
      go_cut [6, 7] (fun sa sb wx => ∃ (ga gb : Nat) (pa pb : Option Addr) (na ca nb cb : Nat), sa = .pointer (some ⟨ga, 0, none⟩) ∧ sb = .pointer (some ⟨gb, 0, none⟩) ∧ Hid (CutI (.bool bz) (.bool bzr) (.slice pa na ca) (.slice pb nb cb) (Nm.dg D9 z.natAbs) (Nm.dg D9 zr.natAbs) wz.heap.size wz wx ga gb))
      case first =>
        rename_i J0 K0 hRJ hMK
        go_region_held3 (fun W' => W'.cell? ⟨b1, o1 + k * 2, none⟩ = some (.bool bx) ∧ W'.cell? ⟨b1, o1 + k * 2 + 1, none⟩ = some (.slice pk lx ck) ∧ W'.cell? ⟨y0.heap.size, 0, none⟩ = some (.bool bg) ∧ W'.cell? ⟨y0.heap.size, 1, none⟩ = some (.slice p0 lg c0)) (go_keep)
          (first
            | (go_at_call 98; (with_reducible refine (HQ.out _ (by first | exact Below.refl _ _ | exact (Below.refl _ _).drew | exact below_one _ _ | exact below_two _ _ _ | exact (below_one _ _).drew | exact (below_two _ _ _).drew)).mono ?_); rintro e y9 ⟨v9, x9, rfl, r9, s9, b9⟩; (try unfold iV); (try (have b9 := undrew b9)); have c9 : Below wz.heap.size wz y9 := chain (by first | exact Below.refl _ _ | exact (Below.refl _ _).drew | exact below_one _ _ | exact below_two _ _ _ | exact (below_one _ _).drew | exact (below_two _ _ _).drew) b9; have p0a := keep1 c9 d0; have p0b := keep1 c9 d1; have p0c := keep1 c9 d2; have p0d := keep1 c9 d3; have hz9 := c9.size; (try (have A0 := Lib.hid (ZC.made (g := wz.heap.size) rfl b9); obtain ⟨A0a, A0b, A0c, A0d⟩ := A0.out)); (try (have A0 := Lib.hid (ZC.made1 (g := wz.heap.size) rfl b9); have B0 := Lib.hid (ZC.made (g := wz.heap.size + 1) (by simp) b9); obtain ⟨A0a, A0b, A0c, A0d⟩ := A0.out; obtain ⟨B0a, B0b, B0c, B0d⟩ := B0.out)); (try (have L01 := Lib.hid (apart_b (g := wz.heap.size) rfl b9); obtain ⟨l01x, l01y, l01z⟩ := L01.out)); (try (have MM := Lib.hid (apart_b2 (g := wz.heap.size) rfl b9); have L01 := Lib.hid MM.out.1; have M01 := Lib.hid MM.out.2; clear MM; obtain ⟨l01x, l01y, l01z⟩ := L01.out; obtain ⟨m01x, m01y, m01z⟩ := M01.out)); have G9 := Lib.hid (And.intro r9 s9); obtain ⟨pq9, bq9, oq9, cq9, rfl, rrq9⟩ := r9; obtain ⟨ps9, bs9, os9, cs9, rfl, rrs9⟩ := s9; clear rrq9 rrs9)
            | fail)
        all_goals
          obtain ⟨r1, r2⟩ := G9.out
          refine hMK _ _ (Met.intro (hRJ _ _ ?_))
          (repeat apply Exists.intro)
          refine ⟨?_, rfl⟩
          refine ⟨_, _, pq9, ps9, (Nm.dg D9 z.natAbs).length, cq9, (Nm.dg D9 zr.natAbs).length, cs9, rfl, rfl, ?_⟩
          show CutI (.bool bz) (.bool bzr) (.slice pq9 _ cq9) (.slice ps9 _ cs9) (Nm.dg D9 z.natAbs) (Nm.dg D9 zr.natAbs) wz.heap.size wz _ _ _
          have sA0 : wz.heap.size ≤ wz.heap.size := Nat.le_refl _
          have sB0 : wz.heap.size ≤ wz.heap.size + 1 := Nat.le_succ _
          have sA2 : wz.heap.size ≤ y9.heap.size := c9.size
          have n0 : ¬ wz.heap.size = wz.heap.size + 1 := Nat.ne_of_lt (Nat.lt_succ_self _)
          have m0 : ¬ wz.heap.size + 1 = wz.heap.size := fun e => n0 e.symm
          first
            | with_reducible exact CutI.s1 r1 r2 c9 sA2
            | with_reducible exact CutI.s2 r1 r2 c9 sA2
            | with_reducible exact CutI.s3 A0.out sA0 r1 r2 c9 sA2
            | with_reducible exact CutI.s4 A0.out sA0 r1 r2 c9 sA2
            | with_reducible exact CutI.s3 B0.out sB0 r1 r2 c9 sA2
            | with_reducible exact CutI.s4 B0.out sB0 r1 r2 c9 sA2
            | with_reducible exact CutI.s5 A0.out sA0 B0.out sB0 n0 r1 r2 c9
            | with_reducible exact CutI.s5 B0.out sB0 A0.out sA0 m0 r1 r2 c9
            | fail
      obtain ⟨ga, gb, pa, pb, na, ca, nb, cb, rfl, rfl, hcut⟩ := hcut
      obtain ⟨_, T6, -, R6, -, bxx⟩ := hcut.out
      obtain ⟨k0, k1, -, -⟩ := T6
      have HX5 := Lib.hid (hrow.out.below bxx)
      have HB5 := Lib.hid (chain hd.out bxx)
      have HR5 := Lib.hid R6
      clear bxx R6 d0 d1 d2 d3 hcut e1 e2 e3 e4 e5 e6 e7 e8
      have HLk : Hid ((tab f k).length ≤ 100000) := by show _ ≤ _; rw [tab_length]; omega
      go_wp2_with (at_builtin; rw [← HBZ.out]; refine wpList_append_P rfl rfl _ _ rfl rfl rfl HX5.out HR5.out HLk.out HB5.out ?_)
      intro v' w1 hrow1 hb1 _
      have HN1 := Lib.hid hrow1
      have HB1 := Lib.hid hb1
      rw [HS.out] at HN1
      clear hrow1 hb1
      go_wp2
      go_roundw
      case rel => exact ⟨_, k + 1, rfl, by omega, by go_num, HN1.out, HB1.out⟩
      case measure => simp [intOf]; omega
    · obtain rfl : k = n1 := by omega

      have HRo := Lib.hid hrow.out.rp
      have HB6 := Lib.hid (chain D0.out hd.out)
      go_wp2
      go_ret
      exact ⟨_, rfl, HRo.out, HB6.out⟩
end Go.Proofs.YtepddegphdlbeaaGreat

/- The reference's Derive. -/
namespace Go.Proofs.YtepddegphdlbeaaGreat
open Go.RowKit

theorem derL_tab (p : List Int) : derL p = tab (fun k => Pl.cf p (k + 1) * ((k : Int) + 1)) (p.length - 1) := rfl
set_option maxRecDepth 100000 in
set_option maxHeartbeats 2000000 in
theorem rDerive_any (n : Nat) (hn : n ≤ 90000) (p : List Int) (v : Value) (w : World) (h : RP w v p) (l : p.length ≤ 1000) (s : Sz n p) :
    Calls Tryz.prog 38 #[v] w (RPPost (derL p) w) := by
  obtain ⟨f, hf⟩ : ∃ f : Nat → Int, f = fun k => Pl.cf p (k + 1) * ((k : Int) + 1) := ⟨_, rfl⟩
  have HNm := Lib.hid (fun (k : Nat) (hk : k ≤ 1000) w' => rnum_any ((k : Int) + 1) w' (by omega) (by omega))
  have HM := Lib.hid (fun (k : Nat) (hk : k ≤ 1000) u1 u2 w' (g1 : Rz w' u1 (Pl.cf p (k + 1))) (g2 : Rz w' u2 ((k : Int) + 1)) => rmul_int (Pl.cf p (k + 1)) ((k : Int) + 1) u1 u2 w' g1 g2 (Nat.le_trans (s.len (k + 1)) (by omega)) (Nat.le_trans (len9 (k := 1) (by show _ < 1000000000 ^ 1; omega)) (by omega)))
  have HF : ∀ k : Nat, Pl.cf p (k + 1) * ((k : Int) + 1) = f k := fun k => by rw [hf]
  simp only [HF] at HM
  have HT : Hid (tab f (p.length - 1) = derL p) := by show _ = _; rw [derL_tab, hf]
  rw [← HT.out]
  clear HF hf s hn HT
  obtain ⟨a1, b1, o1, c1, rfl, -, -, h4, h5⟩ := h
  have H4 := Lib.hid h4
  have H5 := Lib.hid h5
  obtain ⟨n1, hn1⟩ : ∃ n, n = p.length := ⟨_, rfl⟩
  rw [← hn1] at l ⊢
  have HN := Lib.hid hn1
  clear hn1 h4 h5
  go_enter Tryz.func38, Tryz.ntmps38
  go_wp2
  go_loopw [3, 4] (fun v iv wr => ∃ (wz : World) (k : Nat), wz = wr ∧ k ≤ n1 - 1 ∧ iv = .int .i64 ((k : Int) + 1) ∧ Hid (RowP wz w.heap.size v (tab f k)) ∧ Hid (Below w.heap.size w wz))
    (fun _ iv _ => n1 - (intOf iv).toNat)
  case atStart => exact ⟨w, 0, rfl, Nat.zero_le _, rfl, RowP.nil _ _, Below.refl _ _⟩
  case round =>
    obtain ⟨wz, k, rfl, hk, rfl, hrow, hbl⟩ := hrel
    have hk0 : (0 : Int) ≤ (k : Int) + 1 := by omega
    by_cases hlt : k + 1 < n1
    · have hkp : k + 1 < p.length := by have h5 : n1 = p.length := HN.out; omega
      have hkk : (k : Int) + 1 < (n1 : Int) := by omega
      have hk2 : k ≤ 1000 := by omega
      have hkb : (k : Int) + 1 ≤ 2000 := by omega
      obtain rfl := H4.out (by intro e; rw [e] at hkp; exact absurd hkp (Nat.not_lt_zero _))
      obtain ⟨uk, g0, g1, g2⟩ := H5.out (k + 1) hkp
      rw [← Pl.cf_lt hkp] at g0 g2
      rw [show (k + 1) * 2 = ((k : Int) + 1).toNat * 2 by omega] at g0 g1
      have HM := Lib.hid (fun u2 w' (g : Rz w' u2 ((k : Int) + 1)) (hb : Below w.heap.size w w') => HM.out k hk2 uk u2 w' (g2.below hb) g)
      have HNm := Lib.hid (HNm.out k hk2)
      have HS := Lib.hid (tab_snoc f k)
      generalize Pl.cf p (k + 1) = x at *
      generalize f k = z at *
      obtain ⟨i, hi⟩ : ∃ i : Int, i = (k : Int) + 1 := ⟨_, rfl⟩
      have HI := Lib.hid hi
      rw [← hi] at HM HNm hkk hk0 hkb g0 g1 ⊢
      have G0 := Lib.hid (And.intro g0 g1)
      have c0 := keep1 hbl.out G0.out.1
      have c1' := keep1 hbl.out G0.out.2
      obtain ⟨pk, bk, ok, ck, rfl, -⟩ := g2
      unfold iV at HM
      unfold IntPost iV at HNm
      clear g0 g1 hi hlt hkp hk2
      have hii : ((i.toNat : Nat) : Int) = i := by omega
      go_upto_region 5 with (fail)
      go_region_held3 (fun W' => W'.cell? ⟨b1, o1 + i.toNat * 2, none⟩ = some (.bool (decide (x < 0))) ∧ W'.cell? ⟨b1, o1 + i.toNat * 2 + 1, none⟩ = some (.slice pk (Nm.dg D9 x.natAbs).length ck)) (go_keep)
        (first
          | (go_at_call 74; (with_reducible refine (HNm.out _).mono ?_); rintro e w4 ⟨u4, rfl, r4, b4⟩; have d4 := chain (hbl.out.drew) b4; have p0 := keep1 d4 G0.out.1; have p1 := keep1 d4 G0.out.2; have HR4 := Lib.hid r4; have HX4 := Lib.hid (hrow.out.below (chain ((Below.refl _ _).drew) b4)); have HB4 := Lib.hid d4; clear r4 b4 d4)
          | (go_at_call 83; (with_reducible refine (HM.out _ _ HR4.out HB4.out).mono ?_); rintro e w5 ⟨u5, rfl, r5, b5⟩; unfold iV; have d5 := chain HB4.out b5; have p0 := keep1 d5 G0.out.1; have p1 := keep1 d5 G0.out.2; have HR5 := Lib.hid r5; have HX5 := Lib.hid (HX4.out.below b5); have HB5 := Lib.hid d5; clear r5 b5 d5)
          | (rw [if_pos (by rfl)]; refine wp_append_P rfl _ _ rfl rfl rfl HX5.out HR5.out (by rw [tab_length]; omega) HB5.out ?_; intro v' w1 hrow1 hb1 _; have p0 := keep1 hb1 G0.out.1; have p1 := keep1 hb1 G0.out.2; have HN1 := Lib.hid hrow1; have HB1 := Lib.hid hb1; clear hrow1 hb1)
          | fail)
      rw [HS.out] at HN1
      go_wp2
      go_roundw
      case rel => exact ⟨_, k + 1, rfl, by have := HI.out; omega, by rw [HI.out]; go_num, HN1.out, HB1.out⟩
      case measure => simp [intOf]; omega
    · obtain rfl : k = n1 - 1 := by omega
      have hkk : ¬ ((n1 - 1 : Nat) : Int) + 1 < (n1 : Int) := by omega
      have HRo := Lib.hid hrow.out.rp
      go_wp2
      go_ret
      exact ⟨_, rfl, HRo.out, hbl.out⟩
end Go.Proofs.YtepddegphdlbeaaGreat
