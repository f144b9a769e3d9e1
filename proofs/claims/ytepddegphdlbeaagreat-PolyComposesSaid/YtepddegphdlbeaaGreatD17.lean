/- What the theorem leans on, part 17: Kp, Lps, Pe11, Lsa, Rq3, Rr8, Lca. -/
import Derived.Test.YtepddegphdlbeaaGreatD16
import Derived.Test.YtepddegphdlbeaaGreatD13
import Derived.Test.YtepddegphdlbeaaGreatD12
import Derived.Test.YtepddegphdlbeaaGreatD15
import Derived.Deep.RegionHeld3

/- The law's function known gives true. -/
namespace Go.Proofs.YtepddegphdlbeaaGreat
open Go.RowKit

set_option maxRecDepth 100000 in
set_option maxHeartbeats 8000000 in
theorem known_true (w : World) : Calls Tryz.prog 12 #[] w (Ret (.bool true) w) := by
  have H_ofp1p0m2p0 : Hid (∀ y : World, Calls Tryz.prog 22 #[.slice (some ⟨y.heap.size, 0, none⟩) 4 4] (y.alloc (.cells #[.int .i64 1, .int .i64 0, .int .i64 (-2), .int .i64 0] 3)) (ResP [1, 0, -2] y)) := fun y => k_of [1, 0, -2, 0] [1, 0, -2] (by rfl) (by rfl) y
  have H_ofp0p0 : Hid (∀ y : World, Calls Tryz.prog 22 #[.slice (some ⟨y.heap.size, 0, none⟩) 2 2] (y.alloc (.cells #[.int .i64 0, .int .i64 0] 3)) (ResP [] y)) := fun y => k_of [0, 0] [] (by rfl) (by rfl) y
  have H_pp1p1 : Hid (∀ y : World, Calls Tryz.prog 65 #[.slice (some ⟨y.heap.size, 0, none⟩) 2 2] (y.alloc (.cells #[.int .i64 1, .int .i64 1] 3)) (RpPost [1, 1] y)) := fun y => k_p [1, 1] [1, 1] (by rfl) (by rfl) y
  have H_pm1p1 : Hid (∀ y : World, Calls Tryz.prog 65 #[.slice (some ⟨y.heap.size, 0, none⟩) 2 2] (y.alloc (.cells #[.int .i64 (-1), .int .i64 1] 3)) (RpPost [-1, 1] y)) := fun y => k_p [-1, 1] [-1, 1] (by rfl) (by rfl) y
  have H_pp1p2 : Hid (∀ y : World, Calls Tryz.prog 65 #[.slice (some ⟨y.heap.size, 0, none⟩) 2 2] (y.alloc (.cells #[.int .i64 1, .int .i64 2] 3)) (RpPost [1, 2] y)) := fun y => k_p [1, 2] [1, 2] (by rfl) (by rfl) y
  have H_pp3p2 : Hid (∀ y : World, Calls Tryz.prog 65 #[.slice (some ⟨y.heap.size, 0, none⟩) 2 2] (y.alloc (.cells #[.int .i64 3, .int .i64 2] 3)) (RpPost [3, 2] y)) := fun y => k_p [3, 2] [3, 2] (by rfl) (by rfl) y
  have H_pp5p4p3 : Hid (∀ y : World, Calls Tryz.prog 65 #[.slice (some ⟨y.heap.size, 0, none⟩) 3 3] (y.alloc (.cells #[.int .i64 5, .int .i64 4, .int .i64 3] 3)) (RpPost [5, 4, 3] y)) := fun y => k_p [5, 4, 3] [5, 4, 3] (by rfl) (by rfl) y
  have H_pp1p0p2 : Hid (∀ y : World, Calls Tryz.prog 65 #[.slice (some ⟨y.heap.size, 0, none⟩) 3 3] (y.alloc (.cells #[.int .i64 1, .int .i64 0, .int .i64 2] 3)) (RpPost [1, 0, 2] y)) := fun y => k_p [1, 0, 2] [1, 0, 2] (by rfl) (by rfl) y
  have H_pm2p0p1 : Hid (∀ y : World, Calls Tryz.prog 65 #[.slice (some ⟨y.heap.size, 0, none⟩) 3 3] (y.alloc (.cells #[.int .i64 (-2), .int .i64 0, .int .i64 1] 3)) (RpPost [-2, 0, 1] y)) := fun y => k_p [-2, 0, 1] [-2, 0, 1] (by rfl) (by rfl) y
  have H_pp6m4 : Hid (∀ y : World, Calls Tryz.prog 65 #[.slice (some ⟨y.heap.size, 0, none⟩) 2 2] (y.alloc (.cells #[.int .i64 6, .int .i64 (-4)] 3)) (RpPost [6, -4] y)) := fun y => k_p [6, -4] [6, -4] (by rfl) (by rfl) y
  have H_pm6m4 : Hid (∀ y : World, Calls Tryz.prog 65 #[.slice (some ⟨y.heap.size, 0, none⟩) 2 2] (y.alloc (.cells #[.int .i64 (-6), .int .i64 (-4)] 3)) (RpPost [-6, -4] y)) := fun y => k_p [-6, -4] [-6, -4] (by rfl) (by rfl) y
  have H_pp1p0p0p1 : Hid (∀ y : World, Calls Tryz.prog 65 #[.slice (some ⟨y.heap.size, 0, none⟩) 4 4] (y.alloc (.cells #[.int .i64 1, .int .i64 0, .int .i64 0, .int .i64 1] 3)) (RpPost [1, 0, 0, 1] y)) := fun y => k_p [1, 0, 0, 1] [1, 0, 0, 1] (by rfl) (by rfl) y
  have H_pm1p0p1 : Hid (∀ y : World, Calls Tryz.prog 65 #[.slice (some ⟨y.heap.size, 0, none⟩) 3 3] (y.alloc (.cells #[.int .i64 (-1), .int .i64 0, .int .i64 1] 3)) (RpPost [-1, 0, 1] y)) := fun y => k_p [-1, 0, 1] [-1, 0, 1] (by rfl) (by rfl) y
  have H_pp1p0p1 : Hid (∀ y : World, Calls Tryz.prog 65 #[.slice (some ⟨y.heap.size, 0, none⟩) 3 3] (y.alloc (.cells #[.int .i64 1, .int .i64 0, .int .i64 1] 3)) (RpPost [1, 0, 1] y)) := fun y => k_p [1, 0, 1] [1, 0, 1] (by rfl) (by rfl) y
  have H_pp2p4p2 : Hid (∀ y : World, Calls Tryz.prog 65 #[.slice (some ⟨y.heap.size, 0, none⟩) 3 3] (y.alloc (.cells #[.int .i64 2, .int .i64 4, .int .i64 2] 3)) (RpPost [2, 4, 2] y)) := fun y => k_p [2, 4, 2] [2, 4, 2] (by rfl) (by rfl) y
  have H_pp2 : Hid (∀ y : World, Calls Tryz.prog 65 #[.slice (some ⟨y.heap.size, 0, none⟩) 1 1] (y.alloc (.cells #[.int .i64 2] 3)) (RpPost [2] y)) := fun y => k_p [2] [2] (by rfl) (by rfl) y
  have H_pp4 : Hid (∀ y : World, Calls Tryz.prog 65 #[.slice (some ⟨y.heap.size, 0, none⟩) 1 1] (y.alloc (.cells #[.int .i64 4] 3)) (RpPost [4] y)) := fun y => k_p [4] [4] (by rfl) (by rfl) y
  have H_isp1p0m2 : Hid (∀ (y : World) (v : Value), Rp y v [1, 0, -2] → Calls Tryz.prog 64 #[v, .int .i64 0, .slice (some ⟨y.heap.size, 0, none⟩) 3 3] (y.alloc (.cells #[.int .i64 1, .int .i64 0, .int .i64 (-2)] 3)) (BPost true y)) := fun y v h => k_is [1, 0, -2] [1, 0, -2] (by rfl) (by rfl) y v h
  have H_ism1p0p1 : Hid (∀ (y : World) (v : Value), Rp y v [-1, 0, 1] → Calls Tryz.prog 64 #[v, .int .i64 0, .slice (some ⟨y.heap.size, 0, none⟩) 3 3] (y.alloc (.cells #[.int .i64 (-1), .int .i64 0, .int .i64 1] 3)) (BPost true y)) := fun y v h => k_is [-1, 0, 1] [-1, 0, 1] (by rfl) (by rfl) y v h
  have H_ism2 : Hid (∀ (y : World) (v : Value), Rp y v [-2] → Calls Tryz.prog 64 #[v, .int .i64 0, .slice (some ⟨y.heap.size, 0, none⟩) 1 1] (y.alloc (.cells #[.int .i64 (-2)] 3)) (BPost true y)) := fun y v h => k_is [-2] [-2] (by rfl) (by rfl) y v h
  have H_isp4p6 : Hid (∀ (y : World) (v : Value), Rp y v [4, 6] → Calls Tryz.prog 64 #[v, .int .i64 0, .slice (some ⟨y.heap.size, 0, none⟩) 2 2] (y.alloc (.cells #[.int .i64 4, .int .i64 6] 3)) (BPost true y)) := fun y v h => k_is [4, 6] [4, 6] (by rfl) (by rfl) y v h
  have H_isp11p4p2 : Hid (∀ (y : World) (v : Value), Rp y v [11, 4, 2] → Calls Tryz.prog 64 #[v, .int .i64 0, .slice (some ⟨y.heap.size, 0, none⟩) 3 3] (y.alloc (.cells #[.int .i64 11, .int .i64 4, .int .i64 2] 3)) (BPost true y)) := fun y v h => k_is [11, 4, 2] [11, 4, 2] (by rfl) (by rfl) y v h
  have H_ism3m2 : Hid (∀ (y : World) (v : Value), Rp y v [-3, -2] → Calls Tryz.prog 64 #[v, .int .i64 0, .slice (some ⟨y.heap.size, 0, none⟩) 2 2] (y.alloc (.cells #[.int .i64 (-3), .int .i64 (-2)] 3)) (BPost true y)) := fun y v h => k_is [-3, -2] [-3, -2] (by rfl) (by rfl) y v h
  have H_isp7 : Hid (∀ (y : World) (v : Value), Rp y v [7] → Calls Tryz.prog 64 #[v, .int .i64 0, .slice (some ⟨y.heap.size, 0, none⟩) 1 1] (y.alloc (.cells #[.int .i64 7] 3)) (BPost true y)) := fun y v h => k_is [7] [7] (by rfl) (by rfl) y v h
  have H_ism1p1 : Hid (∀ (y : World) (v : Value), Rp y v [-1, 1] → Calls Tryz.prog 64 #[v, .int .i64 0, .slice (some ⟨y.heap.size, 0, none⟩) 2 2] (y.alloc (.cells #[.int .i64 (-1), .int .i64 1] 3)) (BPost true y)) := fun y v h => k_is [-1, 1] [-1, 1] (by rfl) (by rfl) y v h
  have H_isp1p1 : Hid (∀ (y : World) (v : Value), Rp y v [1, 1] → Calls Tryz.prog 64 #[v, .int .i64 0, .slice (some ⟨y.heap.size, 0, none⟩) 2 2] (y.alloc (.cells #[.int .i64 1, .int .i64 1] 3)) (BPost true y)) := fun y v h => k_is [1, 1] [1, 1] (by rfl) (by rfl) y v h
  have H_isp1 : Hid (∀ (y : World) (v : Value), Rp y v [1] → Calls Tryz.prog 64 #[v, .int .i64 0, .slice (some ⟨y.heap.size, 0, none⟩) 1 1] (y.alloc (.cells #[.int .i64 1] 3)) (BPost true y)) := fun y v h => k_is [1] [1] (by rfl) (by rfl) y v h
  have H_deg1 := Lib.hid (fun y v h => k_deg [1, 0, -2] (vp2 _) y v h 2 (by rfl))
  have H_deg2 := Lib.hid (fun y v h => k_deg [] (vp2 _) y v h (-1) (by rfl))
  have H_bits := Lib.hid (fun y v h => k_bits [1, 0, -2] (vp2 _) y v h 2 (by rfl))
  have H_mul := Lib.hid k_mul
  have H_sub := Lib.hid k_sub
  have H_der := Lib.hid k_der
  have H_eval := Lib.hid k_eval
  have H_value := Lib.hid k_value
  have H_signat := Lib.hid k_signat
  have H_comp := Lib.hid k_comp
  have H_cont := Lib.hid k_cont
  have H_prim := Lib.hid k_prim
  have H_rest := Lib.hid k_rest
  have H_div1 := Lib.hid k_div1
  have H_div2 := Lib.hid k_div2
  have H_gcd1 := Lib.hid kp_gcd1
  have H_gcd2 := Lib.hid kp_gcd2
  have H_gcd3 := Lib.hid kp_gcd3
  have H_w1 := Lib.hid (fun w => w2_any 1 w (by decide) (by decide))
  have H_w3 := Lib.hid (fun w => w2_any 3 w (by decide) (by decide))
  have H_w11 := Lib.hid (fun w => w2_any 11 w (by decide) (by decide))
  have H_w2 := Lib.hid (fun w => w2_any 2 w (by decide) (by decide))
  have H_q1_3 := Lib.hid (fun w => q2_any 1 3 w (by decide) (by decide) (by decide) (by decide))
  have H_q7_5 := Lib.hid (fun w => q2_any 7 5 w (by decide) (by decide) (by decide) (by decide))
  have H_q11_9 := Lib.hid (fun w => q2_any 11 9 w (by decide) (by decide) (by decide) (by decide))
  unfold ResP ResE Ret RpPost BPost ZPost QZPost Z R at *
  unfold rat at *
  generalize zb 1 = b1 at *
  generalize zs 1 = s1 at *
  generalize zb 3 = b3 at *
  generalize zs 3 = s3 at *
  generalize zb 7 = b7 at *
  generalize zs 7 = s7 at *
  generalize zb 5 = b5 at *
  generalize zs 5 = s5 at *
  generalize zb 11 = b11 at *
  generalize zs 11 = s11 at *
  generalize zb 9 = b9 at *
  generalize zs 9 = s9 at *
  generalize zb 2 = b2 at *
  generalize zs 2 = s2 at *
  go_enter Tryz.func12, Tryz.ntmps12
  have TOT : Hid (Below w.heap.size w w) := Below.refl _ _
  go_wp2_with fail
  refine (H_ofp1p0m2p0.out _).mono ?_
  rintro e x1 ⟨v1, rfl, r1, b1⟩
  have E := Lib.hid b1
  have Ra := Lib.hid r1
  clear r1
  clear b1
  have TOT := Lib.hid (chain TOT.out E.out)
  clear E
  go_wp2_with fail
  refine (H_deg1.out _ _ Ra.out).mono ?_
  rintro e x2 ⟨rfl, b2⟩
  have E := Lib.hid b2
  clear b2
  have TOT := Lib.hid (chain TOT.out E.out)
  have Ra := Lib.hid (Ra.out.below E.out)
  clear E
  go_wp2_with fail
  refine (H_bits.out _ _ Ra.out).mono ?_
  rintro e x3 ⟨rfl, b3⟩
  have E := Lib.hid b3
  clear b3
  have TOT := Lib.hid (chain TOT.out E.out)
  have Ra := Lib.hid (Ra.out.below E.out)
  clear E
  go_wp2_with fail
  refine (H_ofp0p0.out _).mono ?_
  rintro e x4 ⟨v4, rfl, r4, b4⟩
  have E := Lib.hid b4
  have Rz := Lib.hid r4
  clear r4
  clear b4
  have TOT := Lib.hid (chain TOT.out E.out)
  have Ra := Lib.hid (Ra.out.below E.out)
  clear E
  go_wp2_with fail
  refine (H_deg2.out _ _ Rz.out).mono ?_
  rintro e x5 ⟨rfl, b5⟩
  have E := Lib.hid b5
  clear b5
  have TOT := Lib.hid (chain TOT.out E.out)
  have Ra := Lib.hid (Ra.out.below E.out)
  have Rz := Lib.hid (Rz.out.below E.out)
  clear E
  obtain ⟨z1, z2, z3, z4, hz, -, -, -, -⟩ := Rp.open_ Rz.out
  subst hz
  simp only [List.length_nil] at Rz ⊢
  go_wp2_with fail
  refine (H_isp1p0m2.out _ _ Ra.out).mono ?_
  rintro e x6 ⟨rfl, b6⟩
  have E := Lib.hid b6
  clear b6
  have TOT := Lib.hid (chain TOT.out E.out)
  have Ra := Lib.hid (Ra.out.below E.out)
  have Rz := Lib.hid (Rz.out.below E.out)
  clear E
  clear Ra
  clear Rz
  go_wp2_with fail
  refine (H_pp1p1.out _).mono ?_
  rintro e x7 ⟨v7, rfl, r7, b7⟩
  have E := Lib.hid b7
  have Rl1 := Lib.hid r7
  clear r7
  clear b7
  go_wp2_with fail
  refine (H_pm1p1.out _).mono ?_
  rintro e x8 ⟨v8, rfl, r8, b8⟩
  have Rl1 := Lib.hid (Rl1.out.below b8)
  have E := Lib.hid (chain E.out b8)
  have Rl2 := Lib.hid r8
  clear r8
  clear b8
  go_wp2_with fail
  refine (H_mul.out _ _ _ Rl1.out Rl2.out).mono ?_
  rintro e x9 ⟨v9, rfl, r9, b9⟩
  have Rl1 := Lib.hid (Rl1.out.below b9)
  have Rl2 := Lib.hid (Rl2.out.below b9)
  have E := Lib.hid (chain E.out b9)
  have Rm := Lib.hid r9
  clear r9
  clear b9
  have TOT := Lib.hid (chain TOT.out E.out)
  clear Rl1
  clear Rl2
  clear E
  go_wp2_with fail
  refine (H_pp1p2.out _).mono ?_
  rintro e x10 ⟨v10, rfl, r10, b10⟩
  have E := Lib.hid b10
  have Rl1 := Lib.hid r10
  clear r10
  clear b10
  go_wp2_with fail
  refine (H_pp3p2.out _).mono ?_
  rintro e x11 ⟨v11, rfl, r11, b11⟩
  have Rl1 := Lib.hid (Rl1.out.below b11)
  have E := Lib.hid (chain E.out b11)
  have Rl2 := Lib.hid r11
  clear r11
  clear b11
  go_wp2_with fail
  refine (H_sub.out _ _ _ Rl1.out Rl2.out).mono ?_
  rintro e x12 ⟨v12, rfl, r12, b12⟩
  have Rl1 := Lib.hid (Rl1.out.below b12)
  have Rl2 := Lib.hid (Rl2.out.below b12)
  have E := Lib.hid (chain E.out b12)
  have Rs := Lib.hid r12
  clear r12
  clear b12
  have TOT := Lib.hid (chain TOT.out E.out)
  have Rm := Lib.hid (Rm.out.below E.out)
  clear Rl1
  clear Rl2
  clear E
  go_wp2_with fail
  refine (H_pp5p4p3.out _).mono ?_
  rintro e x13 ⟨v13, rfl, r13, b13⟩
  have E := Lib.hid b13
  have Rl1 := Lib.hid r13
  clear r13
  clear b13
  go_wp2_with fail
  refine (H_der.out _ _ Rl1.out).mono ?_
  rintro e x14 ⟨v14, rfl, r14, b14⟩
  have Rl1 := Lib.hid (Rl1.out.below b14)
  have E := Lib.hid (chain E.out b14)
  have Rt := Lib.hid r14
  clear r14
  clear b14
  have TOT := Lib.hid (chain TOT.out E.out)
  have Rm := Lib.hid (Rm.out.below E.out)
  have Rs := Lib.hid (Rs.out.below E.out)
  clear Rl1
  clear E
  go_wp2_with fail
  refine (H_ism1p0p1.out _ _ Rm.out).mono ?_
  rintro e x15 ⟨rfl, b15⟩
  have E := Lib.hid b15
  clear b15
  go_wp2_with fail
  refine (H_ism2.out _ _ (Rs.out.below E.out)).mono ?_
  rintro e x16 ⟨rfl, b16⟩
  have E := Lib.hid (chain E.out b16)
  clear b16
  go_wp2_with fail
  refine (H_isp4p6.out _ _ (Rt.out.below E.out)).mono ?_
  rintro e x17 ⟨rfl, b17⟩
  have E := Lib.hid (chain E.out b17)
  clear b17
  have TOT := Lib.hid (chain TOT.out E.out)
  have Rm := Lib.hid (Rm.out.below E.out)
  have Rs := Lib.hid (Rs.out.below E.out)
  have Rt := Lib.hid (Rt.out.below E.out)
  clear E
  clear Rm
  clear Rs
  clear Rt
  go_wp2_with fail
  refine (H_pp1p0p2.out _).mono ?_
  rintro e x18 ⟨v18, rfl, r18, b18⟩
  have E := Lib.hid b18
  have Rl1 := Lib.hid r18
  clear r18
  clear b18
  go_wp2_with fail
  refine (H_q1_3.out _).mono ?_
  rintro e x19 ⟨rfl, b19⟩
  have Rl1 := Lib.hid (Rl1.out.below b19)
  have E := Lib.hid (chain E.out b19)
  clear b19
  go_wp2_with fail
  refine (H_eval.out _ _ Rl1.out).mono ?_
  rintro e x20 ⟨rfl, b20⟩
  have Rl1 := Lib.hid (Rl1.out.below b20)
  have E := Lib.hid (chain E.out b20)
  clear b20
  obtain ⟨u14, hu14⟩ : ∃ u : World, u = x20.alloc (.cells #[.bool b11, .string s11] 44) := ⟨_, rfl⟩
  have N14 : Hid (ZC (.bool b11) (.string s11) u14 x20.heap.size) := by rw [hu14]; exact ZC.new rfl
  have B9 : Hid (Below x20.heap.size x20 u14) := by rw [hu14]; exact below_one _ _
  have E := Lib.hid (chain E.out B9.out)
  clear B9
  have TOT := Lib.hid (chain TOT.out E.out)
  clear Rl1
  clear E
  have T14 := N14
  clear N14
  go_upto_region 14 with (fail)
  rw [← hu14]
  clear hu14
  go_wp2_with fail
  refine (H_pp1p0p2.out _).mono ?_
  rintro e x21 ⟨v21, rfl, r21, b21⟩
  have E := Lib.hid b21
  have Rl1 := Lib.hid r21
  clear r21
  clear b21
  go_wp2_with fail
  refine (H_q1_3.out _).mono ?_
  rintro e x22 ⟨rfl, b22⟩
  have Rl1 := Lib.hid (Rl1.out.below b22)
  have E := Lib.hid (chain E.out b22)
  clear b22
  go_wp2_with fail
  refine (H_value.out _ _ Rl1.out).mono ?_
  rintro e x23 ⟨rfl, b23⟩
  have Rl1 := Lib.hid (Rl1.out.below b23)
  have E := Lib.hid (chain E.out b23)
  clear b23
  obtain ⟨u15, hu15⟩ : ∃ u : World, u = x23.alloc (.cells #[.bool b11, .string s11, .bool b9, .string s9] 59) := ⟨_, rfl⟩
  have N15 : Hid (ZC4 (.bool b11) (.string s11) (.bool b9) (.string s9) u15 x23.heap.size) := by rw [hu15]; exact ZC4.made0 x23
  have B9 : Hid (Below x23.heap.size x23 u15) := by rw [hu15]; exact below_one _ _
  have E := Lib.hid (chain E.out B9.out)
  clear B9
  have TOT := Lib.hid (chain TOT.out E.out)
  have T14 := Lib.hid (T14.out.next E.out)
  clear Rl1
  clear E
  have T15 := N15
  clear N15
  go_upto_region 15 with (fail)
  rw [← hu15]
  clear hu15
  go_wp2_with fail
  refine (H_pm2p0p1.out _).mono ?_
  rintro e x24 ⟨v24, rfl, r24, b24⟩
  have E := Lib.hid b24
  have Rl1 := Lib.hid r24
  clear r24
  clear b24
  go_wp2_with fail
  refine (H_q7_5.out _).mono ?_
  rintro e x25 ⟨rfl, b25⟩
  have Rl1 := Lib.hid (Rl1.out.below b25)
  have E := Lib.hid (chain E.out b25)
  clear b25
  go_wp2_with fail
  refine (H_signat.out _ _ Rl1.out).mono ?_
  rintro e x26 ⟨rfl, b26⟩
  have Rl1 := Lib.hid (Rl1.out.below b26)
  have E := Lib.hid (chain E.out b26)
  clear b26
  have TOT := Lib.hid (chain TOT.out E.out)
  have T14 := Lib.hid (T14.out.next E.out)
  have T15 := Lib.hid (T15.out.next E.out)
  clear Rl1
  clear E
  go_wp2_with fail
  refine (H_pp1p0p2.out _).mono ?_
  rintro e x27 ⟨v27, rfl, r27, b27⟩
  have E := Lib.hid b27
  have Rl1 := Lib.hid r27
  clear r27
  clear b27
  go_wp2_with fail
  refine (H_w1.out _).mono ?_
  rintro e x28 ⟨rfl, b28⟩
  have Rl1 := Lib.hid (Rl1.out.below b28)
  have E := Lib.hid (chain E.out b28)
  clear b28
  go_wp2_with fail
  refine (H_w1.out _).mono ?_
  rintro e x29 ⟨rfl, b29⟩
  have Rl1 := Lib.hid (Rl1.out.below b29)
  have E := Lib.hid (chain E.out b29)
  clear b29
  go_wp2_with fail
  refine (H_w3.out _).mono ?_
  rintro e x30 ⟨rfl, b30⟩
  have Rl1 := Lib.hid (Rl1.out.below b30)
  have E := Lib.hid (chain E.out b30)
  clear b30
  go_wp2_with fail
  refine (H_comp.out _ _ Rl1.out).mono ?_
  rintro e x31 ⟨v31, rfl, r31, b31⟩
  have Rl1 := Lib.hid (Rl1.out.below b31)
  have E := Lib.hid (chain E.out b31)
  have Ro := Lib.hid r31
  clear r31
  clear b31
  have TOT := Lib.hid (chain TOT.out E.out)
  have T14 := Lib.hid (T14.out.next E.out)
  have T15 := Lib.hid (T15.out.next E.out)
  clear Rl1
  clear E
  go_wp2_with fail
  obtain ⟨k0, k1, _⟩ := T14.out
  obtain ⟨⟨k2, k3, k4, k5⟩, _⟩ := T15.out
  go_region_held3 (fun W' => W'.cell? ⟨x20.heap.size, 0, none⟩ = some (.bool b11) ∧ W'.cell? ⟨x20.heap.size, 1, none⟩ = some (.string s11) ∧ W'.cell? ⟨x23.heap.size, 0, none⟩ = some (.bool b11) ∧ W'.cell? ⟨x23.heap.size, 1, none⟩ = some (.string s11) ∧ W'.cell? ⟨x23.heap.size, 2, none⟩ = some (.bool b9) ∧ W'.cell? ⟨x23.heap.size, 3, none⟩ = some (.string s9)) (go_keep)
    (first
      | (go_at_call 63; (with_reducible refine (H_w11.out _).mono ?_); rintro e y ⟨rfl, b9⟩; have D := Lib.hid (show Below x31.heap.size x31 y by first | exact chain D.out b9 | exact chain ((Below.refl _ _).drew) b9); have p0 := keep1 D.out k0; have p1 := keep1 D.out k1; have p2 := keep1 D.out k2; have p3 := keep1 D.out k3; have p4 := keep1 D.out k4; have p5 := keep1 D.out k5; clear b9)
      | (go_at_call 66; (with_reducible refine (H_q11_9.out _).mono ?_); rintro e y ⟨rfl, b9⟩; have D := Lib.hid (show Below x31.heap.size x31 y by first | exact chain D.out b9 | exact chain ((Below.refl _ _).drew) b9); have p0 := keep1 D.out k0; have p1 := keep1 D.out k1; have p2 := keep1 D.out k2; have p3 := keep1 D.out k3; have p4 := keep1 D.out k4; have p5 := keep1 D.out k5; clear b9)
      | (go_at_call 64; (with_reducible refine (H_isp11p4p2.out _ _ (Ro.out.below ?hb2x31)).mono ?_); (first | exact D.out | exact (Below.refl _ _).drew); rintro e y ⟨rfl, b9⟩; have D := Lib.hid (show Below x31.heap.size x31 y by first | exact chain D.out b9 | exact chain ((Below.refl _ _).drew) b9); have p0 := keep1 D.out k0; have p1 := keep1 D.out k1; have p2 := keep1 D.out k2; have p3 := keep1 D.out k3; have p4 := keep1 D.out k4; have p5 := keep1 D.out k5; clear b9)
      | fail)
  have E := D
  clear D k0 k1 k2 k3 k4 k5 p0 p1 p2 p3 p4 p5
  clear T14
  clear T15
  have TOT := Lib.hid (chain TOT.out E.out)
  have Ro := Lib.hid (Ro.out.below E.out)
  clear E
  clear Ro
  go_wp2_with fail
  refine (H_pp6m4.out _).mono ?_
  rintro e x32 ⟨v32, rfl, r32, b32⟩
  have E := Lib.hid b32
  have Rl1 := Lib.hid r32
  clear r32
  clear b32
  go_wp2_with fail
  refine (H_cont.out _ _ Rl1.out).mono ?_
  rintro e x33 ⟨rfl, b33⟩
  have Rl1 := Lib.hid (Rl1.out.below b33)
  have E := Lib.hid (chain E.out b33)
  clear b33
  obtain ⟨u18, hu18⟩ : ∃ u : World, u = x33.alloc (.cells #[.bool b2, .string s2] 44) := ⟨_, rfl⟩
  have N18 : Hid (ZC (.bool b2) (.string s2) u18 x33.heap.size) := by rw [hu18]; exact ZC.new rfl
  have B9 : Hid (Below x33.heap.size x33 u18) := by rw [hu18]; exact below_one _ _
  have E := Lib.hid (chain E.out B9.out)
  clear B9
  have TOT := Lib.hid (chain TOT.out E.out)
  clear Rl1
  clear E
  have T18 := N18
  clear N18
  go_upto_region 20 with (fail)
  rw [← hu18]
  clear hu18
  go_wp2_with fail
  refine (H_pm6m4.out _).mono ?_
  rintro e x34 ⟨v34, rfl, r34, b34⟩
  have E := Lib.hid b34
  have Rl1 := Lib.hid r34
  clear r34
  clear b34
  go_wp2_with fail
  refine (H_prim.out _ _ Rl1.out).mono ?_
  rintro e x35 ⟨v35, rfl, r35, b35⟩
  have Rl1 := Lib.hid (Rl1.out.below b35)
  have E := Lib.hid (chain E.out b35)
  have Ry1 := Lib.hid r35
  clear r35
  clear b35
  have TOT := Lib.hid (chain TOT.out E.out)
  have T18 := Lib.hid (T18.out.next E.out)
  clear Rl1
  clear E
  go_wp2_with fail
  refine (H_pp1p0p0p1.out _).mono ?_
  rintro e x36 ⟨v36, rfl, r36, b36⟩
  have E := Lib.hid b36
  have Rl1 := Lib.hid r36
  clear r36
  clear b36
  go_wp2_with fail
  refine (H_pp1p2.out _).mono ?_
  rintro e x37 ⟨v37, rfl, r37, b37⟩
  have Rl1 := Lib.hid (Rl1.out.below b37)
  have E := Lib.hid (chain E.out b37)
  have Rl2 := Lib.hid r37
  clear r37
  clear b37
  go_wp2_with fail
  refine (H_rest.out _ _ _ Rl1.out Rl2.out).mono ?_
  rintro e x38 ⟨v38, rfl, r38, b38⟩
  have Rl1 := Lib.hid (Rl1.out.below b38)
  have Rl2 := Lib.hid (Rl2.out.below b38)
  have E := Lib.hid (chain E.out b38)
  have Ru1 := Lib.hid r38
  clear r38
  clear b38
  have TOT := Lib.hid (chain TOT.out E.out)
  have Ry1 := Lib.hid (Ry1.out.below E.out)
  have T18 := Lib.hid (T18.out.next E.out)
  clear Rl1
  clear Rl2
  clear E
  go_wp2_with fail
  refine (H_pm1p0p1.out _).mono ?_
  rintro e x39 ⟨v39, rfl, r39, b39⟩
  have E := Lib.hid b39
  have Rl1 := Lib.hid r39
  clear r39
  clear b39
  go_wp2_with fail
  refine (H_pp1p1.out _).mono ?_
  rintro e x40 ⟨v40, rfl, r40, b40⟩
  have Rl1 := Lib.hid (Rl1.out.below b40)
  have E := Lib.hid (chain E.out b40)
  have Rl2 := Lib.hid r40
  clear r40
  clear b40
  go_wp2_with fail
  refine (H_div1.out _ _ _ Rl1.out Rl2.out).mono ?_
  rintro e x41 ⟨v41, rfl, r41, b41⟩
  have Rl1 := Lib.hid (Rl1.out.below b41)
  have Rl2 := Lib.hid (Rl2.out.below b41)
  have E := Lib.hid (chain E.out b41)
  have Rk1 := Lib.hid r41
  clear r41
  clear b41
  have TOT := Lib.hid (chain TOT.out E.out)
  have Ry1 := Lib.hid (Ry1.out.below E.out)
  have Ru1 := Lib.hid (Ru1.out.below E.out)
  have T18 := Lib.hid (T18.out.next E.out)
  clear Rl1
  clear Rl2
  clear E
  go_wp2_with fail
  refine (H_pp1p0p1.out _).mono ?_
  rintro e x42 ⟨v42, rfl, r42, b42⟩
  have E := Lib.hid b42
  have Rl1 := Lib.hid r42
  clear r42
  clear b42
  go_wp2_with fail
  refine (H_pp1p1.out _).mono ?_
  rintro e x43 ⟨v43, rfl, r43, b43⟩
  have Rl1 := Lib.hid (Rl1.out.below b43)
  have E := Lib.hid (chain E.out b43)
  have Rl2 := Lib.hid r43
  clear r43
  clear b43
  go_wp2_with fail
  refine (H_div2.out _ _ _ Rl1.out Rl2.out).mono ?_
  rintro e x44 ⟨rfl, b44⟩
  have Rl1 := Lib.hid (Rl1.out.below b44)
  have Rl2 := Lib.hid (Rl2.out.below b44)
  have E := Lib.hid (chain E.out b44)
  clear b44
  have TOT := Lib.hid (chain TOT.out E.out)
  have Ry1 := Lib.hid (Ry1.out.below E.out)
  have Ru1 := Lib.hid (Ru1.out.below E.out)
  have Rk1 := Lib.hid (Rk1.out.below E.out)
  have T18 := Lib.hid (T18.out.next E.out)
  clear Rl1
  clear Rl2
  clear E
  go_wp2_with fail
  obtain ⟨k0, k1, _⟩ := T18.out
  go_region_held3 (fun W' => W'.cell? ⟨x33.heap.size, 0, none⟩ = some (.bool b2) ∧ W'.cell? ⟨x33.heap.size, 1, none⟩ = some (.string s2)) (go_keep)
    (first
      | (go_at_call 63; (with_reducible refine (H_w2.out _).mono ?_); rintro e y ⟨rfl, b9⟩; have D := Lib.hid (show Below x44.heap.size x44 y by first | exact chain D.out b9 | exact chain ((Below.refl _ _).drew) b9); have p0 := keep1 D.out k0; have p1 := keep1 D.out k1; clear b9)
      | (go_at_call 64; (with_reducible refine (H_ism3m2.out _ _ (Ry1.out.below ?hb1x44)).mono ?_); (first | exact D.out | exact (Below.refl _ _).drew); rintro e y ⟨rfl, b9⟩; have D := Lib.hid (show Below x44.heap.size x44 y by first | exact chain D.out b9 | exact chain ((Below.refl _ _).drew) b9); have p0 := keep1 D.out k0; have p1 := keep1 D.out k1; clear b9)
      | (go_at_call 64; (with_reducible refine (H_isp7.out _ _ (Ru1.out.below ?hb2x44)).mono ?_); (first | exact D.out | exact (Below.refl _ _).drew); rintro e y ⟨rfl, b9⟩; have D := Lib.hid (show Below x44.heap.size x44 y by first | exact chain D.out b9 | exact chain ((Below.refl _ _).drew) b9); have p0 := keep1 D.out k0; have p1 := keep1 D.out k1; clear b9)
      | (go_at_call 64; (with_reducible refine (H_ism1p1.out _ _ (Rk1.out.below ?hb3x44)).mono ?_); (first | exact D.out | exact (Below.refl _ _).drew); rintro e y ⟨rfl, b9⟩; have D := Lib.hid (show Below x44.heap.size x44 y by first | exact chain D.out b9 | exact chain ((Below.refl _ _).drew) b9); have p0 := keep1 D.out k0; have p1 := keep1 D.out k1; clear b9)
      | fail)
  have E := D
  clear D k0 k1 p0 p1
  clear T18
  have TOT := Lib.hid (chain TOT.out E.out)
  have Ry1 := Lib.hid (Ry1.out.below E.out)
  have Ru1 := Lib.hid (Ru1.out.below E.out)
  have Rk1 := Lib.hid (Rk1.out.below E.out)
  clear E
  clear Ry1
  clear Ru1
  clear Rk1
  go_wp2_with fail
  refine (H_pm1p0p1.out _).mono ?_
  rintro e x45 ⟨v45, rfl, r45, b45⟩
  have E := Lib.hid b45
  have Rl1 := Lib.hid r45
  clear r45
  clear b45
  go_wp2_with fail
  refine (H_pp2p4p2.out _).mono ?_
  rintro e x46 ⟨v46, rfl, r46, b46⟩
  have Rl1 := Lib.hid (Rl1.out.below b46)
  have E := Lib.hid (chain E.out b46)
  have Rl2 := Lib.hid r46
  clear r46
  clear b46
  go_wp2_with fail
  refine (H_gcd1.out _ _ _ Rl1.out Rl2.out).mono ?_
  rintro e x47 ⟨v47, rfl, r47, b47⟩
  have Rl1 := Lib.hid (Rl1.out.below b47)
  have Rl2 := Lib.hid (Rl2.out.below b47)
  have E := Lib.hid (chain E.out b47)
  have Rj1 := Lib.hid r47
  clear r47
  clear b47
  have TOT := Lib.hid (chain TOT.out E.out)
  clear Rl1
  clear Rl2
  clear E
  go_wp2_with fail
  refine (H_pp1p1.out _).mono ?_
  rintro e x48 ⟨v48, rfl, r48, b48⟩
  have E := Lib.hid b48
  have Rl1 := Lib.hid r48
  clear r48
  clear b48
  go_wp2_with fail
  refine (H_gcd2.out _ _ Rl1.out).mono ?_
  rintro e x49 ⟨v49, rfl, r49, b49⟩
  have Rl1 := Lib.hid (Rl1.out.below b49)
  have E := Lib.hid (chain E.out b49)
  have Rl3 := Lib.hid r49
  clear r49
  clear b49
  have TOT := Lib.hid (chain TOT.out E.out)
  have Rj1 := Lib.hid (Rj1.out.below E.out)
  clear Rl1
  clear E
  go_wp2_with fail
  refine (H_pp2.out _).mono ?_
  rintro e x50 ⟨v50, rfl, r50, b50⟩
  have E := Lib.hid b50
  have Rl1 := Lib.hid r50
  clear r50
  clear b50
  go_wp2_with fail
  refine (H_pp4.out _).mono ?_
  rintro e x51 ⟨v51, rfl, r51, b51⟩
  have Rl1 := Lib.hid (Rl1.out.below b51)
  have E := Lib.hid (chain E.out b51)
  have Rl2 := Lib.hid r51
  clear r51
  clear b51
  go_wp2_with fail
  refine (H_gcd3.out _ _ _ Rl1.out Rl2.out).mono ?_
  rintro e x52 ⟨v52, rfl, r52, b52⟩
  have Rl1 := Lib.hid (Rl1.out.below b52)
  have Rl2 := Lib.hid (Rl2.out.below b52)
  have E := Lib.hid (chain E.out b52)
  have Rone := Lib.hid r52
  clear r52
  clear b52
  have TOT := Lib.hid (chain TOT.out E.out)
  have Rj1 := Lib.hid (Rj1.out.below E.out)
  have Rl3 := Lib.hid (Rl3.out.below E.out)
  clear Rl1
  clear Rl2
  clear E
  go_wp2_with fail
  refine (H_isp1p1.out _ _ Rj1.out).mono ?_
  rintro e x53 ⟨rfl, b53⟩
  have E := Lib.hid b53
  clear b53
  go_wp2_with fail
  refine (H_isp1p1.out _ _ (Rl3.out.below E.out)).mono ?_
  rintro e x54 ⟨rfl, b54⟩
  have E := Lib.hid (chain E.out b54)
  clear b54
  go_wp2_with fail
  refine (H_isp1.out _ _ (Rone.out.below E.out)).mono ?_
  rintro e x55 ⟨rfl, b55⟩
  have E := Lib.hid (chain E.out b55)
  clear b55
  have TOT := Lib.hid (chain TOT.out E.out)
  have Rj1 := Lib.hid (Rj1.out.below E.out)
  have Rl3 := Lib.hid (Rl3.out.below E.out)
  have Rone := Lib.hid (Rone.out.below E.out)
  clear E
  go_wp2
  go_ret
  exact ⟨rfl, TOT.out⟩
end Go.Proofs.YtepddegphdlbeaaGreat

/- PolySums: the walk. -/
namespace Go.Proofs.YtepddegphdlbeaaGreat
open Go.RowKit

end Go.Proofs.YtepddegphdlbeaaGreat

/- The function poly.Scale. -/
namespace Go.Proofs.YtepddegphdlbeaaGreat
open Go.RowKit

end Go.Proofs.YtepddegphdlbeaaGreat

/- PolyScales: the walks that fail early. -/
namespace Go.Proofs.YtepddegphdlbeaaGreat
open Go.RowKit

theorem k_short1 {L : List (Bool × ByteArray)} {v : Value} {w : World} (h : Rw w v L) (z : Lim L) (r : Bool) (hr : shP L = r) :
    Calls Tryz.prog 11 #[.slice (some ⟨w.heap.size, 0, none⟩) 1 1] (w.alloc (.cells #[v] 23)) (BPost r w) := by
  have h := lshort_any [L] _ _ (rl_one w h) (by intro L' hL; simp at hL; subst hL; exact z) (by simp)
  have e : [L].all shP = r := by rw [← hr]; simp
  rw [e] at h
  exact h.mono fun e w' ⟨h1, h2⟩ => ⟨h1, chain (below_one _ _) h2⟩
theorem k_valid1 {L : List (Bool × ByteArray)} {v : Value} {w : World} (h : Rw w v L) (z : Small L) (r : Bool) (hr : vldP L = r) :
    Calls Tryz.prog 19 #[.slice (some ⟨w.heap.size, 0, none⟩) 1 1] (w.alloc (.cells #[v] 23)) (BPost r w) := by
  have h := lvalid_any [L] _ _ (rl_one w h) (by intro L' hL; simp at hL; subst hL; exact z) (by simp)
  have e : [L].all vldP = r := by rw [← hr]; simp
  rw [e] at h
  exact h.mono fun e w' ⟨h1, h2⟩ => ⟨h1, chain (below_one _ _) h2⟩

end Go.Proofs.YtepddegphdlbeaaGreat

/- The reference's powers. -/
namespace Go.Proofs.YtepddegphdlbeaaGreat
open Go.RowKit

theorem pow9 {m k : Nat} {x : Int} (h : x.natAbs < D9 ^ m) : (x ^ k).natAbs < D9 ^ (m * k + 1) := by
  rw [Int.natAbs_pow]
  have h1 : x.natAbs ^ k ≤ (D9 ^ m) ^ k := Nat.pow_le_pow_left (Nat.le_of_lt h) k
  rw [← Nat.pow_mul] at h1
  exact Nat.lt_of_le_of_lt h1 (Nat.pow_lt_pow_right (by decide) (Nat.lt_succ_self _))

set_option maxRecDepth 100000 in
set_option maxHeartbeats 2000000 in
theorem rpower2_any (n m : Nat) (hn : n ≤ 1000) (hm : m * n ≤ 90000) (hm0 : m ≤ 90000) (x : Int) (sx : x.natAbs < D9 ^ m) (u : Value) (w : World) (hu : Rz w u x) :
    Calls Tryz.prog 104 #[iV x u, .int .i64 (n : Int)] w (IntPost (x ^ n) w) := by
  obtain ⟨w0, hw0⟩ : ∃ w0 : World, w0 = (w.alloc (.cells #[.bool (decide (x < 0)), u] 52)).alloc (.cells #[.bool false, .slice none 0 0] 52) := ⟨_, rfl⟩
  have hb0 : Hid (Below w.heap.size w w0) := by rw [hw0]; exact (below_one _ _).alloc (by simp) _
  have HX : Hid (Bz w0 w.heap.size x) := by rw [hw0]; exact (Bz.made hu).alloc _
  have I2 : Hid (Bz w0 (w.heap.size + 1) 0) := by
    show Bz _ _ _
    rw [hw0]
    have := Bz.made (rz_zero (w.alloc (.cells #[.bool (decide (x < 0)), u] 52)))
    simpa using this
  have HZ0 : Hid (w0.heap.size = w.heap.size + 2) := by show _ = _; rw [hw0]; simp
  have HN : Hid (∀ w, Calls Tryz.prog 74 #[.int .i64 1] w (IntPost (x ^ 0) w)) := fun w => by rw [Int.pow_zero]; exact rnum_any 1 w (by decide) (by decide)
  have HM := Lib.hid (fun k (hk : k < n) u1 u2 w' (g1 : Rz w' u1 (x ^ k)) (g2 : Rz w' u2 x) => rmul_int (x ^ k) x u1 u2 w' g1 g2 (Nat.le_trans (len9 (pow9 sx)) (by have := Nat.mul_le_mul_left m (Nat.le_of_lt hk); omega)) (Nat.le_trans (len9 sx) (by omega)))
  have HP : ∀ k, x ^ k * x = x ^ (k + 1) := fun k => (Int.pow_succ x k).symm
  simp only [HP] at HM
  have Hw0 := Lib.hid hw0
  obtain ⟨pu, bu, ou, cu, hup, -⟩ := hu
  subst hup
  clear hw0 HP sx hm hm0
  obtain ⟨f, hf⟩ : ∃ f : Nat → Int, f = fun k => x ^ k := ⟨_, rfl⟩
  have HF : ∀ k, x ^ k = f k := fun k => by rw [hf]
  simp only [HF] at HM HN ⊢
  unfold iV at HM ⊢
  unfold IntPost iV at HN
  clear HF hf
  go_enter Tryz.func104, Tryz.ntmps104
  go_wp2_with fail
  rw [← Hw0.out]
  refine (HN.out _).mono ?_
  rintro e y0 ⟨v0, rfl, r0, b0⟩
  obtain ⟨u0, hu0⟩ : ∃ u0 : World, u0 = y0.alloc (.cells #[.bool (decide (f 0 < 0)), v0] 52) := ⟨_, rfl⟩
  have T0 : Hid (Bz u0 y0.heap.size (f 0)) := by rw [hu0]; exact Bz.made r0
  have D0 : Hid (Below w0.heap.size w0 u0) := by rw [hu0]; exact b0.alloc b0.size _
  have G0 : Hid (w0.heap.size ≤ y0.heap.size) := b0.size
  obtain ⟨p0, bb0, o0, c0, rfl, rr0⟩ := r0
  have Hu0 := Lib.hid hu0
  clear b0 rr0 hu0 Hw0
  go_wp2
  rw [← Hu0.out]
  clear Hu0
  go_loopw [6] (fun iv wr => ∃ (wz : World) (k : Nat), wz = wr ∧ iv = .int .i64 (k : Int) ∧ k ≤ n ∧ Hid (Bz wz y0.heap.size (f k)) ∧ Hid (Below w0.heap.size w0 wz))
    (fun iv _ => n - (intOf iv).toNat)
  case atStart => exact ⟨u0, 0, rfl, rfl, Nat.zero_le _, T0.out, D0.out⟩
  case round =>
    obtain ⟨wz, k, rfl, rfl, hk, ht, hd⟩ := hrel
    clear T0 D0
    obtain ⟨pz, cz, R, k0, k1, k2, k3⟩ := ht.out.open_
    have HR := Lib.hid R
    clear R
    by_cases hlt : k < n
    · have hkk : (k : Int) < (n : Int) := by omega
      obtain ⟨px, cx, RX, x0, x1, -, -⟩ := (HX.out.below hd.out).open_
      have HMk := Lib.hid (HM.out k hlt _ _ wz HR.out RX)
      clear RX
      go_wp2_with fail
      refine HMk.out.mono ?_
      rintro e y2 ⟨v2, rfl, r2, b2⟩
      unfold iV
      have ZZ := Lib.hid (ht.out.below b2)
      have C2 := Lib.hid (below_set2 (chain hd.out b2) (g := y0.heap.size) G0.out (.bool (decide (f (k + 1) < 0))) v2)
      have TT := Lib.hid (ZZ.out.store r2)
      obtain ⟨_, _, -, j0, j1, j2, j3⟩ := ZZ.out.open_
      obtain ⟨pq2, bb2, oo2, cc2, rfl, rr2⟩ := r2
      clear b2 rr2 k0 k1 k2 k3
      go_wp2
      go_roundw
      case rel => exact ⟨_, k + 1, rfl, by go_num, by omega, TT.out, C2.out⟩
      case measure => simp [intOf]; omega
    · obtain rfl : k = n := by omega
      have ZI := Lib.hid (I2.out.below hd.out)
      obtain ⟨_, _, -, m0, m1, m2, m3⟩ := ZI.out.open_
      have f1 : ¬ y0.heap.size = w.heap.size + 1 := by have := G0.out; have := HZ0.out; omega
      have f2 : ¬ w.heap.size + 1 = y0.heap.size := by have := G0.out; have := HZ0.out; omega
      have HZ := Lib.hid (below_set2 (chain hb0.out hd.out) (g := w.heap.size + 1) (by omega) (.bool (decide (f k < 0))) (.slice pz (Nm.dg D9 (f k).natAbs).length cz))
      have HR2 := Lib.hid (HR.out.stored ZI.out (.bool (decide (f k < 0))) (.slice pz (Nm.dg D9 (f k).natAbs).length cz))
      go_wp2
      exact bodyPost_ret (v := .agg #[.bool (decide (f k < 0)), .slice pz (Nm.dg D9 (f k).natAbs).length cz]) (by simp [results, Tryz.results104, go_sem, m0, m1]) rfl ⟨_, rfl, HR2.out, HZ.out⟩
end Go.Proofs.YtepddegphdlbeaaGreat

/- The reference's Compose. -/
namespace Go.Proofs.YtepddegphdlbeaaGreat
open Go.RowKit

/-- The powers of a + b u. -/
def tpw (a b : Int) : Nat → List Int
  | 0 => Pl.trim [1]
  | i + 1 => Pl.trim (Pl.mul (tpw a b i) (Pl.trim [a, b]))
def cof (p : List Int) (d : Int) (i : Nat) : Int := Pl.cf p i * d ^ (p.length - 1 - i)
/-- The sum of the first terms. -/
def sfm (p : List Int) (a b d : Int) : Nat → List Int
  | 0 => []
  | i + 1 => Pl.trim (Pl.add (sfm p a b d i) (Pl.trim (Pl.scl (cof p d i) (tpw a b i))))
theorem ev_tp (a b : Int) (i : Nat) (x : Int) : Pl.ev (tpw a b i) x = (a + b * x) ^ i := by
  induction i with
  | zero => simp [tpw, Pl.ev_trim, Pl.ev]
  | succ i ih =>
    rw [tpw, Pl.ev_trim, Pl.ev_mul, ih, Pl.ev_trim, Int.pow_succ]
    congr 1
    simp only [Pl.ev]
    grind
theorem ev_sfm (p : List Int) (a b d : Int) (i : Nat) (x : Int) : Pl.ev (sfm p a b d i) x = Pl.evs (Pl.lev p d) (a + b * x) i := by
  induction i with
  | zero => rfl
  | succ i ih => rw [sfm, Pl.ev_trim, Pl.ev_add, ih, Pl.ev_trim, Pl.ev_scl, ev_tp, Pl.evs, Pl.cf_lev]; rfl
theorem sfm_nrm (p : List Int) (a b d : Int) (i : Nat) : Pl.Nrm (sfm p a b d i) := by
  cases i with
  | zero => exact Pl.nrm_nil
  | succ i => exact Pl.nrm_trim _
theorem sfm_comp (p : List Int) (a b d : Int) : sfm p a b d p.length = Pl.trim (Pl.comp a b (Pl.lev p d)) :=
  Pl.ev_inj_nrm (sfm_nrm _ _ _ _ _) (Pl.nrm_trim _) fun x _ => by
    rw [ev_sfm, Pl.ev_trim, Pl.ev_comp, ← Pl.evs_all, Pl.lev_length]
theorem mul_len_le (p q : List Int) : (Pl.mul p q).length ≤ p.length + q.length := by
  induction p with
  | nil => simp [Pl.mul]
  | cons a p ih => rw [Pl.mul, Pl.add_length, Pl.scl_length, List.length_cons, List.length_cons]; omega
theorem tp_len (a b : Int) (i : Nat) : (tpw a b i).length ≤ 1 + 2 * i := by
  induction i with
  | zero => exact Pl.trim_length _
  | succ i ih =>
    have h1 := Pl.trim_length (Pl.mul (tpw a b i) (Pl.trim [a, b]))
    have h2 := mul_len_le (tpw a b i) (Pl.trim [a, b])
    have h3 := Pl.trim_length [a, b]
    simp only [List.length_cons, List.length_nil] at h3
    rw [tpw]
    omega
theorem sfm_len (p : List Int) (a b d : Int) (i l : Nat) (hi : i ≤ l) : (sfm p a b d i).length ≤ 1 + 2 * l := by
  induction i with
  | zero => simp [sfm]
  | succ i ih =>
    rw [sfm]
    refine Nat.le_trans (Pl.trim_length _) ?_
    rw [Pl.add_length]
    have h1 := Pl.trim_length (Pl.scl (cof p d i) (tpw a b i))
    rw [Pl.scl_length] at h1
    have h2 := tp_len a b i
    have h3 := ih (by omega)
    omega
theorem sz_two {k : Nat} {a b : Int} (ha : a.natAbs < D9 ^ k) (hb : b.natAbs < D9 ^ k) : Sz k [a, b] := fun j => by
  match j with
  | 0 => exact ha
  | 1 => exact hb
  | j + 2 => rw [Pl.cf_ge (by simp)]; exact Nat.pow_pos (by decide)
theorem tp_sz {k : Nat} {a b : Int} (ha : a.natAbs < D9 ^ k) (hb : b.natAbs < D9 ^ k) (i : Nat) (hi : i ≤ 100) : Sz (1 + i * (k + 1)) (tpw a b i) := by
  induction i with
  | zero =>
    refine Sz.trim fun j => ?_
    match j with
    | 0 =>
      rw [show 1 + 0 * (k + 1) = 1 by omega]
      decide
    | j + 1 => rw [Pl.cf_ge (by simp)]; exact Nat.pow_pos (by decide)
  | succ i ih =>
    have h := (ih (by omega)).mul ((sz_two ha hb).trim) (by have := tp_len a b i; omega)
    exact (h.mono (by rw [Nat.succ_mul]; omega)).trim
theorem cof_lt {n m : Nat} {p : List Int} {d : Int} (s : Sz n p) (hd : d.natAbs < D9 ^ m) (i : Nat) : (cof p d i).natAbs < D9 ^ (n + (m * p.length + 1)) := by
  unfold cof
  rw [Int.natAbs_mul]
  refine mulD9 (s i) (Nat.lt_of_lt_of_le (pow9 hd) (Nat.pow_le_pow_right (by decide) ?_))
  have := Nat.mul_le_mul_left m (show p.length - 1 - i ≤ p.length by omega)
  omega
theorem term_sz {n m k : Nat} {p : List Int} {a b d : Int} (s : Sz n p) (hd : d.natAbs < D9 ^ m) (ha : a.natAbs < D9 ^ k) (hb : b.natAbs < D9 ^ k) (i : Nat) (hi : i ≤ p.length) (hl : p.length ≤ 100) :
    Sz (n + (m * p.length + 1) + (1 + p.length * (k + 1))) (Pl.trim (Pl.scl (cof p d i) (tpw a b i))) :=
  (((tp_sz ha hb i (by omega)).scl (cof_lt s hd i)).mono (by have := Nat.mul_le_mul_right (k + 1) hi; omega)).trim
theorem sfm_sz {n m k : Nat} {p : List Int} {a b d : Int} (s : Sz n p) (hd : d.natAbs < D9 ^ m) (ha : a.natAbs < D9 ^ k) (hb : b.natAbs < D9 ^ k) (i : Nat) (hi : i ≤ p.length) (hl : p.length ≤ 100) :
    Sz (n + (m * p.length + 1) + (1 + p.length * (k + 1)) + i) (sfm p a b d i) := by
  induction i with
  | zero => exact Sz.nil _
  | succ i ih =>
    have h := (ih (by omega)).add (term_sz s hd ha hb i (by omega) hl)
    exact (h.mono (by omega)).trim

theorem rn_one (w : World) : Rn (w.alloc (.cells #[.int .i64 1] 3)) (.slice (some ⟨w.heap.size, 0, none⟩) 1 1) [1] :=
  ⟨_, w.heap.size, 0, 1, rfl, fun _ => rfl, fun k h => by
    obtain rfl : k = 0 := by simp at h; omega
    simp [go_sem]⟩
theorem rp_two (w : World) {va vb : Value} {a b : Int} (ha : Rz w va a) (hb : Rz w vb b) : RP (w.alloc (.cells #[.bool (decide (a < 0)), va, .bool (decide (b < 0)), vb] 52)) (.slice (some ⟨w.heap.size, 0, none⟩) 2 2) [a, b] :=
  ⟨_, w.heap.size, 0, 2, rfl, by simp, by unfold maxLen; omega, fun _ => rfl, fun k h => by
    match k, h with
    | 0, _ => exact ⟨va, by simp [go_sem], by simp [go_sem], ha.allocd _⟩
    | 1, _ => exact ⟨vb, by simp [go_sem], by simp [go_sem], hb.allocd _⟩
    | j + 2, h => simp at h; omega⟩

set_option maxRecDepth 100000 in
set_option maxHeartbeats 4000000 in
theorem rCompose_any (n m k : Nat) (p : List Int) (a b d : Int) (v va vb vd : Value) (w : World) (h : RP w v p) (ha : Rz w va a) (hb : Rz w vb b) (hd : Rz w vd d) (l : p.length ≤ 100) (s : Sz n p)
    (sa : a.natAbs < D9 ^ k) (sb : b.natAbs < D9 ^ k) (sd : d.natAbs < D9 ^ m) (hK : n + m * p.length + p.length * (k + 1) ≤ 30000) (hm : m ≤ 30000) (hk0 : k ≤ 30000) :
    Calls Tryz.prog 52 #[v, iV a va, iV b vb, iV d vd] w (RPPost (Pl.trim (Pl.comp a b (Pl.lev p d))) w) := by
  rw [← sfm_comp]
  have hml : ∀ j, j ≤ p.length → m * j ≤ 30000 := fun j hj => by have := Nat.mul_le_mul_left m hj; omega
  have hkl : ∀ j, j ≤ p.length → j * (k + 1) ≤ 30000 := fun j hj => by have := Nat.mul_le_mul_right (k + 1) hj; omega
  have HPw := Lib.hid (fun i (hi : i < p.length) w' (hb : Below w.heap.size w w') => rpower2_any (p.length - 1 - i) m (by omega) (by have := hml (p.length - 1 - i) (by omega); omega) (by omega) d sd vd w' (hd.below hb))
  have HMu := Lib.hid (fun i (hi : i < p.length) u1 u2 w' (g1 : Rz w' u1 (Pl.cf p i)) (g2 : Rz w' u2 (d ^ (p.length - 1 - i))) => show Calls Tryz.prog 83 #[iV (Pl.cf p i) u1, iV (d ^ (p.length - 1 - i)) u2] w' (IntPost (cof p d i) w') from rmul_int (Pl.cf p i) _ u1 u2 w' g1 g2 (Nat.le_trans (s.len i) (by omega)) (Nat.le_trans (len9 (pow9 sd)) (by have := hml (p.length - 1 - i) (by omega); omega)))
  have HSc := Lib.hid (fun i (hi : i < p.length) u1 u2 w' (g1 : RP w' u1 (tpw a b i)) (g2 : Rz w' u2 (cof p d i)) => rScale_any _ _ (by have := hkl i (by omega); omega) (by have := hml p.length (Nat.le_refl _); omega) (tpw a b i) (cof p d i) u1 u2 w' g1 g2 (by have := tp_len a b i; omega) (tp_sz sa sb i (by omega)) (cof_lt s sd i))
  have HAd := Lib.hid (fun i (hi : i < p.length) u1 u2 w' (g1 : RP w' u1 (sfm p a b d i)) (g2 : RP w' u2 (Pl.trim (Pl.scl (cof p d i) (tpw a b i)))) => show Calls Tryz.prog 29 #[u1, u2] w' (RPPost (sfm p a b d (i + 1)) w') from
    rAdd2_any (n + (m * p.length + 1) + (1 + p.length * (k + 1)) + i) (by omega) _ _ u1 u2 w' g1 g2 (by have := sfm_len p a b d i p.length (by omega); omega) (by have h5 := Pl.trim_length (Pl.scl (cof p d i) (tpw a b i)); rw [Pl.scl_length] at h5; have := tp_len a b i; omega) (sfm_sz s sd sa sb i (by omega) l) ((term_sz s sd sa sb i (by omega) l).mono (by omega)))
  have HMl := Lib.hid (fun i (hi : i < p.length) u1 u2 w' (g1 : RP w' u1 (tpw a b i)) (g2 : RP w' u2 (Pl.trim [a, b])) => show Calls Tryz.prog 28 #[u1, u2] w' (RPPost (tpw a b (i + 1)) w') from
    rMul2_any _ k (by have := hkl i (by omega); omega) _ _ u1 u2 w' g1 g2 (by have := tp_len a b i; omega) (Nat.le_trans (Pl.trim_length _) (by simp)) (tp_sz sa sb i (by omega)) (sz_two sa sb).trim)
  have HNm := Lib.hid (fun w' => show Calls Tryz.prog 23 #[.slice (some ⟨(w' : World).heap.size, 0, none⟩) 1 1] (w'.alloc (.cells #[.int .i64 1] 3)) (RPPost (tpw a b 0) (w'.alloc (.cells #[.int .i64 1] 3))) from rNums_any [1] _ _ (rn_one w') (by simp) (fun x hx => by simp at hx; subst hx; decide))
  obtain ⟨T, hT⟩ : ∃ T : Nat → List Int, T = fun i => tpw a b i := ⟨_, rfl⟩
  have HTe : ∀ i, tpw a b i = T i := fun i => by rw [hT]
  obtain ⟨F, hF⟩ : ∃ F : Nat → List Int, F = fun i => sfm p a b d i := ⟨_, rfl⟩
  have HFe : ∀ i, sfm p a b d i = F i := fun i => by rw [hF]
  have F0 : Hid (F 0 = []) := by show _ = _; rw [hF]; rfl
  simp only [HTe, HFe] at HSc HAd HMl HNm ⊢
  obtain ⟨w0, hw0⟩ : ∃ w0 : World, w0 = ((w.alloc (.cells #[.bool (decide (a < 0)), va] 52)).alloc (.cells #[.bool (decide (b < 0)), vb] 52)).alloc (.cells #[.bool (decide (d < 0)), vd] 52) := ⟨_, rfl⟩
  have hb0 : Hid (Below w.heap.size w w0) := by rw [hw0]; exact ((below_one _ _).alloc (by simp) _).alloc (by simp; omega) _
  have I1 : Hid (ZC (.bool (decide (a < 0))) va w0 w.heap.size) := by rw [hw0]; exact ((ZC.new rfl).alloc _).alloc _
  have I2 : Hid (ZC (.bool (decide (b < 0))) vb w0 (w.heap.size + 1)) := by rw [hw0]; exact (ZC.new (by simp)).alloc _
  have I3 : Hid (ZC (.bool (decide (d < 0))) vd w0 (w.heap.size + 1 + 1)) := by rw [hw0]; exact ZC.new (by simp)
  have HRa : Hid (Rz w0 va a) := ha.below hb0.out
  have HRb : Hid (Rz w0 vb b) := hb.below hb0.out
  have Hw0 := Lib.hid hw0
  clear hw0 HTe hT HFe hF s sa sb sd hK hm hk0 hml hkl
  obtain ⟨a1, b1, o1, c1, rfl, -, -, h4, h5⟩ := h
  have H4 := Lib.hid h4
  have H5 := Lib.hid h5
  obtain ⟨pa, bpa, oa, ca, hua, -⟩ := ha
  subst hua
  obtain ⟨pb, bpb, ob, cb, hub, -⟩ := hb
  subst hub
  obtain ⟨pd, bpd, od, cd, hud, -⟩ := hd
  subst hud
  obtain ⟨n1, hn1⟩ : ∃ n, n = p.length := ⟨_, rfl⟩
  have HN := Lib.hid hn1
  rw [← hn1] at HPw HMu l ⊢
  clear h4 h5 hn1
  unfold iV at HPw HMu ⊢
  generalize hla : (Nm.dg D9 a.natAbs).length = la at *
  generalize hlb : (Nm.dg D9 b.natAbs).length = lb at *
  generalize hld : (Nm.dg D9 d.natAbs).length = ld at *
  generalize decide (d < 0) = bd at *
  clear hla hlb hld
  go_enter Tryz.func52, Tryz.ntmps52
  go_upto_region 1 with (fail)
  rw [← Hw0.out]
  clear Hw0
  go_wp2_with fail
  refine (HNm.out _).mono ?_
  rintro en y1 ⟨v1, rfl, r1, b1'⟩
  have R1 := Lib.hid r1
  have D1 := Lib.hid (chain (below_one w0 _) b1')
  clear r1 b1'
  go_wp2
  go_loopw [9, 10, 11] (fun sv tv iv wr => ∃ (wz : World) (i : Nat), wz = wr ∧ i ≤ n1 ∧ iv = .int .i64 (i : Int) ∧ Hid (RP wz sv (F i)) ∧ Hid (RP wz tv (T i)) ∧ Hid (Below w0.heap.size w0 wz))
    (fun _ _ iv _ => n1 - (intOf iv).toNat)
  case atStart => exact ⟨y1, 0, rfl, Nat.zero_le _, rfl, by rw [F0.out]; exact RP.nil _, R1.out, D1.out⟩
  case round =>
    clear R1 D1
    obtain ⟨wz, i, rfl, hi, rfl, hrs, hrt, hd⟩ := hrel
    have hi0 : (0 : Int) ≤ (i : Int) := by omega
    by_cases hlt : i < n1
    · have hip : i < p.length := by have h5 : n1 = p.length := HN.out; omega
      have hii : (i : Int) < (n1 : Int) := by omega
      have hw0' : IntKind.i64.wrap ((n1 : Int) - 1) = (n1 : Int) - 1 := IntWalk.i64_in _ (by omega)
      have hw1 : IntKind.i64.wrap ((n1 : Int) - 1 - (i : Int)) = ((n1 - 1 - i : Nat) : Int) := by rw [IntWalk.i64_in _ (by omega)]; omega
      obtain rfl := H4.out (by intro e; rw [e] at hip; exact absurd hip (Nat.not_lt_zero _))
      obtain ⟨uk, g0, g1, g2⟩ := H5.out i hip
      rw [← Pl.cf_lt hip] at g0 g2
      have DW := Lib.hid (chain hb0.out hd.out)
      have d0 := keep1 DW.out g0
      have d1 := keep1 DW.out g1
      obtain ⟨d2, d3, -, -⟩ := I3.out.next hd.out
      have HPw := Lib.hid (fun w' (hb : Below wz.heap.size wz w') => HPw.out i hlt w' (chain DW.out hb))
      have HMu := Lib.hid (fun u2 w' (g : Rz w' u2 _) (hb : Below wz.heap.size wz w') => HMu.out i hlt uk u2 w' (g2.below (chain DW.out hb)) g)
      have HSc := Lib.hid (HSc.out i hip)
      have HAd := Lib.hid (HAd.out i hip)
      have HMl := Lib.hid (HMl.out i hip)
      generalize Pl.trim (Pl.scl (cof p d i) (T i)) = tm' at *
      generalize cof p d i = c at *
      generalize d ^ (n1 - 1 - i) = dp at *
      generalize Pl.cf p i = x at *
      obtain ⟨pk, bk, ok, ck, huk, -⟩ := g2
      subst huk
      unfold iV at HSc
      generalize (Nm.dg D9 x.natAbs).length = lx at *
      generalize decide (x < 0) = bx at *
      clear g0 g1 hip
      obtain ⟨as', bs, os, cs, rfl, -, -, -, -⟩ := hrs.out
      obtain ⟨at', bt, ot, ct, rfl, -, -, -, -⟩ := hrt.out
      generalize hls : (F i).length = ls at *
      generalize hlt' : (T i).length = lt' at *
      clear hls hlt'
      go_upto_region 6 with (fail)
      go_region_held3 (fun W' => W'.cell? ⟨b1, o1 + i * 2, none⟩ = some (.bool bx) ∧ W'.cell? ⟨b1, o1 + i * 2 + 1, none⟩ = some (.slice pk lx ck) ∧ W'.cell? ⟨w.heap.size + 1 + 1, 0, none⟩ = some (.bool bd) ∧ W'.cell? ⟨w.heap.size + 1 + 1, 1, none⟩ = some (.slice pd ld cd)) (go_keep)
        (first
          | (go_at_call 104; (with_reducible refine (HPw.out _ ((Below.refl _ _).drew)).mono ?_); rintro e y2 ⟨u2, rfl, r2, b2⟩; (try unfold iV); have D := Lib.hid (chain ((Below.refl wz.heap.size wz).drew) b2); have p0 := keep1 D.out d0; have p1 := keep1 D.out d1; have p2 := keep1 D.out d2; have p3 := keep1 D.out d3; have R2 := Lib.hid r2; clear r2 b2)
          | (go_at_call 83; (with_reducible refine (HMu.out _ _ R2.out D.out).mono ?_); rintro e y3 ⟨u3, rfl, r3, b3⟩; (try unfold iV); have D := Lib.hid (chain D.out b3); have p0 := keep1 D.out d0; have p1 := keep1 D.out d1; have p2 := keep1 D.out d2; have p3 := keep1 D.out d3; have R3 := Lib.hid r3; clear r3 b3)
          | (go_at_call 36; (with_reducible refine (HSc.out _ _ _ (hrt.out.below D.out) R3.out).mono ?_); rintro e y4 ⟨u4, rfl, r4, b4⟩; have D := Lib.hid (chain D.out b4); have p0 := keep1 D.out d0; have p1 := keep1 D.out d1; have p2 := keep1 D.out d2; have p3 := keep1 D.out d3; have R4 := Lib.hid r4; clear r4 b4)
          | (go_at_call 29; (with_reducible refine (HAd.out _ _ _ (hrs.out.below D.out) R4.out).mono ?_); rintro e y5 ⟨u5', rfl, r5, b5⟩; have D := Lib.hid (chain D.out b5); have p0 := keep1 D.out d0; have p1 := keep1 D.out d1; have p2 := keep1 D.out d2; have p3 := keep1 D.out d3; have R5 := Lib.hid r5; clear r5 b5)
          | fail)
      have D5 := Lib.hid (chain hd.out D.out)
      have HT5 := Lib.hid (hrt.out.below D.out)
      clear d0 d1 d2 d3 p0 p1 p2 p3
      obtain ⟨m0, m1, -, -⟩ := I1.out.next D5.out
      obtain ⟨m2, m3, -, -⟩ := I2.out.next D5.out
      have HTr := Lib.hid (rTrim_any _ [a, b] _ (rp_two y5 (HRa.out.below D5.out) (HRb.out.below D5.out)))
      go_wp2_with fail
      refine HTr.out.mono ?_
      rintro en y6 ⟨u6', rfl, r6, b6⟩
      have D6 := Lib.hid (chain (below_one y5 _) b6)
      have R6 := Lib.hid r6
      clear r6 b6 m0 m1 m2 m3
      go_wp2_with fail
      refine (HMl.out _ _ _ (HT5.out.below D6.out) R6.out).mono ?_
      rintro en y7 ⟨u7', rfl, r7, b7⟩
      have R7 := Lib.hid r7
      have D7 := Lib.hid (chain D6.out b7)
      have R5' := Lib.hid (R5.out.below D7.out)
      have D8 := Lib.hid (chain D5.out D7.out)
      clear r7 b7
      go_wp2
      go_roundw
      case rel => exact ⟨_, i + 1, rfl, by omega, by go_num, R5'.out, R7.out, D8.out⟩
      case measure => simp [intOf]; omega
    · obtain rfl : i = n1 := by omega
      have HB6 := Lib.hid (chain hb0.out hd.out)
      go_wp2
      go_ret
      exact ⟨_, rfl, hrs.out, HB6.out⟩
end Go.Proofs.YtepddegphdlbeaaGreat

/- PolyComposes: the walks. -/
namespace Go.Proofs.YtepddegphdlbeaaGreat
open Go.RowKit

set_option maxRecDepth 100000 in
set_option maxHeartbeats 8000000 in
theorem pco_long0 (L : List (Bool × ByteArray)) (v : Value) (b1 b2 b3 : Bool) (s1 s2 s3 : ByteArray) (w : World) (h : Rw w v L) (z1 : s1.size ≤ 9223372036854775807) (z2 : s2.size ≤ 9223372036854775807) (z3 : s3.size ≤ 9223372036854775807)
    (HS : ∀ w', Below w.heap.size w w' → Calls Tryz.prog 11 #[.slice (some ⟨w'.heap.size, 0, none⟩) 1 1] (w'.alloc (.cells #[v] 23)) (BPost false w')) :
    Calls Tryz.prog 7 #[v, .agg #[.bool b1, .string s1], .agg #[.bool b2, .string s2], .agg #[.bool b3, .string s3]] w (Ret (.bool true) w) := by
  obtain ⟨w0, hw0⟩ : ∃ w0 : World, w0 = ((w.alloc (.cells #[.bool b1, .string s1] 44)).alloc (.cells #[.bool b2, .string s2] 44)).alloc (.cells #[.bool b3, .string s3] 44) := ⟨_, rfl⟩
  have I1 : Hid (ZC (.bool b1) (.string s1) w0 w.heap.size) := by rw [hw0]; exact ((ZC.new rfl).alloc _).alloc _
  have I2 : Hid (ZC (.bool b2) (.string s2) w0 (w.heap.size + 1)) := by rw [hw0]; exact (ZC.new (by simp)).alloc _
  have I3 : Hid (ZC (.bool b3) (.string s3) w0 (w.heap.size + 1 + 1)) := by rw [hw0]; exact ZC.new (by simp)
  have E : Hid (Below w.heap.size w w0) := by rw [hw0]; exact (((Below.refl _ _).alloc (Nat.le_refl _) _).alloc (by simp) _).alloc (by simp; omega) _
  have HK := Lib.hid known_true
  have HS := Lib.hid HS
  obtain ⟨p1, a1, o1, c1, rfl, -, -, -, -⟩ := h
  generalize L.length = n1 at *
  clear z1 z2 z3
  unfold BPost at *
  unfold Ret at *
  go_enter Tryz.func7, Tryz.ntmps7
  go_upto_region 1 with (fail)
  rw [← hw0]
  clear hw0
  go_wp2_with fail
  refine (HS.out _ E.out).mono ?_
  rintro e x1 ⟨rfl, b1⟩
  have I1 := Lib.hid (I1.out.next b1)
  have I2 := Lib.hid (I2.out.next b1)
  have I3 := Lib.hid (I3.out.next b1)
  have E := Lib.hid (chain E.out b1)
  clear b1
  obtain ⟨k0, k1, _⟩ := I1.out
  obtain ⟨k2, k3, _⟩ := I2.out
  obtain ⟨k4, k5, _⟩ := I3.out
  go_wp2_with fail
  clear k0 k1 k2 k3 k4 k5
  refine (HK.out _).mono ?_
  rintro e x2 ⟨rfl, b2⟩
  have I1 := Lib.hid (I1.out.next b2)
  have I2 := Lib.hid (I2.out.next b2)
  have I3 := Lib.hid (I3.out.next b2)
  have E := Lib.hid (chain E.out b2)
  clear b2
  obtain ⟨k0, k1, _⟩ := I1.out
  obtain ⟨k2, k3, _⟩ := I2.out
  obtain ⟨k4, k5, _⟩ := I3.out
  go_wp2
  go_ret
  exact ⟨rfl, E.out⟩

set_option maxRecDepth 100000 in
set_option maxHeartbeats 8000000 in
theorem pco_long1 (L : List (Bool × ByteArray)) (v : Value) (b1 b2 b3 : Bool) (s1 s2 s3 : ByteArray) (w : World) (h : Rw w v L) (z1 : s1.size ≤ 9223372036854775807) (z2 : s2.size ≤ 9223372036854775807) (z3 : s3.size ≤ 9223372036854775807)
    (HS : ∀ w', Below w.heap.size w w' → Calls Tryz.prog 11 #[.slice (some ⟨w'.heap.size, 0, none⟩) 1 1] (w'.alloc (.cells #[v] 23)) (BPost true w'))
    (l1 : 16 < s1.size) :
    Calls Tryz.prog 7 #[v, .agg #[.bool b1, .string s1], .agg #[.bool b2, .string s2], .agg #[.bool b3, .string s3]] w (Ret (.bool true) w) := by
  obtain ⟨w0, hw0⟩ : ∃ w0 : World, w0 = ((w.alloc (.cells #[.bool b1, .string s1] 44)).alloc (.cells #[.bool b2, .string s2] 44)).alloc (.cells #[.bool b3, .string s3] 44) := ⟨_, rfl⟩
  have I1 : Hid (ZC (.bool b1) (.string s1) w0 w.heap.size) := by rw [hw0]; exact ((ZC.new rfl).alloc _).alloc _
  have I2 : Hid (ZC (.bool b2) (.string s2) w0 (w.heap.size + 1)) := by rw [hw0]; exact (ZC.new (by simp)).alloc _
  have I3 : Hid (ZC (.bool b3) (.string s3) w0 (w.heap.size + 1 + 1)) := by rw [hw0]; exact ZC.new (by simp)
  have E : Hid (Below w.heap.size w w0) := by rw [hw0]; exact (((Below.refl _ _).alloc (Nat.le_refl _) _).alloc (by simp) _).alloc (by simp; omega) _
  have HK := Lib.hid known_true
  have HS := Lib.hid HS
  have f1 : (16 : Int) < (s1.size : Int) := by omega
  obtain ⟨p1, a1, o1, c1, rfl, -, -, -, -⟩ := h
  generalize L.length = n1 at *
  clear z1 z2 z3 l1
  unfold BPost at *
  unfold Ret at *
  go_enter Tryz.func7, Tryz.ntmps7
  go_upto_region 1 with (fail)
  rw [← hw0]
  clear hw0
  go_wp2_with fail
  refine (HS.out _ E.out).mono ?_
  rintro e x1 ⟨rfl, b1⟩
  have I1 := Lib.hid (I1.out.next b1)
  have I2 := Lib.hid (I2.out.next b1)
  have I3 := Lib.hid (I3.out.next b1)
  have E := Lib.hid (chain E.out b1)
  clear b1
  obtain ⟨k0, k1, _⟩ := I1.out
  obtain ⟨k2, k3, _⟩ := I2.out
  obtain ⟨k4, k5, _⟩ := I3.out
  go_wp2_with fail
  clear k0 k1 k2 k3 k4 k5
  refine (HK.out _).mono ?_
  rintro e x2 ⟨rfl, b2⟩
  have I1 := Lib.hid (I1.out.next b2)
  have I2 := Lib.hid (I2.out.next b2)
  have I3 := Lib.hid (I3.out.next b2)
  have E := Lib.hid (chain E.out b2)
  clear b2
  obtain ⟨k0, k1, _⟩ := I1.out
  obtain ⟨k2, k3, _⟩ := I2.out
  obtain ⟨k4, k5, _⟩ := I3.out
  go_wp2
  go_ret
  exact ⟨rfl, E.out⟩

set_option maxRecDepth 100000 in
set_option maxHeartbeats 8000000 in
theorem pco_long2 (L : List (Bool × ByteArray)) (v : Value) (b1 b2 b3 : Bool) (s1 s2 s3 : ByteArray) (w : World) (h : Rw w v L) (z1 : s1.size ≤ 9223372036854775807) (z2 : s2.size ≤ 9223372036854775807) (z3 : s3.size ≤ 9223372036854775807)
    (HS : ∀ w', Below w.heap.size w w' → Calls Tryz.prog 11 #[.slice (some ⟨w'.heap.size, 0, none⟩) 1 1] (w'.alloc (.cells #[v] 23)) (BPost true w'))
    (l1 : s1.size ≤ 16)
    (l2 : 16 < s2.size) :
    Calls Tryz.prog 7 #[v, .agg #[.bool b1, .string s1], .agg #[.bool b2, .string s2], .agg #[.bool b3, .string s3]] w (Ret (.bool true) w) := by
  obtain ⟨w0, hw0⟩ : ∃ w0 : World, w0 = ((w.alloc (.cells #[.bool b1, .string s1] 44)).alloc (.cells #[.bool b2, .string s2] 44)).alloc (.cells #[.bool b3, .string s3] 44) := ⟨_, rfl⟩
  have I1 : Hid (ZC (.bool b1) (.string s1) w0 w.heap.size) := by rw [hw0]; exact ((ZC.new rfl).alloc _).alloc _
  have I2 : Hid (ZC (.bool b2) (.string s2) w0 (w.heap.size + 1)) := by rw [hw0]; exact (ZC.new (by simp)).alloc _
  have I3 : Hid (ZC (.bool b3) (.string s3) w0 (w.heap.size + 1 + 1)) := by rw [hw0]; exact ZC.new (by simp)
  have E : Hid (Below w.heap.size w w0) := by rw [hw0]; exact (((Below.refl _ _).alloc (Nat.le_refl _) _).alloc (by simp) _).alloc (by simp; omega) _
  have HK := Lib.hid known_true
  have HS := Lib.hid HS
  have f1 : ¬ (16 : Int) < (s1.size : Int) := by omega
  have f2 : (16 : Int) < (s2.size : Int) := by omega
  obtain ⟨p1, a1, o1, c1, rfl, -, -, -, -⟩ := h
  generalize L.length = n1 at *
  clear z1 z2 z3 l1 l2
  unfold BPost at *
  unfold Ret at *
  go_enter Tryz.func7, Tryz.ntmps7
  go_upto_region 1 with (fail)
  rw [← hw0]
  clear hw0
  go_wp2_with fail
  refine (HS.out _ E.out).mono ?_
  rintro e x1 ⟨rfl, b1⟩
  have I1 := Lib.hid (I1.out.next b1)
  have I2 := Lib.hid (I2.out.next b1)
  have I3 := Lib.hid (I3.out.next b1)
  have E := Lib.hid (chain E.out b1)
  clear b1
  obtain ⟨k0, k1, _⟩ := I1.out
  obtain ⟨k2, k3, _⟩ := I2.out
  obtain ⟨k4, k5, _⟩ := I3.out
  go_wp2_with fail
  clear k0 k1 k2 k3 k4 k5
  refine (HK.out _).mono ?_
  rintro e x2 ⟨rfl, b2⟩
  have I1 := Lib.hid (I1.out.next b2)
  have I2 := Lib.hid (I2.out.next b2)
  have I3 := Lib.hid (I3.out.next b2)
  have E := Lib.hid (chain E.out b2)
  clear b2
  obtain ⟨k0, k1, _⟩ := I1.out
  obtain ⟨k2, k3, _⟩ := I2.out
  obtain ⟨k4, k5, _⟩ := I3.out
  go_wp2
  go_ret
  exact ⟨rfl, E.out⟩

set_option maxRecDepth 100000 in
set_option maxHeartbeats 8000000 in
theorem pco_long3 (L : List (Bool × ByteArray)) (v : Value) (b1 b2 b3 : Bool) (s1 s2 s3 : ByteArray) (w : World) (h : Rw w v L) (z1 : s1.size ≤ 9223372036854775807) (z2 : s2.size ≤ 9223372036854775807) (z3 : s3.size ≤ 9223372036854775807)
    (HS : ∀ w', Below w.heap.size w w' → Calls Tryz.prog 11 #[.slice (some ⟨w'.heap.size, 0, none⟩) 1 1] (w'.alloc (.cells #[v] 23)) (BPost true w'))
    (l1 : s1.size ≤ 16)
    (l2 : s2.size ≤ 16)
    (l3 : 16 < s3.size) :
    Calls Tryz.prog 7 #[v, .agg #[.bool b1, .string s1], .agg #[.bool b2, .string s2], .agg #[.bool b3, .string s3]] w (Ret (.bool true) w) := by
  obtain ⟨w0, hw0⟩ : ∃ w0 : World, w0 = ((w.alloc (.cells #[.bool b1, .string s1] 44)).alloc (.cells #[.bool b2, .string s2] 44)).alloc (.cells #[.bool b3, .string s3] 44) := ⟨_, rfl⟩
  have I1 : Hid (ZC (.bool b1) (.string s1) w0 w.heap.size) := by rw [hw0]; exact ((ZC.new rfl).alloc _).alloc _
  have I2 : Hid (ZC (.bool b2) (.string s2) w0 (w.heap.size + 1)) := by rw [hw0]; exact (ZC.new (by simp)).alloc _
  have I3 : Hid (ZC (.bool b3) (.string s3) w0 (w.heap.size + 1 + 1)) := by rw [hw0]; exact ZC.new (by simp)
  have E : Hid (Below w.heap.size w w0) := by rw [hw0]; exact (((Below.refl _ _).alloc (Nat.le_refl _) _).alloc (by simp) _).alloc (by simp; omega) _
  have HK := Lib.hid known_true
  have HS := Lib.hid HS
  have f1 : ¬ (16 : Int) < (s1.size : Int) := by omega
  have f2 : ¬ (16 : Int) < (s2.size : Int) := by omega
  have f3 : (16 : Int) < (s3.size : Int) := by omega
  obtain ⟨p1, a1, o1, c1, rfl, -, -, -, -⟩ := h
  generalize L.length = n1 at *
  clear z1 z2 z3 l1 l2 l3
  unfold BPost at *
  unfold Ret at *
  go_enter Tryz.func7, Tryz.ntmps7
  go_upto_region 1 with (fail)
  rw [← hw0]
  clear hw0
  go_wp2_with fail
  refine (HS.out _ E.out).mono ?_
  rintro e x1 ⟨rfl, b1⟩
  have I1 := Lib.hid (I1.out.next b1)
  have I2 := Lib.hid (I2.out.next b1)
  have I3 := Lib.hid (I3.out.next b1)
  have E := Lib.hid (chain E.out b1)
  clear b1
  obtain ⟨k0, k1, _⟩ := I1.out
  obtain ⟨k2, k3, _⟩ := I2.out
  obtain ⟨k4, k5, _⟩ := I3.out
  go_wp2_with fail
  clear k0 k1 k2 k3 k4 k5
  refine (HK.out _).mono ?_
  rintro e x2 ⟨rfl, b2⟩
  have I1 := Lib.hid (I1.out.next b2)
  have I2 := Lib.hid (I2.out.next b2)
  have I3 := Lib.hid (I3.out.next b2)
  have E := Lib.hid (chain E.out b2)
  clear b2
  obtain ⟨k0, k1, _⟩ := I1.out
  obtain ⟨k2, k3, _⟩ := I2.out
  obtain ⟨k4, k5, _⟩ := I3.out
  go_wp2
  go_ret
  exact ⟨rfl, E.out⟩

set_option maxRecDepth 100000 in
set_option maxHeartbeats 8000000 in
theorem pco_bad0 (L : List (Bool × ByteArray)) (v : Value) (b1 b2 b3 : Bool) (s1 s2 s3 : ByteArray) (w : World) (h : Rw w v L) (z1 : s1.size ≤ 9223372036854775807) (z2 : s2.size ≤ 9223372036854775807) (z3 : s3.size ≤ 9223372036854775807)
    (HS : ∀ w', Below w.heap.size w w' → Calls Tryz.prog 11 #[.slice (some ⟨w'.heap.size, 0, none⟩) 1 1] (w'.alloc (.cells #[v] 23)) (BPost true w'))
    (l1 : s1.size ≤ 16)
    (l2 : s2.size ≤ 16)
    (l3 : s3.size ≤ 16)
    (HA : ∀ w', Below w.heap.size w w' → Calls Tryz.prog 51 #[v, .agg #[.bool b1, .string s1], .agg #[.bool b2, .string s2], .agg #[.bool b3, .string s3]] w' (ResE 2 w'))
    (HV : ∀ w', Below w.heap.size w w' → Calls Tryz.prog 19 #[.slice (some ⟨w'.heap.size, 0, none⟩) 1 1] (w'.alloc (.cells #[v] 23)) (BPost false w')) :
    Calls Tryz.prog 7 #[v, .agg #[.bool b1, .string s1], .agg #[.bool b2, .string s2], .agg #[.bool b3, .string s3]] w (Ret (.bool true) w) := by
  obtain ⟨w0, hw0⟩ : ∃ w0 : World, w0 = ((w.alloc (.cells #[.bool b1, .string s1] 44)).alloc (.cells #[.bool b2, .string s2] 44)).alloc (.cells #[.bool b3, .string s3] 44) := ⟨_, rfl⟩
  have I1 : Hid (ZC (.bool b1) (.string s1) w0 w.heap.size) := by rw [hw0]; exact ((ZC.new rfl).alloc _).alloc _
  have I2 : Hid (ZC (.bool b2) (.string s2) w0 (w.heap.size + 1)) := by rw [hw0]; exact (ZC.new (by simp)).alloc _
  have I3 : Hid (ZC (.bool b3) (.string s3) w0 (w.heap.size + 1 + 1)) := by rw [hw0]; exact ZC.new (by simp)
  have E : Hid (Below w.heap.size w w0) := by rw [hw0]; exact (((Below.refl _ _).alloc (Nat.le_refl _) _).alloc (by simp) _).alloc (by simp; omega) _
  have HK := Lib.hid known_true
  have HS := Lib.hid HS
  have HA := Lib.hid HA
  have HV := Lib.hid HV
  have f1 : ¬ (16 : Int) < (s1.size : Int) := by omega
  have f2 : ¬ (16 : Int) < (s2.size : Int) := by omega
  have f3 : ¬ (16 : Int) < (s3.size : Int) := by omega
  obtain ⟨p1, a1, o1, c1, rfl, -, -, -, -⟩ := h
  generalize L.length = n1 at *
  clear z1 z2 z3 l1 l2 l3
  unfold ResE at *
  unfold BPost at *
  unfold Ret at *
  go_enter Tryz.func7, Tryz.ntmps7
  go_upto_region 1 with (fail)
  rw [← hw0]
  clear hw0
  go_wp2_with fail
  refine (HS.out _ E.out).mono ?_
  rintro e x1 ⟨rfl, b1⟩
  have I1 := Lib.hid (I1.out.next b1)
  have I2 := Lib.hid (I2.out.next b1)
  have I3 := Lib.hid (I3.out.next b1)
  have E := Lib.hid (chain E.out b1)
  clear b1
  obtain ⟨k0, k1, _⟩ := I1.out
  obtain ⟨k2, k3, _⟩ := I2.out
  obtain ⟨k4, k5, _⟩ := I3.out
  go_wp2_with fail
  clear k0 k1 k2 k3 k4 k5
  refine (HA.out _ E.out).mono ?_
  rintro e x2 ⟨rfl, b2⟩
  have I1 := Lib.hid (I1.out.next b2)
  have I2 := Lib.hid (I2.out.next b2)
  have I3 := Lib.hid (I3.out.next b2)
  have E := Lib.hid (chain E.out b2)
  clear b2
  obtain ⟨k0, k1, _⟩ := I1.out
  obtain ⟨k2, k3, _⟩ := I2.out
  obtain ⟨k4, k5, _⟩ := I3.out
  go_wp2_with fail
  clear k0 k1 k2 k3 k4 k5
  refine (HV.out _ E.out).mono ?_
  rintro e x3 ⟨rfl, b3⟩
  have I1 := Lib.hid (I1.out.next b3)
  have I2 := Lib.hid (I2.out.next b3)
  have I3 := Lib.hid (I3.out.next b3)
  have E := Lib.hid (chain E.out b3)
  clear b3
  obtain ⟨k0, k1, _⟩ := I1.out
  obtain ⟨k2, k3, _⟩ := I2.out
  obtain ⟨k4, k5, _⟩ := I3.out
  go_wp2_with fail
  clear k0 k1 k2 k3 k4 k5
  refine (HK.out _).mono ?_
  rintro e x4 ⟨rfl, b4⟩
  have I1 := Lib.hid (I1.out.next b4)
  have I2 := Lib.hid (I2.out.next b4)
  have I3 := Lib.hid (I3.out.next b4)
  have E := Lib.hid (chain E.out b4)
  clear b4
  obtain ⟨k0, k1, _⟩ := I1.out
  obtain ⟨k2, k3, _⟩ := I2.out
  obtain ⟨k4, k5, _⟩ := I3.out
  go_wp2
  go_ret
  exact ⟨rfl, E.out⟩

set_option maxRecDepth 100000 in
set_option maxHeartbeats 8000000 in
theorem pco_bad1 (L : List (Bool × ByteArray)) (v : Value) (b1 b2 b3 : Bool) (s1 s2 s3 : ByteArray) (w : World) (h : Rw w v L) (z1 : s1.size ≤ 9223372036854775807) (z2 : s2.size ≤ 9223372036854775807) (z3 : s3.size ≤ 9223372036854775807)
    (HS : ∀ w', Below w.heap.size w w' → Calls Tryz.prog 11 #[.slice (some ⟨w'.heap.size, 0, none⟩) 1 1] (w'.alloc (.cells #[v] 23)) (BPost true w'))
    (l1 : s1.size ≤ 16)
    (l2 : s2.size ≤ 16)
    (l3 : s3.size ≤ 16)
    (HA : ∀ w', Below w.heap.size w w' → Calls Tryz.prog 51 #[v, .agg #[.bool b1, .string s1], .agg #[.bool b2, .string s2], .agg #[.bool b3, .string s3]] w' (ResE 2 w'))
    (HV : ∀ w', Below w.heap.size w w' → Calls Tryz.prog 19 #[.slice (some ⟨w'.heap.size, 0, none⟩) 1 1] (w'.alloc (.cells #[v] 23)) (BPost true w'))
    (HW1 : ∀ w', Calls Tryz.prog 35 #[.agg #[.bool b1, .string s1]] w' (BPost false w')) :
    Calls Tryz.prog 7 #[v, .agg #[.bool b1, .string s1], .agg #[.bool b2, .string s2], .agg #[.bool b3, .string s3]] w (Ret (.bool true) w) := by
  obtain ⟨w0, hw0⟩ : ∃ w0 : World, w0 = ((w.alloc (.cells #[.bool b1, .string s1] 44)).alloc (.cells #[.bool b2, .string s2] 44)).alloc (.cells #[.bool b3, .string s3] 44) := ⟨_, rfl⟩
  have I1 : Hid (ZC (.bool b1) (.string s1) w0 w.heap.size) := by rw [hw0]; exact ((ZC.new rfl).alloc _).alloc _
  have I2 : Hid (ZC (.bool b2) (.string s2) w0 (w.heap.size + 1)) := by rw [hw0]; exact (ZC.new (by simp)).alloc _
  have I3 : Hid (ZC (.bool b3) (.string s3) w0 (w.heap.size + 1 + 1)) := by rw [hw0]; exact ZC.new (by simp)
  have E : Hid (Below w.heap.size w w0) := by rw [hw0]; exact (((Below.refl _ _).alloc (Nat.le_refl _) _).alloc (by simp) _).alloc (by simp; omega) _
  have HK := Lib.hid known_true
  have HS := Lib.hid HS
  have HA := Lib.hid HA
  have HV := Lib.hid HV
  have HW1 := Lib.hid HW1
  have f1 : ¬ (16 : Int) < (s1.size : Int) := by omega
  have f2 : ¬ (16 : Int) < (s2.size : Int) := by omega
  have f3 : ¬ (16 : Int) < (s3.size : Int) := by omega
  obtain ⟨p1, a1, o1, c1, rfl, -, -, -, -⟩ := h
  generalize L.length = n1 at *
  clear z1 z2 z3 l1 l2 l3
  unfold ResE at *
  unfold BPost at *
  unfold Ret at *
  go_enter Tryz.func7, Tryz.ntmps7
  go_upto_region 1 with (fail)
  rw [← hw0]
  clear hw0
  go_wp2_with fail
  refine (HS.out _ E.out).mono ?_
  rintro e x1 ⟨rfl, b1⟩
  have I1 := Lib.hid (I1.out.next b1)
  have I2 := Lib.hid (I2.out.next b1)
  have I3 := Lib.hid (I3.out.next b1)
  have E := Lib.hid (chain E.out b1)
  clear b1
  obtain ⟨k0, k1, _⟩ := I1.out
  obtain ⟨k2, k3, _⟩ := I2.out
  obtain ⟨k4, k5, _⟩ := I3.out
  go_wp2_with fail
  clear k0 k1 k2 k3 k4 k5
  refine (HA.out _ E.out).mono ?_
  rintro e x2 ⟨rfl, b2⟩
  have I1 := Lib.hid (I1.out.next b2)
  have I2 := Lib.hid (I2.out.next b2)
  have I3 := Lib.hid (I3.out.next b2)
  have E := Lib.hid (chain E.out b2)
  clear b2
  obtain ⟨k0, k1, _⟩ := I1.out
  obtain ⟨k2, k3, _⟩ := I2.out
  obtain ⟨k4, k5, _⟩ := I3.out
  go_wp2_with fail
  clear k0 k1 k2 k3 k4 k5
  refine (HV.out _ E.out).mono ?_
  rintro e x3 ⟨rfl, b3⟩
  have I1 := Lib.hid (I1.out.next b3)
  have I2 := Lib.hid (I2.out.next b3)
  have I3 := Lib.hid (I3.out.next b3)
  have E := Lib.hid (chain E.out b3)
  clear b3
  obtain ⟨k0, k1, _⟩ := I1.out
  obtain ⟨k2, k3, _⟩ := I2.out
  obtain ⟨k4, k5, _⟩ := I3.out
  go_wp2_with fail
  clear k0 k1 k2 k3 k4 k5
  refine (HW1.out _).mono ?_
  rintro e x4 ⟨rfl, b4⟩
  have I1 := Lib.hid (I1.out.next b4)
  have I2 := Lib.hid (I2.out.next b4)
  have I3 := Lib.hid (I3.out.next b4)
  have E := Lib.hid (chain E.out b4)
  clear b4
  obtain ⟨k0, k1, _⟩ := I1.out
  obtain ⟨k2, k3, _⟩ := I2.out
  obtain ⟨k4, k5, _⟩ := I3.out
  go_wp2_with fail
  clear k0 k1 k2 k3 k4 k5
  refine (HK.out _).mono ?_
  rintro e x5 ⟨rfl, b5⟩
  have I1 := Lib.hid (I1.out.next b5)
  have I2 := Lib.hid (I2.out.next b5)
  have I3 := Lib.hid (I3.out.next b5)
  have E := Lib.hid (chain E.out b5)
  clear b5
  obtain ⟨k0, k1, _⟩ := I1.out
  obtain ⟨k2, k3, _⟩ := I2.out
  obtain ⟨k4, k5, _⟩ := I3.out
  go_wp2
  go_ret
  exact ⟨rfl, E.out⟩

set_option maxRecDepth 100000 in
set_option maxHeartbeats 8000000 in
theorem pco_bad2 (L : List (Bool × ByteArray)) (v : Value) (b1 b2 b3 : Bool) (s1 s2 s3 : ByteArray) (w : World) (h : Rw w v L) (z1 : s1.size ≤ 9223372036854775807) (z2 : s2.size ≤ 9223372036854775807) (z3 : s3.size ≤ 9223372036854775807)
    (HS : ∀ w', Below w.heap.size w w' → Calls Tryz.prog 11 #[.slice (some ⟨w'.heap.size, 0, none⟩) 1 1] (w'.alloc (.cells #[v] 23)) (BPost true w'))
    (l1 : s1.size ≤ 16)
    (l2 : s2.size ≤ 16)
    (l3 : s3.size ≤ 16)
    (HA : ∀ w', Below w.heap.size w w' → Calls Tryz.prog 51 #[v, .agg #[.bool b1, .string s1], .agg #[.bool b2, .string s2], .agg #[.bool b3, .string s3]] w' (ResE 2 w'))
    (HV : ∀ w', Below w.heap.size w w' → Calls Tryz.prog 19 #[.slice (some ⟨w'.heap.size, 0, none⟩) 1 1] (w'.alloc (.cells #[v] 23)) (BPost true w'))
    (HW1 : ∀ w', Calls Tryz.prog 35 #[.agg #[.bool b1, .string s1]] w' (BPost true w'))
    (HW2 : ∀ w', Calls Tryz.prog 35 #[.agg #[.bool b2, .string s2]] w' (BPost false w')) :
    Calls Tryz.prog 7 #[v, .agg #[.bool b1, .string s1], .agg #[.bool b2, .string s2], .agg #[.bool b3, .string s3]] w (Ret (.bool true) w) := by
  obtain ⟨w0, hw0⟩ : ∃ w0 : World, w0 = ((w.alloc (.cells #[.bool b1, .string s1] 44)).alloc (.cells #[.bool b2, .string s2] 44)).alloc (.cells #[.bool b3, .string s3] 44) := ⟨_, rfl⟩
  have I1 : Hid (ZC (.bool b1) (.string s1) w0 w.heap.size) := by rw [hw0]; exact ((ZC.new rfl).alloc _).alloc _
  have I2 : Hid (ZC (.bool b2) (.string s2) w0 (w.heap.size + 1)) := by rw [hw0]; exact (ZC.new (by simp)).alloc _
  have I3 : Hid (ZC (.bool b3) (.string s3) w0 (w.heap.size + 1 + 1)) := by rw [hw0]; exact ZC.new (by simp)
  have E : Hid (Below w.heap.size w w0) := by rw [hw0]; exact (((Below.refl _ _).alloc (Nat.le_refl _) _).alloc (by simp) _).alloc (by simp; omega) _
  have HK := Lib.hid known_true
  have HS := Lib.hid HS
  have HA := Lib.hid HA
  have HV := Lib.hid HV
  have HW1 := Lib.hid HW1
  have HW2 := Lib.hid HW2
  have f1 : ¬ (16 : Int) < (s1.size : Int) := by omega
  have f2 : ¬ (16 : Int) < (s2.size : Int) := by omega
  have f3 : ¬ (16 : Int) < (s3.size : Int) := by omega
  obtain ⟨p1, a1, o1, c1, rfl, -, -, -, -⟩ := h
  generalize L.length = n1 at *
  clear z1 z2 z3 l1 l2 l3
  unfold ResE at *
  unfold BPost at *
  unfold Ret at *
  go_enter Tryz.func7, Tryz.ntmps7
  go_upto_region 1 with (fail)
  rw [← hw0]
  clear hw0
  go_wp2_with fail
  refine (HS.out _ E.out).mono ?_
  rintro e x1 ⟨rfl, b1⟩
  have I1 := Lib.hid (I1.out.next b1)
  have I2 := Lib.hid (I2.out.next b1)
  have I3 := Lib.hid (I3.out.next b1)
  have E := Lib.hid (chain E.out b1)
  clear b1
  obtain ⟨k0, k1, _⟩ := I1.out
  obtain ⟨k2, k3, _⟩ := I2.out
  obtain ⟨k4, k5, _⟩ := I3.out
  go_wp2_with fail
  clear k0 k1 k2 k3 k4 k5
  refine (HA.out _ E.out).mono ?_
  rintro e x2 ⟨rfl, b2⟩
  have I1 := Lib.hid (I1.out.next b2)
  have I2 := Lib.hid (I2.out.next b2)
  have I3 := Lib.hid (I3.out.next b2)
  have E := Lib.hid (chain E.out b2)
  clear b2
  obtain ⟨k0, k1, _⟩ := I1.out
  obtain ⟨k2, k3, _⟩ := I2.out
  obtain ⟨k4, k5, _⟩ := I3.out
  go_wp2_with fail
  clear k0 k1 k2 k3 k4 k5
  refine (HV.out _ E.out).mono ?_
  rintro e x3 ⟨rfl, b3⟩
  have I1 := Lib.hid (I1.out.next b3)
  have I2 := Lib.hid (I2.out.next b3)
  have I3 := Lib.hid (I3.out.next b3)
  have E := Lib.hid (chain E.out b3)
  clear b3
  obtain ⟨k0, k1, _⟩ := I1.out
  obtain ⟨k2, k3, _⟩ := I2.out
  obtain ⟨k4, k5, _⟩ := I3.out
  go_wp2_with fail
  clear k0 k1 k2 k3 k4 k5
  refine (HW1.out _).mono ?_
  rintro e x4 ⟨rfl, b4⟩
  have I1 := Lib.hid (I1.out.next b4)
  have I2 := Lib.hid (I2.out.next b4)
  have I3 := Lib.hid (I3.out.next b4)
  have E := Lib.hid (chain E.out b4)
  clear b4
  obtain ⟨k0, k1, _⟩ := I1.out
  obtain ⟨k2, k3, _⟩ := I2.out
  obtain ⟨k4, k5, _⟩ := I3.out
  go_wp2_with fail
  clear k0 k1 k2 k3 k4 k5
  refine (HW2.out _).mono ?_
  rintro e x5 ⟨rfl, b5⟩
  have I1 := Lib.hid (I1.out.next b5)
  have I2 := Lib.hid (I2.out.next b5)
  have I3 := Lib.hid (I3.out.next b5)
  have E := Lib.hid (chain E.out b5)
  clear b5
  obtain ⟨k0, k1, _⟩ := I1.out
  obtain ⟨k2, k3, _⟩ := I2.out
  obtain ⟨k4, k5, _⟩ := I3.out
  go_wp2_with fail
  clear k0 k1 k2 k3 k4 k5
  refine (HK.out _).mono ?_
  rintro e x6 ⟨rfl, b6⟩
  have I1 := Lib.hid (I1.out.next b6)
  have I2 := Lib.hid (I2.out.next b6)
  have I3 := Lib.hid (I3.out.next b6)
  have E := Lib.hid (chain E.out b6)
  clear b6
  obtain ⟨k0, k1, _⟩ := I1.out
  obtain ⟨k2, k3, _⟩ := I2.out
  obtain ⟨k4, k5, _⟩ := I3.out
  go_wp2
  go_ret
  exact ⟨rfl, E.out⟩

set_option maxRecDepth 100000 in
set_option maxHeartbeats 8000000 in
theorem pco_bad3 (L : List (Bool × ByteArray)) (v : Value) (b1 b2 b3 : Bool) (s1 s2 s3 : ByteArray) (w : World) (h : Rw w v L) (z1 : s1.size ≤ 9223372036854775807) (z2 : s2.size ≤ 9223372036854775807) (z3 : s3.size ≤ 9223372036854775807)
    (HS : ∀ w', Below w.heap.size w w' → Calls Tryz.prog 11 #[.slice (some ⟨w'.heap.size, 0, none⟩) 1 1] (w'.alloc (.cells #[v] 23)) (BPost true w'))
    (l1 : s1.size ≤ 16)
    (l2 : s2.size ≤ 16)
    (l3 : s3.size ≤ 16)
    (HA : ∀ w', Below w.heap.size w w' → Calls Tryz.prog 51 #[v, .agg #[.bool b1, .string s1], .agg #[.bool b2, .string s2], .agg #[.bool b3, .string s3]] w' (ResE 2 w'))
    (HV : ∀ w', Below w.heap.size w w' → Calls Tryz.prog 19 #[.slice (some ⟨w'.heap.size, 0, none⟩) 1 1] (w'.alloc (.cells #[v] 23)) (BPost true w'))
    (HW1 : ∀ w', Calls Tryz.prog 35 #[.agg #[.bool b1, .string s1]] w' (BPost true w'))
    (HW2 : ∀ w', Calls Tryz.prog 35 #[.agg #[.bool b2, .string s2]] w' (BPost true w'))
    (HW3 : ∀ w', Calls Tryz.prog 35 #[.agg #[.bool b3, .string s3]] w' (BPost false w')) :
    Calls Tryz.prog 7 #[v, .agg #[.bool b1, .string s1], .agg #[.bool b2, .string s2], .agg #[.bool b3, .string s3]] w (Ret (.bool true) w) := by
  obtain ⟨w0, hw0⟩ : ∃ w0 : World, w0 = ((w.alloc (.cells #[.bool b1, .string s1] 44)).alloc (.cells #[.bool b2, .string s2] 44)).alloc (.cells #[.bool b3, .string s3] 44) := ⟨_, rfl⟩
  have I1 : Hid (ZC (.bool b1) (.string s1) w0 w.heap.size) := by rw [hw0]; exact ((ZC.new rfl).alloc _).alloc _
  have I2 : Hid (ZC (.bool b2) (.string s2) w0 (w.heap.size + 1)) := by rw [hw0]; exact (ZC.new (by simp)).alloc _
  have I3 : Hid (ZC (.bool b3) (.string s3) w0 (w.heap.size + 1 + 1)) := by rw [hw0]; exact ZC.new (by simp)
  have E : Hid (Below w.heap.size w w0) := by rw [hw0]; exact (((Below.refl _ _).alloc (Nat.le_refl _) _).alloc (by simp) _).alloc (by simp; omega) _
  have HK := Lib.hid known_true
  have HS := Lib.hid HS
  have HA := Lib.hid HA
  have HV := Lib.hid HV
  have HW1 := Lib.hid HW1
  have HW2 := Lib.hid HW2
  have HW3 := Lib.hid HW3
  have f1 : ¬ (16 : Int) < (s1.size : Int) := by omega
  have f2 : ¬ (16 : Int) < (s2.size : Int) := by omega
  have f3 : ¬ (16 : Int) < (s3.size : Int) := by omega
  obtain ⟨p1, a1, o1, c1, rfl, -, -, -, -⟩ := h
  generalize L.length = n1 at *
  clear z1 z2 z3 l1 l2 l3
  unfold ResE at *
  unfold BPost at *
  unfold Ret at *
  go_enter Tryz.func7, Tryz.ntmps7
  go_upto_region 1 with (fail)
  rw [← hw0]
  clear hw0
  go_wp2_with fail
  refine (HS.out _ E.out).mono ?_
  rintro e x1 ⟨rfl, b1⟩
  have I1 := Lib.hid (I1.out.next b1)
  have I2 := Lib.hid (I2.out.next b1)
  have I3 := Lib.hid (I3.out.next b1)
  have E := Lib.hid (chain E.out b1)
  clear b1
  obtain ⟨k0, k1, _⟩ := I1.out
  obtain ⟨k2, k3, _⟩ := I2.out
  obtain ⟨k4, k5, _⟩ := I3.out
  go_wp2_with fail
  clear k0 k1 k2 k3 k4 k5
  refine (HA.out _ E.out).mono ?_
  rintro e x2 ⟨rfl, b2⟩
  have I1 := Lib.hid (I1.out.next b2)
  have I2 := Lib.hid (I2.out.next b2)
  have I3 := Lib.hid (I3.out.next b2)
  have E := Lib.hid (chain E.out b2)
  clear b2
  obtain ⟨k0, k1, _⟩ := I1.out
  obtain ⟨k2, k3, _⟩ := I2.out
  obtain ⟨k4, k5, _⟩ := I3.out
  go_wp2_with fail
  clear k0 k1 k2 k3 k4 k5
  refine (HV.out _ E.out).mono ?_
  rintro e x3 ⟨rfl, b3⟩
  have I1 := Lib.hid (I1.out.next b3)
  have I2 := Lib.hid (I2.out.next b3)
  have I3 := Lib.hid (I3.out.next b3)
  have E := Lib.hid (chain E.out b3)
  clear b3
  obtain ⟨k0, k1, _⟩ := I1.out
  obtain ⟨k2, k3, _⟩ := I2.out
  obtain ⟨k4, k5, _⟩ := I3.out
  go_wp2_with fail
  clear k0 k1 k2 k3 k4 k5
  refine (HW1.out _).mono ?_
  rintro e x4 ⟨rfl, b4⟩
  have I1 := Lib.hid (I1.out.next b4)
  have I2 := Lib.hid (I2.out.next b4)
  have I3 := Lib.hid (I3.out.next b4)
  have E := Lib.hid (chain E.out b4)
  clear b4
  obtain ⟨k0, k1, _⟩ := I1.out
  obtain ⟨k2, k3, _⟩ := I2.out
  obtain ⟨k4, k5, _⟩ := I3.out
  go_wp2_with fail
  clear k0 k1 k2 k3 k4 k5
  refine (HW2.out _).mono ?_
  rintro e x5 ⟨rfl, b5⟩
  have I1 := Lib.hid (I1.out.next b5)
  have I2 := Lib.hid (I2.out.next b5)
  have I3 := Lib.hid (I3.out.next b5)
  have E := Lib.hid (chain E.out b5)
  clear b5
  obtain ⟨k0, k1, _⟩ := I1.out
  obtain ⟨k2, k3, _⟩ := I2.out
  obtain ⟨k4, k5, _⟩ := I3.out
  go_wp2_with fail
  clear k0 k1 k2 k3 k4 k5
  refine (HW3.out _).mono ?_
  rintro e x6 ⟨rfl, b6⟩
  have I1 := Lib.hid (I1.out.next b6)
  have I2 := Lib.hid (I2.out.next b6)
  have I3 := Lib.hid (I3.out.next b6)
  have E := Lib.hid (chain E.out b6)
  clear b6
  obtain ⟨k0, k1, _⟩ := I1.out
  obtain ⟨k2, k3, _⟩ := I2.out
  obtain ⟨k4, k5, _⟩ := I3.out
  go_wp2_with fail
  clear k0 k1 k2 k3 k4 k5
  refine (HK.out _).mono ?_
  rintro e x7 ⟨rfl, b7⟩
  have I1 := Lib.hid (I1.out.next b7)
  have I2 := Lib.hid (I2.out.next b7)
  have I3 := Lib.hid (I3.out.next b7)
  have E := Lib.hid (chain E.out b7)
  clear b7
  obtain ⟨k0, k1, _⟩ := I1.out
  obtain ⟨k2, k3, _⟩ := I2.out
  obtain ⟨k4, k5, _⟩ := I3.out
  go_wp2
  go_ret
  exact ⟨rfl, E.out⟩

set_option maxRecDepth 100000 in
set_option maxHeartbeats 8000000 in
theorem pco_neg (L : List (Bool × ByteArray)) (a b d g : Int) (v : Value) (b1 b2 b3 : Bool) (s1 s2 s3 : ByteArray) (w : World) (h : Rw w v L) (z1 : s1.size ≤ 9223372036854775807) (z2 : s2.size ≤ 9223372036854775807) (z3 : s3.size ≤ 9223372036854775807)
    (HS : ∀ w', Below w.heap.size w w' → Calls Tryz.prog 11 #[.slice (some ⟨w'.heap.size, 0, none⟩) 1 1] (w'.alloc (.cells #[v] 23)) (BPost true w'))
    (l1 : s1.size ≤ 16)
    (l2 : s2.size ≤ 16)
    (l3 : s3.size ≤ 16)
    (HA : ∀ w', Below w.heap.size w w' → Calls Tryz.prog 51 #[v, .agg #[.bool b1, .string s1], .agg #[.bool b2, .string s2], .agg #[.bool b3, .string s3]] w' (ResE 3 w'))
    (HV : ∀ w', Below w.heap.size w w' → Calls Tryz.prog 19 #[.slice (some ⟨w'.heap.size, 0, none⟩) 1 1] (w'.alloc (.cells #[v] 23)) (BPost true w'))
    (HW1 : ∀ w', Calls Tryz.prog 35 #[.agg #[.bool b1, .string s1]] w' (BPost true w'))
    (HW2 : ∀ w', Calls Tryz.prog 35 #[.agg #[.bool b2, .string s2]] w' (BPost true w'))
    (HW3 : ∀ w', Calls Tryz.prog 35 #[.agg #[.bool b3, .string s3]] w' (BPost true w'))
    (HG3 : ∀ w', Calls Tryz.prog 37 #[.agg #[.bool b3, .string s3]] w' (IntPost d w'))
    (HSg : ∀ u w', Rz w' u d → Calls Tryz.prog 50 #[iV d u] w' (SignPost g w'))
    (hg : g ≤ 0) :
    Calls Tryz.prog 7 #[v, .agg #[.bool b1, .string s1], .agg #[.bool b2, .string s2], .agg #[.bool b3, .string s3]] w (Ret (.bool true) w) := by
  obtain ⟨w0, hw0⟩ : ∃ w0 : World, w0 = ((w.alloc (.cells #[.bool b1, .string s1] 44)).alloc (.cells #[.bool b2, .string s2] 44)).alloc (.cells #[.bool b3, .string s3] 44) := ⟨_, rfl⟩
  have I1 : Hid (ZC (.bool b1) (.string s1) w0 w.heap.size) := by rw [hw0]; exact ((ZC.new rfl).alloc _).alloc _
  have I2 : Hid (ZC (.bool b2) (.string s2) w0 (w.heap.size + 1)) := by rw [hw0]; exact (ZC.new (by simp)).alloc _
  have I3 : Hid (ZC (.bool b3) (.string s3) w0 (w.heap.size + 1 + 1)) := by rw [hw0]; exact ZC.new (by simp)
  have E : Hid (Below w.heap.size w w0) := by rw [hw0]; exact (((Below.refl _ _).alloc (Nat.le_refl _) _).alloc (by simp) _).alloc (by simp; omega) _
  have HK := Lib.hid known_true
  have HS := Lib.hid HS
  have HA := Lib.hid HA
  have HV := Lib.hid HV
  have HW1 := Lib.hid HW1
  have HW2 := Lib.hid HW2
  have HW3 := Lib.hid HW3
  have HG3 := Lib.hid HG3
  have HSg := Lib.hid HSg
  have f1 : ¬ (16 : Int) < (s1.size : Int) := by omega
  have f2 : ¬ (16 : Int) < (s2.size : Int) := by omega
  have f3 : ¬ (16 : Int) < (s3.size : Int) := by omega
  have fg : (g ≤ 0) := hg
  obtain ⟨p1, a1, o1, c1, rfl, -, -, -, -⟩ := h
  generalize L.length = n1 at *
  clear z1 z2 z3 l1 l2 l3 hg
  unfold ResE at *
  unfold IntPost iV SignPost at *
  unfold BPost at *
  unfold Ret at *
  go_enter Tryz.func7, Tryz.ntmps7
  go_upto_region 1 with (fail)
  rw [← hw0]
  clear hw0
  go_wp2_with fail
  refine (HS.out _ E.out).mono ?_
  rintro e x1 ⟨rfl, b1⟩
  have I1 := Lib.hid (I1.out.next b1)
  have I2 := Lib.hid (I2.out.next b1)
  have I3 := Lib.hid (I3.out.next b1)
  have E := Lib.hid (chain E.out b1)
  clear b1
  obtain ⟨k0, k1, _⟩ := I1.out
  obtain ⟨k2, k3, _⟩ := I2.out
  obtain ⟨k4, k5, _⟩ := I3.out
  go_wp2_with fail
  clear k0 k1 k2 k3 k4 k5
  refine (HA.out _ E.out).mono ?_
  rintro e x2 ⟨rfl, b2⟩
  have I1 := Lib.hid (I1.out.next b2)
  have I2 := Lib.hid (I2.out.next b2)
  have I3 := Lib.hid (I3.out.next b2)
  have E := Lib.hid (chain E.out b2)
  clear b2
  obtain ⟨k0, k1, _⟩ := I1.out
  obtain ⟨k2, k3, _⟩ := I2.out
  obtain ⟨k4, k5, _⟩ := I3.out
  go_wp2_with fail
  clear k0 k1 k2 k3 k4 k5
  refine (HV.out _ E.out).mono ?_
  rintro e x3 ⟨rfl, b3⟩
  have I1 := Lib.hid (I1.out.next b3)
  have I2 := Lib.hid (I2.out.next b3)
  have I3 := Lib.hid (I3.out.next b3)
  have E := Lib.hid (chain E.out b3)
  clear b3
  obtain ⟨k0, k1, _⟩ := I1.out
  obtain ⟨k2, k3, _⟩ := I2.out
  obtain ⟨k4, k5, _⟩ := I3.out
  go_wp2_with fail
  clear k0 k1 k2 k3 k4 k5
  refine (HW1.out _).mono ?_
  rintro e x4 ⟨rfl, b4⟩
  have I1 := Lib.hid (I1.out.next b4)
  have I2 := Lib.hid (I2.out.next b4)
  have I3 := Lib.hid (I3.out.next b4)
  have E := Lib.hid (chain E.out b4)
  clear b4
  obtain ⟨k0, k1, _⟩ := I1.out
  obtain ⟨k2, k3, _⟩ := I2.out
  obtain ⟨k4, k5, _⟩ := I3.out
  go_wp2_with fail
  clear k0 k1 k2 k3 k4 k5
  refine (HW2.out _).mono ?_
  rintro e x5 ⟨rfl, b5⟩
  have I1 := Lib.hid (I1.out.next b5)
  have I2 := Lib.hid (I2.out.next b5)
  have I3 := Lib.hid (I3.out.next b5)
  have E := Lib.hid (chain E.out b5)
  clear b5
  obtain ⟨k0, k1, _⟩ := I1.out
  obtain ⟨k2, k3, _⟩ := I2.out
  obtain ⟨k4, k5, _⟩ := I3.out
  go_wp2_with fail
  clear k0 k1 k2 k3 k4 k5
  refine (HW3.out _).mono ?_
  rintro e x6 ⟨rfl, b6⟩
  have I1 := Lib.hid (I1.out.next b6)
  have I2 := Lib.hid (I2.out.next b6)
  have I3 := Lib.hid (I3.out.next b6)
  have E := Lib.hid (chain E.out b6)
  clear b6
  obtain ⟨k0, k1, _⟩ := I1.out
  obtain ⟨k2, k3, _⟩ := I2.out
  obtain ⟨k4, k5, _⟩ := I3.out
  go_wp2_with fail
  clear k0 k1 k2 k3 k4 k5
  refine (HG3.out _).mono ?_
  rintro e x7 ⟨y7, rfl, r7, b7⟩
  have I1 := Lib.hid (I1.out.next b7)
  have I2 := Lib.hid (I2.out.next b7)
  have I3 := Lib.hid (I3.out.next b7)
  have E := Lib.hid (chain E.out b7)
  have RG := Lib.hid r7
  clear r7
  clear b7
  obtain ⟨k0, k1, _⟩ := I1.out
  obtain ⟨k2, k3, _⟩ := I2.out
  obtain ⟨k4, k5, _⟩ := I3.out
  go_wp2_with fail
  clear k0 k1 k2 k3 k4 k5
  refine (HSg.out _ _ RG.out).mono ?_
  rintro e x8 ⟨rfl, b8⟩
  have I1 := Lib.hid (I1.out.next b8)
  have I2 := Lib.hid (I2.out.next b8)
  have I3 := Lib.hid (I3.out.next b8)
  have RG := Lib.hid (RG.out.below b8)
  have E := Lib.hid (chain E.out b8)
  clear b8
  obtain ⟨k0, k1, _⟩ := I1.out
  obtain ⟨k2, k3, _⟩ := I2.out
  obtain ⟨k4, k5, _⟩ := I3.out
  clear RG
  go_wp2_with fail
  clear k0 k1 k2 k3 k4 k5
  refine (HK.out _).mono ?_
  rintro e x9 ⟨rfl, b9⟩
  have I1 := Lib.hid (I1.out.next b9)
  have I2 := Lib.hid (I2.out.next b9)
  have I3 := Lib.hid (I3.out.next b9)
  have E := Lib.hid (chain E.out b9)
  clear b9
  obtain ⟨k0, k1, _⟩ := I1.out
  obtain ⟨k2, k3, _⟩ := I2.out
  obtain ⟨k4, k5, _⟩ := I3.out
  go_wp2
  go_ret
  exact ⟨rfl, E.out⟩
end Go.Proofs.YtepddegphdlbeaaGreat
