/- PolyValid gives true for all polynomials and lists of ints (P2.1), and leaves its arguments as they were. No condition. -/
import Derived.Test.YtepddegphdlbeaaGreatE14
import Derived.Test.YtepddegphdlbeaaGreatE11
import Derived.Test.YtepddegphdlbeaaGreatE13
import Derived.Test.YtepddegphdlbeaaGreatE12
import Derived.Test.YtepddegphdlbeaaGreatE8
import Derived.Test.YtepddegphdlbeaaGreatE10
import Derived.Test.YtepddegphdlbeaaGreatE0
import Derived.ProofKit
import Derived.OpenShut
import Derived.ShutString
import Derived.ChangeOld
import Derived.Below
import Derived.Lib.SmallJoins
import Derived.Test.YtepddegphdlbeaaGreatE7
import Derived.Deep.SlicePairs
import Derived.ChangeSlices
import Derived.Carry
import Derived.Test.YtepddegphdlbeaaGreatRows

/- The law's function known gives true. -/
namespace Go.Proofs.YtepddegphdlbeaaGreat
open Go.RowKit

set_option maxRecDepth 100000 in
set_option maxHeartbeats 8000000 in
theorem known_true (w : World) : Calls Tryz.prog 12 #[] w (Ret (.bool true) w) := by
  have H_ofp1p0m2p0 : Hid (∀ y : World, Calls Tryz.prog 22 #[.slice (some ⟨y.heap.size, 0, none⟩) 4 4] (y.alloc (.cells #[.int .i64 1, .int .i64 0, .int .i64 (-2), .int .i64 0] 3)) (ResP [1, 0, -2] y)) := fun y => k_of [1, 0, -2, 0] [1, 0, -2] (by rfl) (by rfl) y
  have H_ofp0p0 : Hid (∀ y : World, Calls Tryz.prog 22 #[.slice (some ⟨y.heap.size, 0, none⟩) 2 2] (y.alloc (.cells #[.int .i64 0, .int .i64 0] 3)) (ResP [] y)) := fun y => k_of [0, 0] [] (by rfl) (by rfl) y
  have H_pp1p1 : Hid (∀ y : World, Calls Tryz.prog 65 #[.slice (some ⟨y.heap.size, 0, none⟩) 2 2] (y.alloc (.cells #[.int .i64 1, .int .i64 1] 3)) (RpPost [1, 1] y)) := fun y => k_p [1, 1] [1, 1] (by rfl) (by rfl) y
  have H_pm1p1 : Hid (∀ y : World, Calls Tryz.prog 65 #[.slice (some ⟨y.heap.size, 0, none⟩) 2 2] (y.alloc (.cells #[.int .i64 (-1), .int .i64 1] 3)) (RpPost [-1, 1] y)) := fun y => k_p [-1, 1] [-1, 1] (by rfl) (by rfl) y
  have H_pp1p2 : Hid (∀ y : World, Calls Tryz.prog 65 #[.slice (some ⟨y.heap.size, 0, none⟩) 2 2] (y.alloc (.cells #[.int .i64 1, .int .i64 2] 3)) (RpPost [1, 2] y)) := fun y => k_p [1, 2] [1, 2] (by rfl) (by rfl) y
  have H_pp3p2 : Hid (∀ y : World, Calls Tryz.prog 65 #[.slice (some ⟨y.heap.size, 0, none⟩) 2 2] (y.alloc (.cells #[.int .i64 3, .int .i64 2] 3)) (RpPost [3, 2] y)) := fun y => k_p [3, 2] [3, 2] (by rfl) (by rfl) y
  have H_pp5p4p3 : Hid (∀ y : World, Calls Tryz.prog 65 #[.slice (some ⟨y.heap.size, 0, none⟩) 3 3] (y.alloc (.cells #[.int .i64 5, .int .i64 4, .int .i64 3] 3)) (RpPost [5, 4, 3] y)) := fun y => k_p [5, 4, 3] [5, 4, 3] (by rfl) (by rfl) y
  have H_pp1p0p2 : Hid (∀ y : World, Calls Tryz.prog 65 #[.slice (some ⟨y.heap.size, 0, none⟩) 3 3] (y.alloc (.cells #[.int .i64 1, .int .i64 0, .int .i64 2] 3)) (RpPost [1, 0, 2] y)) := fun y => k_p [1, 0, 2] [1, 0, 2] (by rfl) (by rfl) y
  have H_pm2p0p1 : Hid (∀ y : World, Calls Tryz.prog 65 #[.slice (some ⟨y.heap.size, 0, none⟩) 3 3] (y.alloc (.cells #[.int .i64 (-2), .int .i64 0, .int .i64 1] 3)) (RpPost [-2, 0, 1] y)) := fun y => k_p [-2, 0, 1] [-2, 0, 1] (by rfl) (by rfl) y
  have H_pp6m4 : Hid (∀ y : World, Calls Tryz.prog 65 #[.slice (some ⟨y.heap.size, 0, none⟩) 2 2] (y.alloc (.cells #[.int .i64 6, .int .i64 (-4)] 3)) (RpPost [6, -4] y)) := fun y => k_p [6, -4] [6, -4] (by rfl) (by rfl) y
  have H_pm6m4 : Hid (∀ y : World, Calls Tryz.prog 65 #[.slice (some ⟨y.heap.size, 0, none⟩) 2 2] (y.alloc (.cells #[.int .i64 (-6), .int .i64 (-4)] 3)) (RpPost [-6, -4] y)) := fun y => k_p [-6, -4] [-6, -4] (by rfl) (by rfl) y
  have H_pp1p0p0p1 : Hid (∀ y : World, Calls Tryz.prog 65 #[.slice (some ⟨y.heap.size, 0, none⟩) 4 4] (y.alloc (.cells #[.int .i64 1, .int .i64 0, .int .i64 0, .int .i64 1] 3)) (RpPost [1, 0, 0, 1] y)) := fun y => k_p [1, 0, 0, 1] [1, 0, 0, 1] (by rfl) (by rfl) y
  have H_pm1p0p1 : Hid (∀ y : World, Calls Tryz.prog 65 #[.slice (some ⟨y.heap.size, 0, none⟩) 3 3] (y.alloc (.cells #[.int .i64 (-1), .int .i64 0, .int .i64 1] 3)) (RpPost [-1, 0, 1] y)) := fun y => k_p [-1, 0, 1] [-1, 0, 1] (by rfl) (by rfl) y
  have H_pp1p0p1 : Hid (∀ y : World, Calls Tryz.prog 65 #[.slice (some ⟨y.heap.size, 0, none⟩) 3 3] (y.alloc (.cells #[.int .i64 1, .int .i64 0, .int .i64 1] 3)) (RpPost [1, 0, 1] y)) := fun y => k_p [1, 0, 1] [1, 0, 1] (by rfl) (by rfl) y
  have H_pp2p4p2 : Hid (∀ y : World, Calls Tryz.prog 65 #[.slice (some ⟨y.heap.size, 0, none⟩) 3 3] (y.alloc (.cells #[.int .i64 2, .int .i64 4, .int .i64 2] 3)) (RpPost [2, 4, 2] y)) := fun y => k_p [2, 4, 2] [2, 4, 2] (by rfl) (by rfl) y
  have H_pp2 : Hid (∀ y : World, Calls Tryz.prog 65 #[.slice (some ⟨y.heap.size, 0, none⟩) 1 1] (y.alloc (.cells #[.int .i64 2] 3)) (RpPost [2] y)) := fun y => k_p [2] [2] (by rfl) (by rfl) y
  have H_pp4 : Hid (∀ y : World, Calls Tryz.prog 65 #[.slice (some ⟨y.heap.size, 0, none⟩) 1 1] (y.alloc (.cells #[.int .i64 4] 3)) (RpPost [4] y)) := fun y => k_p [4] [4] (by rfl) (by rfl) y
  have H_isp1p0m2 : Hid (∀ (y : World) (v : Value), Rp y v [1, 0, -2] → Calls Tryz.prog 64 #[v, .int .i64 0, .slice (some ⟨y.heap.size, 0, none⟩) 3 3] (y.alloc (.cells #[.int .i64 1, .int .i64 0, .int .i64 (-2)] 3)) (BPost true y)) := fun y v h => k_is [1, 0, -2] [1, 0, -2] (by rfl) (by rfl) y v h
  have H_ism1p0p1 : Hid (∀ (y : World) (v : Value), Rp y v [-1, 0, 1] → Calls Tryz.prog 64 #[v, .int .i64 0, .slice (some ⟨y.heap.size, 0, none⟩) 3 3] (y.alloc (.cells #[.int .i64 (-1), .int .i64 0, .int .i64 1] 3)) (BPost true y)) := fun y v h => k_is [-1, 0, 1] [-1, 0, 1] (by rfl) (by rfl) y v h
  have H_ism2 : Hid (∀ (y : World) (v : Value), Rp y v [-2] → Calls Tryz.prog 64 #[v, .int .i64 0, .slice (some ⟨y.heap.size, 0, none⟩) 1 1] (y.alloc (.cells #[.int .i64 (-2)] 3)) (BPost true y)) := fun y v h => k_is [-2] [-2] (by rfl) (by rfl) y v h
  have H_isp4p6 : Hid (∀ (y : World) (v : Value), Rp y v [4, 6] → Calls Tryz.prog 64 #[v, .int .i64 0, .slice (some ⟨y.heap.size, 0, none⟩) 2 2] (y.alloc (.cells #[.int .i64 4, .int .i64 6] 3)) (BPost true y)) := fun y v h => k_is [4, 6] [4, 6] (by rfl) (by rfl) y v h
  have H_isp11p4p2 : Hid (∀ (y : World) (v : Value), Rp y v [11, 4, 2] → Calls Tryz.prog 64 #[v, .int .i64 0, .slice (some ⟨y.heap.size, 0, none⟩) 3 3] (y.alloc (.cells #[.int .i64 11, .int .i64 4, .int .i64 2] 3)) (BPost true y)) := fun y v h => k_is [11, 4, 2] [11, 4, 2] (by rfl) (by rfl) y v h
  have H_ism3m2 : Hid (∀ (y : World) (v : Value), Rp y v [-3, -2] → Calls Tryz.prog 64 #[v, .int .i64 0, .slice (some ⟨y.heap.size, 0, none⟩) 2 2] (y.alloc (.cells #[.int .i64 (-3), .int .i64 (-2)] 3)) (BPost true y)) := fun y v h => k_is [-3, -2] [-3, -2] (by rfl) (by rfl) y v h
  have H_isp7 : Hid (∀ (y : World) (v : Value), Rp y v [7] → Calls Tryz.prog 64 #[v, .int .i64 0, .slice (some ⟨y.heap.size, 0, none⟩) 1 1] (y.alloc (.cells #[.int .i64 7] 3)) (BPost true y)) := fun y v h => k_is [7] [7] (by rfl) (by rfl) y v h
  have H_ism1p1 : Hid (∀ (y : World) (v : Value), Rp y v [-1, 1] → Calls Tryz.prog 64 #[v, .int .i64 0, .slice (some ⟨y.heap.size, 0, none⟩) 2 2] (y.alloc (.cells #[.int .i64 (-1), .int .i64 1] 3)) (BPost true y)) := fun y v h => k_is [-1, 1] [-1, 1] (by rfl) (by rfl) y v h
  have H_isp1p1 : Hid (∀ (y : World) (v : Value), Rp y v [1, 1] → Calls Tryz.prog 64 #[v, .int .i64 0, .slice (some ⟨y.heap.size, 0, none⟩) 2 2] (y.alloc (.cells #[.int .i64 1, .int .i64 1] 3)) (BPost true y)) := fun y v h => k_is [1, 1] [1, 1] (by rfl) (by rfl) y v h
  have H_isp1 : Hid (∀ (y : World) (v : Value), Rp y v [1] → Calls Tryz.prog 64 #[v, .int .i64 0, .slice (some ⟨y.heap.size, 0, none⟩) 1 1] (y.alloc (.cells #[.int .i64 1] 3)) (BPost true y)) := fun y v h => k_is [1] [1] (by rfl) (by rfl) y v h
  have H_deg1 := Lib.hid (fun y v h => k_deg [1, 0, -2] (vp2 _) y v h 2 (by rfl))
  have H_deg2 := Lib.hid (fun y v h => k_deg [] (vp2 _) y v h (-1) (by rfl))
  have H_bits := Lib.hid (fun y v h => k_bits [1, 0, -2] (vp2 _) y v h 2 (by rfl))
  have H_mul := Lib.hid k_mul
  have H_sub := Lib.hid k_sub
  have H_der := Lib.hid k_der
  have H_eval := Lib.hid k_eval
  have H_value := Lib.hid k_value
  have H_signat := Lib.hid k_signat
  have H_comp := Lib.hid k_comp
  have H_cont := Lib.hid k_cont
  have H_prim := Lib.hid k_prim
  have H_rest := Lib.hid k_rest
  have H_div1 := Lib.hid k_div1
  have H_div2 := Lib.hid k_div2
  have H_gcd1 := Lib.hid kp_gcd1
  have H_gcd2 := Lib.hid kp_gcd2
  have H_gcd3 := Lib.hid kp_gcd3
  have H_w1 := Lib.hid (fun w => w2_any 1 w (by decide) (by decide))
  have H_w3 := Lib.hid (fun w => w2_any 3 w (by decide) (by decide))
  have H_w11 := Lib.hid (fun w => w2_any 11 w (by decide) (by decide))
  have H_w2 := Lib.hid (fun w => w2_any 2 w (by decide) (by decide))
  have H_q1_3 := Lib.hid (fun w => q2_any 1 3 w (by decide) (by decide) (by decide) (by decide))
  have H_q7_5 := Lib.hid (fun w => q2_any 7 5 w (by decide) (by decide) (by decide) (by decide))
  have H_q11_9 := Lib.hid (fun w => q2_any 11 9 w (by decide) (by decide) (by decide) (by decide))
  unfold ResP ResE Ret RpPost BPost ZPost QZPost Z R at *
  unfold rat at *
  generalize zb 1 = b1 at *
  generalize zs 1 = s1 at *
  generalize zb 3 = b3 at *
  generalize zs 3 = s3 at *
  generalize zb 7 = b7 at *
  generalize zs 7 = s7 at *
  generalize zb 5 = b5 at *
  generalize zs 5 = s5 at *
  generalize zb 11 = b11 at *
  generalize zs 11 = s11 at *
  generalize zb 9 = b9 at *
  generalize zs 9 = s9 at *
  generalize zb 2 = b2 at *
  generalize zs 2 = s2 at *
  go_enter Tryz.func12, Tryz.ntmps12
  have TOT : Hid (Below w.heap.size w w) := Below.refl _ _
  go_wp2_with fail
  refine (H_ofp1p0m2p0.out _).mono ?_
  rintro e x1 ⟨v1, rfl, r1, b1⟩
  have E := Lib.hid b1
  have Ra := Lib.hid r1
  clear r1
  clear b1
  have TOT := Lib.hid (chain TOT.out E.out)
  clear E
  go_wp2_with fail
  refine (H_deg1.out _ _ Ra.out).mono ?_
  rintro e x2 ⟨rfl, b2⟩
  have E := Lib.hid b2
  clear b2
  have TOT := Lib.hid (chain TOT.out E.out)
  have Ra := Lib.hid (Ra.out.below E.out)
  clear E
  go_wp2_with fail
  refine (H_bits.out _ _ Ra.out).mono ?_
  rintro e x3 ⟨rfl, b3⟩
  have E := Lib.hid b3
  clear b3
  have TOT := Lib.hid (chain TOT.out E.out)
  have Ra := Lib.hid (Ra.out.below E.out)
  clear E
  go_wp2_with fail
  refine (H_ofp0p0.out _).mono ?_
  rintro e x4 ⟨v4, rfl, r4, b4⟩
  have E := Lib.hid b4
  have Rz := Lib.hid r4
  clear r4
  clear b4
  have TOT := Lib.hid (chain TOT.out E.out)
  have Ra := Lib.hid (Ra.out.below E.out)
  clear E
  go_wp2_with fail
  refine (H_deg2.out _ _ Rz.out).mono ?_
  rintro e x5 ⟨rfl, b5⟩
  have E := Lib.hid b5
  clear b5
  have TOT := Lib.hid (chain TOT.out E.out)
  have Ra := Lib.hid (Ra.out.below E.out)
  have Rz := Lib.hid (Rz.out.below E.out)
  clear E
  obtain ⟨z1, z2, z3, z4, hz, -, -, -, -⟩ := Rp.open_ Rz.out
  subst hz
  simp only [List.length_nil] at Rz ⊢
  go_wp2_with fail
  refine (H_isp1p0m2.out _ _ Ra.out).mono ?_
  rintro e x6 ⟨rfl, b6⟩
  have E := Lib.hid b6
  clear b6
  have TOT := Lib.hid (chain TOT.out E.out)
  have Ra := Lib.hid (Ra.out.below E.out)
  have Rz := Lib.hid (Rz.out.below E.out)
  clear E
  clear Ra
  clear Rz
  go_wp2_with fail
  refine (H_pp1p1.out _).mono ?_
  rintro e x7 ⟨v7, rfl, r7, b7⟩
  have E := Lib.hid b7
  have Rl1 := Lib.hid r7
  clear r7
  clear b7
  go_wp2_with fail
  refine (H_pm1p1.out _).mono ?_
  rintro e x8 ⟨v8, rfl, r8, b8⟩
  have Rl1 := Lib.hid (Rl1.out.below b8)
  have E := Lib.hid (chain E.out b8)
  have Rl2 := Lib.hid r8
  clear r8
  clear b8
  go_wp2_with fail
  refine (H_mul.out _ _ _ Rl1.out Rl2.out).mono ?_
  rintro e x9 ⟨v9, rfl, r9, b9⟩
  have Rl1 := Lib.hid (Rl1.out.below b9)
  have Rl2 := Lib.hid (Rl2.out.below b9)
  have E := Lib.hid (chain E.out b9)
  have Rm := Lib.hid r9
  clear r9
  clear b9
  have TOT := Lib.hid (chain TOT.out E.out)
  clear Rl1
  clear Rl2
  clear E
  go_wp2_with fail
  refine (H_pp1p2.out _).mono ?_
  rintro e x10 ⟨v10, rfl, r10, b10⟩
  have E := Lib.hid b10
  have Rl1 := Lib.hid r10
  clear r10
  clear b10
  go_wp2_with fail
  refine (H_pp3p2.out _).mono ?_
  rintro e x11 ⟨v11, rfl, r11, b11⟩
  have Rl1 := Lib.hid (Rl1.out.below b11)
  have E := Lib.hid (chain E.out b11)
  have Rl2 := Lib.hid r11
  clear r11
  clear b11
  go_wp2_with fail
  refine (H_sub.out _ _ _ Rl1.out Rl2.out).mono ?_
  rintro e x12 ⟨v12, rfl, r12, b12⟩
  have Rl1 := Lib.hid (Rl1.out.below b12)
  have Rl2 := Lib.hid (Rl2.out.below b12)
  have E := Lib.hid (chain E.out b12)
  have Rs := Lib.hid r12
  clear r12
  clear b12
  have TOT := Lib.hid (chain TOT.out E.out)
  have Rm := Lib.hid (Rm.out.below E.out)
  clear Rl1
  clear Rl2
  clear E
  go_wp2_with fail
  refine (H_pp5p4p3.out _).mono ?_
  rintro e x13 ⟨v13, rfl, r13, b13⟩
  have E := Lib.hid b13
  have Rl1 := Lib.hid r13
  clear r13
  clear b13
  go_wp2_with fail
  refine (H_der.out _ _ Rl1.out).mono ?_
  rintro e x14 ⟨v14, rfl, r14, b14⟩
  have Rl1 := Lib.hid (Rl1.out.below b14)
  have E := Lib.hid (chain E.out b14)
  have Rt := Lib.hid r14
  clear r14
  clear b14
  have TOT := Lib.hid (chain TOT.out E.out)
  have Rm := Lib.hid (Rm.out.below E.out)
  have Rs := Lib.hid (Rs.out.below E.out)
  clear Rl1
  clear E
  go_wp2_with fail
  refine (H_ism1p0p1.out _ _ Rm.out).mono ?_
  rintro e x15 ⟨rfl, b15⟩
  have E := Lib.hid b15
  clear b15
  go_wp2_with fail
  refine (H_ism2.out _ _ (Rs.out.below E.out)).mono ?_
  rintro e x16 ⟨rfl, b16⟩
  have E := Lib.hid (chain E.out b16)
  clear b16
  go_wp2_with fail
  refine (H_isp4p6.out _ _ (Rt.out.below E.out)).mono ?_
  rintro e x17 ⟨rfl, b17⟩
  have E := Lib.hid (chain E.out b17)
  clear b17
  have TOT := Lib.hid (chain TOT.out E.out)
  have Rm := Lib.hid (Rm.out.below E.out)
  have Rs := Lib.hid (Rs.out.below E.out)
  have Rt := Lib.hid (Rt.out.below E.out)
  clear E
  clear Rm
  clear Rs
  clear Rt
  go_wp2_with fail
  refine (H_pp1p0p2.out _).mono ?_
  rintro e x18 ⟨v18, rfl, r18, b18⟩
  have E := Lib.hid b18
  have Rl1 := Lib.hid r18
  clear r18
  clear b18
  go_wp2_with fail
  refine (H_q1_3.out _).mono ?_
  rintro e x19 ⟨rfl, b19⟩
  have Rl1 := Lib.hid (Rl1.out.below b19)
  have E := Lib.hid (chain E.out b19)
  clear b19
  go_wp2_with fail
  refine (H_eval.out _ _ Rl1.out).mono ?_
  rintro e x20 ⟨rfl, b20⟩
  have Rl1 := Lib.hid (Rl1.out.below b20)
  have E := Lib.hid (chain E.out b20)
  clear b20
  obtain ⟨u14, hu14⟩ : ∃ u : World, u = x20.alloc (.cells #[.bool b11, .string s11] 44) := ⟨_, rfl⟩
  have N14 : Hid (ZC (.bool b11) (.string s11) u14 x20.heap.size) := by rw [hu14]; exact ZC.new rfl
  have B9 : Hid (Below x20.heap.size x20 u14) := by rw [hu14]; exact below_one _ _
  have E := Lib.hid (chain E.out B9.out)
  clear B9
  have TOT := Lib.hid (chain TOT.out E.out)
  clear Rl1
  clear E
  have T14 := N14
  clear N14
  go_upto_region 14 with (fail)
  rw [← hu14]
  clear hu14
  go_wp2_with fail
  refine (H_pp1p0p2.out _).mono ?_
  rintro e x21 ⟨v21, rfl, r21, b21⟩
  have E := Lib.hid b21
  have Rl1 := Lib.hid r21
  clear r21
  clear b21
  go_wp2_with fail
  refine (H_q1_3.out _).mono ?_
  rintro e x22 ⟨rfl, b22⟩
  have Rl1 := Lib.hid (Rl1.out.below b22)
  have E := Lib.hid (chain E.out b22)
  clear b22
  go_wp2_with fail
  refine (H_value.out _ _ Rl1.out).mono ?_
  rintro e x23 ⟨rfl, b23⟩
  have Rl1 := Lib.hid (Rl1.out.below b23)
  have E := Lib.hid (chain E.out b23)
  clear b23
  obtain ⟨u15, hu15⟩ : ∃ u : World, u = x23.alloc (.cells #[.bool b11, .string s11, .bool b9, .string s9] 59) := ⟨_, rfl⟩
  have N15 : Hid (ZC4 (.bool b11) (.string s11) (.bool b9) (.string s9) u15 x23.heap.size) := by rw [hu15]; exact ZC4.made0 x23
  have B9 : Hid (Below x23.heap.size x23 u15) := by rw [hu15]; exact below_one _ _
  have E := Lib.hid (chain E.out B9.out)
  clear B9
  have TOT := Lib.hid (chain TOT.out E.out)
  have T14 := Lib.hid (T14.out.next E.out)
  clear Rl1
  clear E
  have T15 := N15
  clear N15
  go_upto_region 15 with (fail)
  rw [← hu15]
  clear hu15
  go_wp2_with fail
  refine (H_pm2p0p1.out _).mono ?_
  rintro e x24 ⟨v24, rfl, r24, b24⟩
  have E := Lib.hid b24
  have Rl1 := Lib.hid r24
  clear r24
  clear b24
  go_wp2_with fail
  refine (H_q7_5.out _).mono ?_
  rintro e x25 ⟨rfl, b25⟩
  have Rl1 := Lib.hid (Rl1.out.below b25)
  have E := Lib.hid (chain E.out b25)
  clear b25
  go_wp2_with fail
  refine (H_signat.out _ _ Rl1.out).mono ?_
  rintro e x26 ⟨rfl, b26⟩
  have Rl1 := Lib.hid (Rl1.out.below b26)
  have E := Lib.hid (chain E.out b26)
  clear b26
  have TOT := Lib.hid (chain TOT.out E.out)
  have T14 := Lib.hid (T14.out.next E.out)
  have T15 := Lib.hid (T15.out.next E.out)
  clear Rl1
  clear E
  go_wp2_with fail
  refine (H_pp1p0p2.out _).mono ?_
  rintro e x27 ⟨v27, rfl, r27, b27⟩
  have E := Lib.hid b27
  have Rl1 := Lib.hid r27
  clear r27
  clear b27
  go_wp2_with fail
  refine (H_w1.out _).mono ?_
  rintro e x28 ⟨rfl, b28⟩
  have Rl1 := Lib.hid (Rl1.out.below b28)
  have E := Lib.hid (chain E.out b28)
  clear b28
  go_wp2_with fail
  refine (H_w1.out _).mono ?_
  rintro e x29 ⟨rfl, b29⟩
  have Rl1 := Lib.hid (Rl1.out.below b29)
  have E := Lib.hid (chain E.out b29)
  clear b29
  go_wp2_with fail
  refine (H_w3.out _).mono ?_
  rintro e x30 ⟨rfl, b30⟩
  have Rl1 := Lib.hid (Rl1.out.below b30)
  have E := Lib.hid (chain E.out b30)
  clear b30
  go_wp2_with fail
  refine (H_comp.out _ _ Rl1.out).mono ?_
  rintro e x31 ⟨v31, rfl, r31, b31⟩
  have Rl1 := Lib.hid (Rl1.out.below b31)
  have E := Lib.hid (chain E.out b31)
  have Ro := Lib.hid r31
  clear r31
  clear b31
  have TOT := Lib.hid (chain TOT.out E.out)
  have T14 := Lib.hid (T14.out.next E.out)
  have T15 := Lib.hid (T15.out.next E.out)
  clear Rl1
  clear E
  go_wp2_with fail
  obtain ⟨k0, k1, _⟩ := T14.out
  obtain ⟨⟨k2, k3, k4, k5⟩, _⟩ := T15.out
  go_region_held3 (fun W' => W'.cell? ⟨x20.heap.size, 0, none⟩ = some (.bool b11) ∧ W'.cell? ⟨x20.heap.size, 1, none⟩ = some (.string s11) ∧ W'.cell? ⟨x23.heap.size, 0, none⟩ = some (.bool b11) ∧ W'.cell? ⟨x23.heap.size, 1, none⟩ = some (.string s11) ∧ W'.cell? ⟨x23.heap.size, 2, none⟩ = some (.bool b9) ∧ W'.cell? ⟨x23.heap.size, 3, none⟩ = some (.string s9)) (go_keep)
    (first
      | (go_at_call 63; (with_reducible refine (H_w11.out _).mono ?_); rintro e y ⟨rfl, b9⟩; have D := Lib.hid (show Below x31.heap.size x31 y by first | exact chain D.out b9 | exact chain ((Below.refl _ _).drew) b9); have p0 := keep1 D.out k0; have p1 := keep1 D.out k1; have p2 := keep1 D.out k2; have p3 := keep1 D.out k3; have p4 := keep1 D.out k4; have p5 := keep1 D.out k5; clear b9)
      | (go_at_call 66; (with_reducible refine (H_q11_9.out _).mono ?_); rintro e y ⟨rfl, b9⟩; have D := Lib.hid (show Below x31.heap.size x31 y by first | exact chain D.out b9 | exact chain ((Below.refl _ _).drew) b9); have p0 := keep1 D.out k0; have p1 := keep1 D.out k1; have p2 := keep1 D.out k2; have p3 := keep1 D.out k3; have p4 := keep1 D.out k4; have p5 := keep1 D.out k5; clear b9)
      | (go_at_call 64; (with_reducible refine (H_isp11p4p2.out _ _ (Ro.out.below ?hb2x31)).mono ?_); (first | exact D.out | exact (Below.refl _ _).drew); rintro e y ⟨rfl, b9⟩; have D := Lib.hid (show Below x31.heap.size x31 y by first | exact chain D.out b9 | exact chain ((Below.refl _ _).drew) b9); have p0 := keep1 D.out k0; have p1 := keep1 D.out k1; have p2 := keep1 D.out k2; have p3 := keep1 D.out k3; have p4 := keep1 D.out k4; have p5 := keep1 D.out k5; clear b9)
      | fail)
  have E := D
  clear D k0 k1 k2 k3 k4 k5 p0 p1 p2 p3 p4 p5
  clear T14
  clear T15
  have TOT := Lib.hid (chain TOT.out E.out)
  have Ro := Lib.hid (Ro.out.below E.out)
  clear E
  clear Ro
  go_wp2_with fail
  refine (H_pp6m4.out _).mono ?_
  rintro e x32 ⟨v32, rfl, r32, b32⟩
  have E := Lib.hid b32
  have Rl1 := Lib.hid r32
  clear r32
  clear b32
  go_wp2_with fail
  refine (H_cont.out _ _ Rl1.out).mono ?_
  rintro e x33 ⟨rfl, b33⟩
  have Rl1 := Lib.hid (Rl1.out.below b33)
  have E := Lib.hid (chain E.out b33)
  clear b33
  obtain ⟨u18, hu18⟩ : ∃ u : World, u = x33.alloc (.cells #[.bool b2, .string s2] 44) := ⟨_, rfl⟩
  have N18 : Hid (ZC (.bool b2) (.string s2) u18 x33.heap.size) := by rw [hu18]; exact ZC.new rfl
  have B9 : Hid (Below x33.heap.size x33 u18) := by rw [hu18]; exact below_one _ _
  have E := Lib.hid (chain E.out B9.out)
  clear B9
  have TOT := Lib.hid (chain TOT.out E.out)
  clear Rl1
  clear E
  have T18 := N18
  clear N18
  go_upto_region 20 with (fail)
  rw [← hu18]
  clear hu18
  go_wp2_with fail
  refine (H_pm6m4.out _).mono ?_
  rintro e x34 ⟨v34, rfl, r34, b34⟩
  have E := Lib.hid b34
  have Rl1 := Lib.hid r34
  clear r34
  clear b34
  go_wp2_with fail
  refine (H_prim.out _ _ Rl1.out).mono ?_
  rintro e x35 ⟨v35, rfl, r35, b35⟩
  have Rl1 := Lib.hid (Rl1.out.below b35)
  have E := Lib.hid (chain E.out b35)
  have Ry1 := Lib.hid r35
  clear r35
  clear b35
  have TOT := Lib.hid (chain TOT.out E.out)
  have T18 := Lib.hid (T18.out.next E.out)
  clear Rl1
  clear E
  go_wp2_with fail
  refine (H_pp1p0p0p1.out _).mono ?_
  rintro e x36 ⟨v36, rfl, r36, b36⟩
  have E := Lib.hid b36
  have Rl1 := Lib.hid r36
  clear r36
  clear b36
  go_wp2_with fail
  refine (H_pp1p2.out _).mono ?_
  rintro e x37 ⟨v37, rfl, r37, b37⟩
  have Rl1 := Lib.hid (Rl1.out.below b37)
  have E := Lib.hid (chain E.out b37)
  have Rl2 := Lib.hid r37
  clear r37
  clear b37
  go_wp2_with fail
  refine (H_rest.out _ _ _ Rl1.out Rl2.out).mono ?_
  rintro e x38 ⟨v38, rfl, r38, b38⟩
  have Rl1 := Lib.hid (Rl1.out.below b38)
  have Rl2 := Lib.hid (Rl2.out.below b38)
  have E := Lib.hid (chain E.out b38)
  have Ru1 := Lib.hid r38
  clear r38
  clear b38
  have TOT := Lib.hid (chain TOT.out E.out)
  have Ry1 := Lib.hid (Ry1.out.below E.out)
  have T18 := Lib.hid (T18.out.next E.out)
  clear Rl1
  clear Rl2
  clear E
  go_wp2_with fail
  refine (H_pm1p0p1.out _).mono ?_
  rintro e x39 ⟨v39, rfl, r39, b39⟩
  have E := Lib.hid b39
  have Rl1 := Lib.hid r39
  clear r39
  clear b39
  go_wp2_with fail
  refine (H_pp1p1.out _).mono ?_
  rintro e x40 ⟨v40, rfl, r40, b40⟩
  have Rl1 := Lib.hid (Rl1.out.below b40)
  have E := Lib.hid (chain E.out b40)
  have Rl2 := Lib.hid r40
  clear r40
  clear b40
  go_wp2_with fail
  refine (H_div1.out _ _ _ Rl1.out Rl2.out).mono ?_
  rintro e x41 ⟨v41, rfl, r41, b41⟩
  have Rl1 := Lib.hid (Rl1.out.below b41)
  have Rl2 := Lib.hid (Rl2.out.below b41)
  have E := Lib.hid (chain E.out b41)
  have Rk1 := Lib.hid r41
  clear r41
  clear b41
  have TOT := Lib.hid (chain TOT.out E.out)
  have Ry1 := Lib.hid (Ry1.out.below E.out)
  have Ru1 := Lib.hid (Ru1.out.below E.out)
  have T18 := Lib.hid (T18.out.next E.out)
  clear Rl1
  clear Rl2
  clear E
  go_wp2_with fail
  refine (H_pp1p0p1.out _).mono ?_
  rintro e x42 ⟨v42, rfl, r42, b42⟩
  have E := Lib.hid b42
  have Rl1 := Lib.hid r42
  clear r42
  clear b42
  go_wp2_with fail
  refine (H_pp1p1.out _).mono ?_
  rintro e x43 ⟨v43, rfl, r43, b43⟩
  have Rl1 := Lib.hid (Rl1.out.below b43)
  have E := Lib.hid (chain E.out b43)
  have Rl2 := Lib.hid r43
  clear r43
  clear b43
  go_wp2_with fail
  refine (H_div2.out _ _ _ Rl1.out Rl2.out).mono ?_
  rintro e x44 ⟨rfl, b44⟩
  have Rl1 := Lib.hid (Rl1.out.below b44)
  have Rl2 := Lib.hid (Rl2.out.below b44)
  have E := Lib.hid (chain E.out b44)
  clear b44
  have TOT := Lib.hid (chain TOT.out E.out)
  have Ry1 := Lib.hid (Ry1.out.below E.out)
  have Ru1 := Lib.hid (Ru1.out.below E.out)
  have Rk1 := Lib.hid (Rk1.out.below E.out)
  have T18 := Lib.hid (T18.out.next E.out)
  clear Rl1
  clear Rl2
  clear E
  go_wp2_with fail
  obtain ⟨k0, k1, _⟩ := T18.out
  go_region_held3 (fun W' => W'.cell? ⟨x33.heap.size, 0, none⟩ = some (.bool b2) ∧ W'.cell? ⟨x33.heap.size, 1, none⟩ = some (.string s2)) (go_keep)
    (first
      | (go_at_call 63; (with_reducible refine (H_w2.out _).mono ?_); rintro e y ⟨rfl, b9⟩; have D := Lib.hid (show Below x44.heap.size x44 y by first | exact chain D.out b9 | exact chain ((Below.refl _ _).drew) b9); have p0 := keep1 D.out k0; have p1 := keep1 D.out k1; clear b9)
      | (go_at_call 64; (with_reducible refine (H_ism3m2.out _ _ (Ry1.out.below ?hb1x44)).mono ?_); (first | exact D.out | exact (Below.refl _ _).drew); rintro e y ⟨rfl, b9⟩; have D := Lib.hid (show Below x44.heap.size x44 y by first | exact chain D.out b9 | exact chain ((Below.refl _ _).drew) b9); have p0 := keep1 D.out k0; have p1 := keep1 D.out k1; clear b9)
      | (go_at_call 64; (with_reducible refine (H_isp7.out _ _ (Ru1.out.below ?hb2x44)).mono ?_); (first | exact D.out | exact (Below.refl _ _).drew); rintro e y ⟨rfl, b9⟩; have D := Lib.hid (show Below x44.heap.size x44 y by first | exact chain D.out b9 | exact chain ((Below.refl _ _).drew) b9); have p0 := keep1 D.out k0; have p1 := keep1 D.out k1; clear b9)
      | (go_at_call 64; (with_reducible refine (H_ism1p1.out _ _ (Rk1.out.below ?hb3x44)).mono ?_); (first | exact D.out | exact (Below.refl _ _).drew); rintro e y ⟨rfl, b9⟩; have D := Lib.hid (show Below x44.heap.size x44 y by first | exact chain D.out b9 | exact chain ((Below.refl _ _).drew) b9); have p0 := keep1 D.out k0; have p1 := keep1 D.out k1; clear b9)
      | fail)
  have E := D
  clear D k0 k1 p0 p1
  clear T18
  have TOT := Lib.hid (chain TOT.out E.out)
  have Ry1 := Lib.hid (Ry1.out.below E.out)
  have Ru1 := Lib.hid (Ru1.out.below E.out)
  have Rk1 := Lib.hid (Rk1.out.below E.out)
  clear E
  clear Ry1
  clear Ru1
  clear Rk1
  go_wp2_with fail
  refine (H_pm1p0p1.out _).mono ?_
  rintro e x45 ⟨v45, rfl, r45, b45⟩
  have E := Lib.hid b45
  have Rl1 := Lib.hid r45
  clear r45
  clear b45
  go_wp2_with fail
  refine (H_pp2p4p2.out _).mono ?_
  rintro e x46 ⟨v46, rfl, r46, b46⟩
  have Rl1 := Lib.hid (Rl1.out.below b46)
  have E := Lib.hid (chain E.out b46)
  have Rl2 := Lib.hid r46
  clear r46
  clear b46
  go_wp2_with fail
  refine (H_gcd1.out _ _ _ Rl1.out Rl2.out).mono ?_
  rintro e x47 ⟨v47, rfl, r47, b47⟩
  have Rl1 := Lib.hid (Rl1.out.below b47)
  have Rl2 := Lib.hid (Rl2.out.below b47)
  have E := Lib.hid (chain E.out b47)
  have Rj1 := Lib.hid r47
  clear r47
  clear b47
  have TOT := Lib.hid (chain TOT.out E.out)
  clear Rl1
  clear Rl2
  clear E
  go_wp2_with fail
  refine (H_pp1p1.out _).mono ?_
  rintro e x48 ⟨v48, rfl, r48, b48⟩
  have E := Lib.hid b48
  have Rl1 := Lib.hid r48
  clear r48
  clear b48
  go_wp2_with fail
  refine (H_gcd2.out _ _ Rl1.out).mono ?_
  rintro e x49 ⟨v49, rfl, r49, b49⟩
  have Rl1 := Lib.hid (Rl1.out.below b49)
  have E := Lib.hid (chain E.out b49)
  have Rl3 := Lib.hid r49
  clear r49
  clear b49
  have TOT := Lib.hid (chain TOT.out E.out)
  have Rj1 := Lib.hid (Rj1.out.below E.out)
  clear Rl1
  clear E
  go_wp2_with fail
  refine (H_pp2.out _).mono ?_
  rintro e x50 ⟨v50, rfl, r50, b50⟩
  have E := Lib.hid b50
  have Rl1 := Lib.hid r50
  clear r50
  clear b50
  go_wp2_with fail
  refine (H_pp4.out _).mono ?_
  rintro e x51 ⟨v51, rfl, r51, b51⟩
  have Rl1 := Lib.hid (Rl1.out.below b51)
  have E := Lib.hid (chain E.out b51)
  have Rl2 := Lib.hid r51
  clear r51
  clear b51
  go_wp2_with fail
  refine (H_gcd3.out _ _ _ Rl1.out Rl2.out).mono ?_
  rintro e x52 ⟨v52, rfl, r52, b52⟩
  have Rl1 := Lib.hid (Rl1.out.below b52)
  have Rl2 := Lib.hid (Rl2.out.below b52)
  have E := Lib.hid (chain E.out b52)
  have Rone := Lib.hid r52
  clear r52
  clear b52
  have TOT := Lib.hid (chain TOT.out E.out)
  have Rj1 := Lib.hid (Rj1.out.below E.out)
  have Rl3 := Lib.hid (Rl3.out.below E.out)
  clear Rl1
  clear Rl2
  clear E
  go_wp2_with fail
  refine (H_isp1p1.out _ _ Rj1.out).mono ?_
  rintro e x53 ⟨rfl, b53⟩
  have E := Lib.hid b53
  clear b53
  go_wp2_with fail
  refine (H_isp1p1.out _ _ (Rl3.out.below E.out)).mono ?_
  rintro e x54 ⟨rfl, b54⟩
  have E := Lib.hid (chain E.out b54)
  clear b54
  go_wp2_with fail
  refine (H_isp1.out _ _ (Rone.out.below E.out)).mono ?_
  rintro e x55 ⟨rfl, b55⟩
  have E := Lib.hid (chain E.out b55)
  clear b55
  have TOT := Lib.hid (chain TOT.out E.out)
  have Rj1 := Lib.hid (Rj1.out.below E.out)
  have Rl3 := Lib.hid (Rl3.out.below E.out)
  have Rone := Lib.hid (Rone.out.below E.out)
  clear E
  go_wp2
  go_ret
  exact ⟨rfl, TOT.out⟩
end Go.Proofs.YtepddegphdlbeaaGreat

/- PolySums: the walk. -/
namespace Go.Proofs.YtepddegphdlbeaaGreat
open Go.RowKit

theorem k_short {L1 L2 : List (Bool × ByteArray)} {v1 v2 : Value} {w : World} (h1 : Rw w v1 L1) (h2 : Rw w v2 L2) (z1 : Lim L1) (z2 : Lim L2) (r : Bool) (hr : (shP L1 && shP L2) = r) :
    Calls Tryz.prog 11 #[.slice (some ⟨w.heap.size, 0, none⟩) 2 2] (w.alloc (.cells #[v1, v2] 23)) (BPost r w) := by
  have h := lshort_any [L1, L2] _ _ (rl_two w h1 h2) (by intro L hL; simp at hL; rcases hL with rfl | rfl <;> assumption) (by simp)
  have e : [L1, L2].all shP = r := by rw [← hr]; simp
  rw [e] at h
  exact h.mono fun e w' ⟨h1, h2⟩ => ⟨h1, chain (below_one _ _) h2⟩
end Go.Proofs.YtepddegphdlbeaaGreat

/- The function poly.Scale. -/
namespace Go.Proofs.YtepddegphdlbeaaGreat
open Go.RowKit

end Go.Proofs.YtepddegphdlbeaaGreat

/- PolyScales: the walks that fail early. -/
namespace Go.Proofs.YtepddegphdlbeaaGreat
open Go.RowKit

theorem k_valid1 {L : List (Bool × ByteArray)} {v : Value} {w : World} (h : Rw w v L) (z : Small L) (r : Bool) (hr : vldP L = r) :
    Calls Tryz.prog 19 #[.slice (some ⟨w.heap.size, 0, none⟩) 1 1] (w.alloc (.cells #[v] 23)) (BPost r w) := by
  have h := lvalid_any [L] _ _ (rl_one w h) (by intro L' hL; simp at hL; subst hL; exact z) (by simp)
  have e : [L].all vldP = r := by rw [← hr]; simp
  rw [e] at h
  exact h.mono fun e w' ⟨h1, h2⟩ => ⟨h1, chain (below_one _ _) h2⟩

end Go.Proofs.YtepddegphdlbeaaGreat

/- PolyValid: the walks. -/
namespace Go.Proofs.YtepddegphdlbeaaGreat
open Go.RowKit

set_option maxRecDepth 100000 in
set_option maxHeartbeats 8000000 in
theorem pvd_long0 (L1 L2 : List (Bool × ByteArray)) (L3 : List Int) (v1 v2 v3 : Value) (w : World) (h1 : Rw w v1 L1) (h2 : Rw w v2 L2) (h3 : Rn w v3 L3) 
    (HS : ∀ w', Below w.heap.size w w' → Calls Tryz.prog 11 #[.slice (some ⟨w'.heap.size, 0, none⟩) 2 2] (w'.alloc (.cells #[v1, v2] 23)) (BPost false w')) :
    Calls Tryz.prog 3 #[v1, v2, v3] w (Ret (.bool true) w) := by
  have HK := Lib.hid known_true
  have E : Hid (Below w.heap.size w w) := Below.refl _ _
  have HS := Lib.hid HS
  obtain ⟨p1, a1, o1, c1, rfl, -, -, -, -⟩ := h1
  obtain ⟨p2, a2, o2, c2, rfl, -, -, -, -⟩ := h2
  obtain ⟨p3, a3, o3, c3, rfl, -, -⟩ := h3
  generalize L1.length = n1 at *
  generalize L2.length = n2 at *
  generalize L3.length = n3 at *
  unfold BPost at *
  unfold Ret at *
  go_enter Tryz.func3, Tryz.ntmps3
  go_wp2_with fail
  refine (HS.out _ E.out).mono ?_
  rintro e x1 ⟨rfl, b1⟩
  have E := Lib.hid (chain E.out b1)
  clear b1
  go_wp2_with fail
  refine (HK.out _).mono ?_
  rintro e x2 ⟨rfl, b2⟩
  have E := Lib.hid (chain E.out b2)
  clear b2
  go_wp2
  go_ret
  exact ⟨rfl, E.out⟩

set_option maxRecDepth 100000 in
set_option maxHeartbeats 8000000 in
theorem pvd_long1 (L1 L2 : List (Bool × ByteArray)) (L3 : List Int) (v1 v2 v3 : Value) (w : World) (h1 : Rw w v1 L1) (h2 : Rw w v2 L2) (h3 : Rn w v3 L3) (h40 : 40 < L3.length)
    (HS : ∀ w', Below w.heap.size w w' → Calls Tryz.prog 11 #[.slice (some ⟨w'.heap.size, 0, none⟩) 2 2] (w'.alloc (.cells #[v1, v2] 23)) (BPost true w')) :
    Calls Tryz.prog 3 #[v1, v2, v3] w (Ret (.bool true) w) := by
  have HK := Lib.hid known_true
  have E : Hid (Below w.heap.size w w) := Below.refl _ _
  have HS := Lib.hid HS
  have f1 : (40 : Int) < (L3.length : Int) := by omega
  obtain ⟨p1, a1, o1, c1, rfl, -, -, -, -⟩ := h1
  obtain ⟨p2, a2, o2, c2, rfl, -, -, -, -⟩ := h2
  obtain ⟨p3, a3, o3, c3, rfl, -, -⟩ := h3
  generalize L1.length = n1 at *
  generalize L2.length = n2 at *
  generalize L3.length = n3 at *
  clear h40
  unfold BPost at *
  unfold Ret at *
  go_enter Tryz.func3, Tryz.ntmps3
  go_wp2_with fail
  refine (HS.out _ E.out).mono ?_
  rintro e x1 ⟨rfl, b1⟩
  have E := Lib.hid (chain E.out b1)
  clear b1
  go_wp2_with fail
  refine (HK.out _).mono ?_
  rintro e x2 ⟨rfl, b2⟩
  have E := Lib.hid (chain E.out b2)
  clear b2
  go_wp2
  go_ret
  exact ⟨rfl, E.out⟩

set_option maxRecDepth 100000 in
set_option maxHeartbeats 8000000 in
theorem pvd_bf_true (L1 L2 : List (Bool × ByteArray)) (L3 : List Int) (v1 v2 v3 : Value) (w : World) (h1 : Rw w v1 L1) (h2 : Rw w v2 L2) (h3 : Rn w v3 L3) (h40 : L3.length ≤ 40) (T : List Int) (ht : T.length ≤ 25)
    (HS : ∀ w', Below w.heap.size w w' → Calls Tryz.prog 11 #[.slice (some ⟨w'.heap.size, 0, none⟩) 2 2] (w'.alloc (.cells #[v1, v2] 23)) (BPost true w'))
    (HD : ∀ w', Below w.heap.size w w' → Calls Tryz.prog 13 #[v1] w' (Ret (.tuple #[.int .i64 0, .int .i64 2]) w'))
    (HB : ∀ w', Below w.heap.size w w' → Calls Tryz.prog 14 #[v1] w' (Ret (.tuple #[.int .i64 0, .int .i64 2]) w'))
    (HV : ∀ w', Below w.heap.size w w' → Calls Tryz.prog 15 #[v1] w' (BPost false w'))
    (HRV : ∀ w', Below w.heap.size w w' → Calls Tryz.prog 16 #[v1] w' (BPost false w'))
    (HE1 : ∀ w', Below w.heap.size w w' → Calls Tryz.prog 17 #[v1, v2] w' (BPost true w'))
    (HE2 : ∀ w', Below w.heap.size w w' → Calls Tryz.prog 18 #[v1, v2] w' (BPost true w'))
    (HE3 : ∀ w', Below w.heap.size w w' → Calls Tryz.prog 17 #[v1, v1] w' (BPost true w'))
    (HVL : ∀ w', Below w.heap.size w w' → Calls Tryz.prog 19 #[.slice (some ⟨w'.heap.size, 0, none⟩) 1 1] (w'.alloc (.cells #[v1] 23)) (BPost false w'))
    (HO : ∀ w', Below w.heap.size w w' → Calls Tryz.prog 22 #[v3] w' (ResP T w'))
    (HN : ∀ w', Below w.heap.size w w' → Calls Tryz.prog 23 #[v3] w' (RPPost T w'))
    (HE : ∀ w' v x, Rp w' v T → RP w' x T → Calls Tryz.prog 24 #[v, .int .i64 0, x] w' (BPost true w')) :
    Calls Tryz.prog 3 #[v1, v2, v3] w (Ret (.bool true) w) := by
  have HK := Lib.hid known_true
  have E : Hid (Below w.heap.size w w) := Below.refl _ _
  have HS := Lib.hid HS
  have HD := Lib.hid HD
  have HB := Lib.hid HB
  have HV := Lib.hid HV
  have HRV := Lib.hid HRV
  have HE1 := Lib.hid HE1
  have HE2 := Lib.hid HE2
  have HE3 := Lib.hid HE3
  have HVL := Lib.hid HVL
  have HO := Lib.hid HO
  have HN := Lib.hid HN
  have HE := Lib.hid HE
  have f1 : ¬ (40 : Int) < (L3.length : Int) := by omega
  have HOT : Hid (∀ w' v, RP w' v T → ∃ a c, v = .slice a T.length c) := fun w' v h => by obtain ⟨a, b, o, c, h, -⟩ := h; exact ⟨a, c, h⟩
  have f2 : ¬ (25 : Int) < (T.length : Int) := by omega
  generalize T.length = tn at *
  obtain ⟨p1, a1, o1, c1, rfl, -, -, -, -⟩ := h1
  obtain ⟨p2, a2, o2, c2, rfl, -, -, -, -⟩ := h2
  obtain ⟨p3, a3, o3, c3, rfl, -, -⟩ := h3
  generalize L1.length = n1 at *
  generalize L2.length = n2 at *
  generalize L3.length = n3 at *
  clear h40 ht
  unfold ResP at HO
  unfold RPPost at *
  unfold BPost at *
  unfold Ret at *
  go_enter Tryz.func3, Tryz.ntmps3
  go_wp2_with fail
  refine (HS.out _ E.out).mono ?_
  rintro e x1 ⟨rfl, b1⟩
  have E := Lib.hid (chain E.out b1)
  clear b1
  go_wp2_with fail
  refine (HD.out _ E.out).mono ?_
  rintro e x2 ⟨rfl, b2⟩
  have E := Lib.hid (chain E.out b2)
  clear b2
  go_wp2_with fail
  refine (HB.out _ E.out).mono ?_
  rintro e x3 ⟨rfl, b3⟩
  have E := Lib.hid (chain E.out b3)
  clear b3
  go_wp2_with fail
  refine (HV.out _ E.out).mono ?_
  rintro e x4 ⟨rfl, b4⟩
  have E := Lib.hid (chain E.out b4)
  clear b4
  go_wp2_with fail
  refine (HRV.out _ E.out).mono ?_
  rintro e x5 ⟨rfl, b5⟩
  have E := Lib.hid (chain E.out b5)
  clear b5
  go_wp2_with fail
  refine (HE1.out _ E.out).mono ?_
  rintro e x6 ⟨rfl, b6⟩
  have E := Lib.hid (chain E.out b6)
  clear b6
  go_wp2_with fail
  refine (HE2.out _ E.out).mono ?_
  rintro e x7 ⟨rfl, b7⟩
  have E := Lib.hid (chain E.out b7)
  clear b7
  go_wp2_with fail
  refine (HE3.out _ E.out).mono ?_
  rintro e x8 ⟨rfl, b8⟩
  have E := Lib.hid (chain E.out b8)
  clear b8
  go_wp2_with fail
  refine (HVL.out _ E.out).mono ?_
  rintro e x9 ⟨rfl, b9⟩
  have E := Lib.hid (chain E.out b9)
  clear b9
  go_wp2_with fail
  refine (HO.out _ E.out).mono ?_
  rintro e x10 ⟨y10, rfl, r10, b10⟩
  have E := Lib.hid (chain E.out b10)
  have RO := Lib.hid r10
  clear r10
  clear b10
  go_wp2_with fail
  refine (HN.out _ E.out).mono ?_
  rintro e x11 ⟨y11, rfl, r11, b11⟩
  have RO := Lib.hid (RO.out.below b11)
  have E := Lib.hid (chain E.out b11)
  have RT := Lib.hid r11
  obtain ⟨RTa, RTc, hRT⟩ := HOT.out _ _ r11
  subst hRT
  clear r11
  clear b11
  go_wp2_with fail
  refine (HE.out _ _ _ RO.out RT.out).mono ?_
  rintro e x12 ⟨rfl, b12⟩
  have RO := Lib.hid (RO.out.below b12)
  have RT := Lib.hid (RT.out.below b12)
  have E := Lib.hid (chain E.out b12)
  clear b12
  go_wp2_with fail
  refine (HK.out _).mono ?_
  rintro e x13 ⟨rfl, b13⟩
  have RO := Lib.hid (RO.out.below b13)
  have RT := Lib.hid (RT.out.below b13)
  have E := Lib.hid (chain E.out b13)
  clear b13
  go_wp2
  go_ret
  exact ⟨rfl, E.out⟩

set_option maxRecDepth 100000 in
set_option maxHeartbeats 8000000 in
theorem pvd_bf_false (L1 L2 : List (Bool × ByteArray)) (L3 : List Int) (v1 v2 v3 : Value) (w : World) (h1 : Rw w v1 L1) (h2 : Rw w v2 L2) (h3 : Rn w v3 L3) (h40 : L3.length ≤ 40) (T : List Int) (ht : T.length ≤ 25)
    (HS : ∀ w', Below w.heap.size w w' → Calls Tryz.prog 11 #[.slice (some ⟨w'.heap.size, 0, none⟩) 2 2] (w'.alloc (.cells #[v1, v2] 23)) (BPost true w'))
    (HD : ∀ w', Below w.heap.size w w' → Calls Tryz.prog 13 #[v1] w' (Ret (.tuple #[.int .i64 0, .int .i64 2]) w'))
    (HB : ∀ w', Below w.heap.size w w' → Calls Tryz.prog 14 #[v1] w' (Ret (.tuple #[.int .i64 0, .int .i64 2]) w'))
    (HV : ∀ w', Below w.heap.size w w' → Calls Tryz.prog 15 #[v1] w' (BPost false w'))
    (HRV : ∀ w', Below w.heap.size w w' → Calls Tryz.prog 16 #[v1] w' (BPost false w'))
    (HE1 : ∀ w', Below w.heap.size w w' → Calls Tryz.prog 17 #[v1, v2] w' (BPost false w'))
    (HE2 : ∀ w', Below w.heap.size w w' → Calls Tryz.prog 18 #[v1, v2] w' (BPost false w'))
    (HE3 : ∀ w', Below w.heap.size w w' → Calls Tryz.prog 17 #[v1, v1] w' (BPost true w'))
    (HVL : ∀ w', Below w.heap.size w w' → Calls Tryz.prog 19 #[.slice (some ⟨w'.heap.size, 0, none⟩) 1 1] (w'.alloc (.cells #[v1] 23)) (BPost false w'))
    (HO : ∀ w', Below w.heap.size w w' → Calls Tryz.prog 22 #[v3] w' (ResP T w'))
    (HN : ∀ w', Below w.heap.size w w' → Calls Tryz.prog 23 #[v3] w' (RPPost T w'))
    (HE : ∀ w' v x, Rp w' v T → RP w' x T → Calls Tryz.prog 24 #[v, .int .i64 0, x] w' (BPost true w')) :
    Calls Tryz.prog 3 #[v1, v2, v3] w (Ret (.bool true) w) := by
  have HK := Lib.hid known_true
  have E : Hid (Below w.heap.size w w) := Below.refl _ _
  have HS := Lib.hid HS
  have HD := Lib.hid HD
  have HB := Lib.hid HB
  have HV := Lib.hid HV
  have HRV := Lib.hid HRV
  have HE1 := Lib.hid HE1
  have HE2 := Lib.hid HE2
  have HE3 := Lib.hid HE3
  have HVL := Lib.hid HVL
  have HO := Lib.hid HO
  have HN := Lib.hid HN
  have HE := Lib.hid HE
  have f1 : ¬ (40 : Int) < (L3.length : Int) := by omega
  have HOT : Hid (∀ w' v, RP w' v T → ∃ a c, v = .slice a T.length c) := fun w' v h => by obtain ⟨a, b, o, c, h, -⟩ := h; exact ⟨a, c, h⟩
  have f2 : ¬ (25 : Int) < (T.length : Int) := by omega
  generalize T.length = tn at *
  obtain ⟨p1, a1, o1, c1, rfl, -, -, -, -⟩ := h1
  obtain ⟨p2, a2, o2, c2, rfl, -, -, -, -⟩ := h2
  obtain ⟨p3, a3, o3, c3, rfl, -, -⟩ := h3
  generalize L1.length = n1 at *
  generalize L2.length = n2 at *
  generalize L3.length = n3 at *
  clear h40 ht
  unfold ResP at HO
  unfold RPPost at *
  unfold BPost at *
  unfold Ret at *
  go_enter Tryz.func3, Tryz.ntmps3
  go_wp2_with fail
  refine (HS.out _ E.out).mono ?_
  rintro e x1 ⟨rfl, b1⟩
  have E := Lib.hid (chain E.out b1)
  clear b1
  go_wp2_with fail
  refine (HD.out _ E.out).mono ?_
  rintro e x2 ⟨rfl, b2⟩
  have E := Lib.hid (chain E.out b2)
  clear b2
  go_wp2_with fail
  refine (HB.out _ E.out).mono ?_
  rintro e x3 ⟨rfl, b3⟩
  have E := Lib.hid (chain E.out b3)
  clear b3
  go_wp2_with fail
  refine (HV.out _ E.out).mono ?_
  rintro e x4 ⟨rfl, b4⟩
  have E := Lib.hid (chain E.out b4)
  clear b4
  go_wp2_with fail
  refine (HRV.out _ E.out).mono ?_
  rintro e x5 ⟨rfl, b5⟩
  have E := Lib.hid (chain E.out b5)
  clear b5
  go_wp2_with fail
  refine (HE1.out _ E.out).mono ?_
  rintro e x6 ⟨rfl, b6⟩
  have E := Lib.hid (chain E.out b6)
  clear b6
  go_wp2_with fail
  refine (HE2.out _ E.out).mono ?_
  rintro e x7 ⟨rfl, b7⟩
  have E := Lib.hid (chain E.out b7)
  clear b7
  go_wp2_with fail
  refine (HE3.out _ E.out).mono ?_
  rintro e x8 ⟨rfl, b8⟩
  have E := Lib.hid (chain E.out b8)
  clear b8
  go_wp2_with fail
  refine (HVL.out _ E.out).mono ?_
  rintro e x9 ⟨rfl, b9⟩
  have E := Lib.hid (chain E.out b9)
  clear b9
  go_wp2_with fail
  refine (HO.out _ E.out).mono ?_
  rintro e x10 ⟨y10, rfl, r10, b10⟩
  have E := Lib.hid (chain E.out b10)
  have RO := Lib.hid r10
  clear r10
  clear b10
  go_wp2_with fail
  refine (HN.out _ E.out).mono ?_
  rintro e x11 ⟨y11, rfl, r11, b11⟩
  have RO := Lib.hid (RO.out.below b11)
  have E := Lib.hid (chain E.out b11)
  have RT := Lib.hid r11
  obtain ⟨RTa, RTc, hRT⟩ := HOT.out _ _ r11
  subst hRT
  clear r11
  clear b11
  go_wp2_with fail
  refine (HE.out _ _ _ RO.out RT.out).mono ?_
  rintro e x12 ⟨rfl, b12⟩
  have RO := Lib.hid (RO.out.below b12)
  have RT := Lib.hid (RT.out.below b12)
  have E := Lib.hid (chain E.out b12)
  clear b12
  go_wp2_with fail
  refine (HK.out _).mono ?_
  rintro e x13 ⟨rfl, b13⟩
  have RO := Lib.hid (RO.out.below b13)
  have RT := Lib.hid (RT.out.below b13)
  have E := Lib.hid (chain E.out b13)
  clear b13
  go_wp2
  go_ret
  exact ⟨rfl, E.out⟩

set_option maxRecDepth 100000 in
set_option maxHeartbeats 8000000 in
theorem pvd_bu_true (L1 L2 : List (Bool × ByteArray)) (L3 : List Int) (v1 v2 v3 : Value) (w : World) (h1 : Rw w v1 L1) (h2 : Rw w v2 L2) (h3 : Rn w v3 L3) (h40 : L3.length ≤ 40) (T : List Int) (ht : 25 < T.length)
    (HS : ∀ w', Below w.heap.size w w' → Calls Tryz.prog 11 #[.slice (some ⟨w'.heap.size, 0, none⟩) 2 2] (w'.alloc (.cells #[v1, v2] 23)) (BPost true w'))
    (HD : ∀ w', Below w.heap.size w w' → Calls Tryz.prog 13 #[v1] w' (Ret (.tuple #[.int .i64 0, .int .i64 2]) w'))
    (HB : ∀ w', Below w.heap.size w w' → Calls Tryz.prog 14 #[v1] w' (Ret (.tuple #[.int .i64 0, .int .i64 2]) w'))
    (HV : ∀ w', Below w.heap.size w w' → Calls Tryz.prog 15 #[v1] w' (BPost false w'))
    (HRV : ∀ w', Below w.heap.size w w' → Calls Tryz.prog 16 #[v1] w' (BPost false w'))
    (HE1 : ∀ w', Below w.heap.size w w' → Calls Tryz.prog 17 #[v1, v2] w' (BPost true w'))
    (HE2 : ∀ w', Below w.heap.size w w' → Calls Tryz.prog 18 #[v1, v2] w' (BPost true w'))
    (HE3 : ∀ w', Below w.heap.size w w' → Calls Tryz.prog 17 #[v1, v1] w' (BPost true w'))
    (HVL : ∀ w', Below w.heap.size w w' → Calls Tryz.prog 19 #[.slice (some ⟨w'.heap.size, 0, none⟩) 1 1] (w'.alloc (.cells #[v1] 23)) (BPost false w'))
    (HO : ∀ w', Below w.heap.size w w' → Calls Tryz.prog 22 #[v3] w' (ResE 7 w'))
    (HN : ∀ w', Below w.heap.size w w' → Calls Tryz.prog 23 #[v3] w' (RPPost T w')) :
    Calls Tryz.prog 3 #[v1, v2, v3] w (Ret (.bool true) w) := by
  have HK := Lib.hid known_true
  have E : Hid (Below w.heap.size w w) := Below.refl _ _
  have HS := Lib.hid HS
  have HD := Lib.hid HD
  have HB := Lib.hid HB
  have HV := Lib.hid HV
  have HRV := Lib.hid HRV
  have HE1 := Lib.hid HE1
  have HE2 := Lib.hid HE2
  have HE3 := Lib.hid HE3
  have HVL := Lib.hid HVL
  have HO := Lib.hid HO
  have HN := Lib.hid HN
  have f1 : ¬ (40 : Int) < (L3.length : Int) := by omega
  have HOT : Hid (∀ w' v, RP w' v T → ∃ a c, v = .slice a T.length c) := fun w' v h => by obtain ⟨a, b, o, c, h, -⟩ := h; exact ⟨a, c, h⟩
  have f2 : (25 : Int) < (T.length : Int) := by omega
  generalize T.length = tn at *
  obtain ⟨p1, a1, o1, c1, rfl, -, -, -, -⟩ := h1
  obtain ⟨p2, a2, o2, c2, rfl, -, -, -, -⟩ := h2
  obtain ⟨p3, a3, o3, c3, rfl, -, -⟩ := h3
  generalize L1.length = n1 at *
  generalize L2.length = n2 at *
  generalize L3.length = n3 at *
  clear h40 ht
  unfold ResE at HO
  unfold RPPost at *
  unfold BPost at *
  unfold Ret at *
  go_enter Tryz.func3, Tryz.ntmps3
  go_wp2_with fail
  refine (HS.out _ E.out).mono ?_
  rintro e x1 ⟨rfl, b1⟩
  have E := Lib.hid (chain E.out b1)
  clear b1
  go_wp2_with fail
  refine (HD.out _ E.out).mono ?_
  rintro e x2 ⟨rfl, b2⟩
  have E := Lib.hid (chain E.out b2)
  clear b2
  go_wp2_with fail
  refine (HB.out _ E.out).mono ?_
  rintro e x3 ⟨rfl, b3⟩
  have E := Lib.hid (chain E.out b3)
  clear b3
  go_wp2_with fail
  refine (HV.out _ E.out).mono ?_
  rintro e x4 ⟨rfl, b4⟩
  have E := Lib.hid (chain E.out b4)
  clear b4
  go_wp2_with fail
  refine (HRV.out _ E.out).mono ?_
  rintro e x5 ⟨rfl, b5⟩
  have E := Lib.hid (chain E.out b5)
  clear b5
  go_wp2_with fail
  refine (HE1.out _ E.out).mono ?_
  rintro e x6 ⟨rfl, b6⟩
  have E := Lib.hid (chain E.out b6)
  clear b6
  go_wp2_with fail
  refine (HE2.out _ E.out).mono ?_
  rintro e x7 ⟨rfl, b7⟩
  have E := Lib.hid (chain E.out b7)
  clear b7
  go_wp2_with fail
  refine (HE3.out _ E.out).mono ?_
  rintro e x8 ⟨rfl, b8⟩
  have E := Lib.hid (chain E.out b8)
  clear b8
  go_wp2_with fail
  refine (HVL.out _ E.out).mono ?_
  rintro e x9 ⟨rfl, b9⟩
  have E := Lib.hid (chain E.out b9)
  clear b9
  go_wp2_with fail
  refine (HO.out _ E.out).mono ?_
  rintro e x10 ⟨rfl, b10⟩
  have E := Lib.hid (chain E.out b10)
  clear b10
  go_wp2_with fail
  refine (HN.out _ E.out).mono ?_
  rintro e x11 ⟨y11, rfl, r11, b11⟩
  have E := Lib.hid (chain E.out b11)
  have RT := Lib.hid r11
  obtain ⟨RTa, RTc, hRT⟩ := HOT.out _ _ r11
  subst hRT
  clear r11
  clear b11
  go_wp2_with fail
  refine (HK.out _).mono ?_
  rintro e x12 ⟨rfl, b12⟩
  have RT := Lib.hid (RT.out.below b12)
  have E := Lib.hid (chain E.out b12)
  clear b12
  go_wp2
  go_ret
  exact ⟨rfl, E.out⟩

set_option maxRecDepth 100000 in
set_option maxHeartbeats 8000000 in
theorem pvd_bu_false (L1 L2 : List (Bool × ByteArray)) (L3 : List Int) (v1 v2 v3 : Value) (w : World) (h1 : Rw w v1 L1) (h2 : Rw w v2 L2) (h3 : Rn w v3 L3) (h40 : L3.length ≤ 40) (T : List Int) (ht : 25 < T.length)
    (HS : ∀ w', Below w.heap.size w w' → Calls Tryz.prog 11 #[.slice (some ⟨w'.heap.size, 0, none⟩) 2 2] (w'.alloc (.cells #[v1, v2] 23)) (BPost true w'))
    (HD : ∀ w', Below w.heap.size w w' → Calls Tryz.prog 13 #[v1] w' (Ret (.tuple #[.int .i64 0, .int .i64 2]) w'))
    (HB : ∀ w', Below w.heap.size w w' → Calls Tryz.prog 14 #[v1] w' (Ret (.tuple #[.int .i64 0, .int .i64 2]) w'))
    (HV : ∀ w', Below w.heap.size w w' → Calls Tryz.prog 15 #[v1] w' (BPost false w'))
    (HRV : ∀ w', Below w.heap.size w w' → Calls Tryz.prog 16 #[v1] w' (BPost false w'))
    (HE1 : ∀ w', Below w.heap.size w w' → Calls Tryz.prog 17 #[v1, v2] w' (BPost false w'))
    (HE2 : ∀ w', Below w.heap.size w w' → Calls Tryz.prog 18 #[v1, v2] w' (BPost false w'))
    (HE3 : ∀ w', Below w.heap.size w w' → Calls Tryz.prog 17 #[v1, v1] w' (BPost true w'))
    (HVL : ∀ w', Below w.heap.size w w' → Calls Tryz.prog 19 #[.slice (some ⟨w'.heap.size, 0, none⟩) 1 1] (w'.alloc (.cells #[v1] 23)) (BPost false w'))
    (HO : ∀ w', Below w.heap.size w w' → Calls Tryz.prog 22 #[v3] w' (ResE 7 w'))
    (HN : ∀ w', Below w.heap.size w w' → Calls Tryz.prog 23 #[v3] w' (RPPost T w')) :
    Calls Tryz.prog 3 #[v1, v2, v3] w (Ret (.bool true) w) := by
  have HK := Lib.hid known_true
  have E : Hid (Below w.heap.size w w) := Below.refl _ _
  have HS := Lib.hid HS
  have HD := Lib.hid HD
  have HB := Lib.hid HB
  have HV := Lib.hid HV
  have HRV := Lib.hid HRV
  have HE1 := Lib.hid HE1
  have HE2 := Lib.hid HE2
  have HE3 := Lib.hid HE3
  have HVL := Lib.hid HVL
  have HO := Lib.hid HO
  have HN := Lib.hid HN
  have f1 : ¬ (40 : Int) < (L3.length : Int) := by omega
  have HOT : Hid (∀ w' v, RP w' v T → ∃ a c, v = .slice a T.length c) := fun w' v h => by obtain ⟨a, b, o, c, h, -⟩ := h; exact ⟨a, c, h⟩
  have f2 : (25 : Int) < (T.length : Int) := by omega
  generalize T.length = tn at *
  obtain ⟨p1, a1, o1, c1, rfl, -, -, -, -⟩ := h1
  obtain ⟨p2, a2, o2, c2, rfl, -, -, -, -⟩ := h2
  obtain ⟨p3, a3, o3, c3, rfl, -, -⟩ := h3
  generalize L1.length = n1 at *
  generalize L2.length = n2 at *
  generalize L3.length = n3 at *
  clear h40 ht
  unfold ResE at HO
  unfold RPPost at *
  unfold BPost at *
  unfold Ret at *
  go_enter Tryz.func3, Tryz.ntmps3
  go_wp2_with fail
  refine (HS.out _ E.out).mono ?_
  rintro e x1 ⟨rfl, b1⟩
  have E := Lib.hid (chain E.out b1)
  clear b1
  go_wp2_with fail
  refine (HD.out _ E.out).mono ?_
  rintro e x2 ⟨rfl, b2⟩
  have E := Lib.hid (chain E.out b2)
  clear b2
  go_wp2_with fail
  refine (HB.out _ E.out).mono ?_
  rintro e x3 ⟨rfl, b3⟩
  have E := Lib.hid (chain E.out b3)
  clear b3
  go_wp2_with fail
  refine (HV.out _ E.out).mono ?_
  rintro e x4 ⟨rfl, b4⟩
  have E := Lib.hid (chain E.out b4)
  clear b4
  go_wp2_with fail
  refine (HRV.out _ E.out).mono ?_
  rintro e x5 ⟨rfl, b5⟩
  have E := Lib.hid (chain E.out b5)
  clear b5
  go_wp2_with fail
  refine (HE1.out _ E.out).mono ?_
  rintro e x6 ⟨rfl, b6⟩
  have E := Lib.hid (chain E.out b6)
  clear b6
  go_wp2_with fail
  refine (HE2.out _ E.out).mono ?_
  rintro e x7 ⟨rfl, b7⟩
  have E := Lib.hid (chain E.out b7)
  clear b7
  go_wp2_with fail
  refine (HE3.out _ E.out).mono ?_
  rintro e x8 ⟨rfl, b8⟩
  have E := Lib.hid (chain E.out b8)
  clear b8
  go_wp2_with fail
  refine (HVL.out _ E.out).mono ?_
  rintro e x9 ⟨rfl, b9⟩
  have E := Lib.hid (chain E.out b9)
  clear b9
  go_wp2_with fail
  refine (HO.out _ E.out).mono ?_
  rintro e x10 ⟨rfl, b10⟩
  have E := Lib.hid (chain E.out b10)
  clear b10
  go_wp2_with fail
  refine (HN.out _ E.out).mono ?_
  rintro e x11 ⟨y11, rfl, r11, b11⟩
  have E := Lib.hid (chain E.out b11)
  have RT := Lib.hid r11
  obtain ⟨RTa, RTc, hRT⟩ := HOT.out _ _ r11
  subst hRT
  clear r11
  clear b11
  go_wp2_with fail
  refine (HK.out _).mono ?_
  rintro e x12 ⟨rfl, b12⟩
  have RT := Lib.hid (RT.out.below b12)
  have E := Lib.hid (chain E.out b12)
  clear b12
  go_wp2
  go_ret
  exact ⟨rfl, E.out⟩

set_option maxRecDepth 100000 in
set_option maxHeartbeats 8000000 in
theorem pvd_gf_true (L1 L2 : List (Bool × ByteArray)) (L3 : List Int) (v1 v2 v3 : Value) (w : World) (h1 : Rw w v1 L1) (h2 : Rw w v2 L2) (h3 : Rn w v3 L3) (h40 : L3.length ≤ 40) (T : List Int) (ht : T.length ≤ 25) (p : List Int) (m g : Int) (hm : (L1.length : Int) - 1 = m) (h25 : L1.length ≤ 25)
    (HS : ∀ w', Below w.heap.size w w' → Calls Tryz.prog 11 #[.slice (some ⟨w'.heap.size, 0, none⟩) 2 2] (w'.alloc (.cells #[v1, v2] 23)) (BPost true w'))
    (HD : ∀ w', Below w.heap.size w w' → Calls Tryz.prog 13 #[v1] w' (Ret (.tuple #[.int .i64 m, .int .i64 0]) w'))
    (HB : ∀ w', Below w.heap.size w w' → Calls Tryz.prog 14 #[v1] w' (Ret (.tuple #[.int .i64 g, .int .i64 0]) w'))
    (HV : ∀ w', Below w.heap.size w w' → Calls Tryz.prog 15 #[v1] w' (BPost true w'))
    (HRV : ∀ w', Below w.heap.size w w' → Calls Tryz.prog 16 #[v1] w' (BPost true w'))
    (HE1 : ∀ w', Below w.heap.size w w' → Calls Tryz.prog 17 #[v1, v2] w' (BPost true w'))
    (HE2 : ∀ w', Below w.heap.size w w' → Calls Tryz.prog 18 #[v1, v2] w' (BPost true w'))
    (HE3 : ∀ w', Below w.heap.size w w' → Calls Tryz.prog 17 #[v1, v1] w' (BPost true w'))
    (HVL : ∀ w', Below w.heap.size w w' → Calls Tryz.prog 19 #[.slice (some ⟨w'.heap.size, 0, none⟩) 1 1] (w'.alloc (.cells #[v1] 23)) (BPost true w'))
    (HF : ∀ w', Below w.heap.size w w' → Calls Tryz.prog 21 #[v1] w' (RPPost p w'))
    (HRB : ∀ w' x, RP w' x p → Calls Tryz.prog 20 #[x] w' (IPost g w'))
    (HO : ∀ w', Below w.heap.size w w' → Calls Tryz.prog 22 #[v3] w' (ResP T w'))
    (HN : ∀ w', Below w.heap.size w w' → Calls Tryz.prog 23 #[v3] w' (RPPost T w'))
    (HE : ∀ w' v x, Rp w' v T → RP w' x T → Calls Tryz.prog 24 #[v, .int .i64 0, x] w' (BPost true w')) :
    Calls Tryz.prog 3 #[v1, v2, v3] w (Ret (.bool true) w) := by
  have HK := Lib.hid known_true
  have E : Hid (Below w.heap.size w w) := Below.refl _ _
  have HS := Lib.hid HS
  have HD := Lib.hid HD
  have HB := Lib.hid HB
  have HV := Lib.hid HV
  have HRV := Lib.hid HRV
  have HE1 := Lib.hid HE1
  have HE2 := Lib.hid HE2
  have HE3 := Lib.hid HE3
  have HVL := Lib.hid HVL
  have HF := Lib.hid HF
  have HRB := Lib.hid HRB
  have HO := Lib.hid HO
  have HN := Lib.hid HN
  have HE := Lib.hid HE
  have f1 : ¬ (40 : Int) < (L3.length : Int) := by omega
  have HOT : Hid (∀ w' v, RP w' v T → ∃ a c, v = .slice a T.length c) := fun w' v h => by obtain ⟨a, b, o, c, h, -⟩ := h; exact ⟨a, c, h⟩
  have f2 : ¬ (25 : Int) < (T.length : Int) := by omega
  generalize T.length = tn at *
  have f3 : IntKind.i64.wrap ((L1.length : Int) - 1) = m := by rw [hm]; exact IntWalk.i64_in _ (by omega)
  obtain ⟨p1, a1, o1, c1, rfl, -, -, -, -⟩ := h1
  obtain ⟨p2, a2, o2, c2, rfl, -, -, -, -⟩ := h2
  obtain ⟨p3, a3, o3, c3, rfl, -, -⟩ := h3
  generalize L1.length = n1 at *
  generalize L2.length = n2 at *
  generalize L3.length = n3 at *
  clear h40 ht hm h25
  unfold ResP at HO
  unfold RPPost at *
  unfold IPost at *
  unfold BPost at *
  unfold Ret at *
  go_enter Tryz.func3, Tryz.ntmps3
  go_wp2_with fail
  refine (HS.out _ E.out).mono ?_
  rintro e x1 ⟨rfl, b1⟩
  have E := Lib.hid (chain E.out b1)
  clear b1
  go_wp2_with fail
  refine (HD.out _ E.out).mono ?_
  rintro e x2 ⟨rfl, b2⟩
  have E := Lib.hid (chain E.out b2)
  clear b2
  go_wp2_with fail
  refine (HB.out _ E.out).mono ?_
  rintro e x3 ⟨rfl, b3⟩
  have E := Lib.hid (chain E.out b3)
  clear b3
  go_wp2_with fail
  refine (HV.out _ E.out).mono ?_
  rintro e x4 ⟨rfl, b4⟩
  have E := Lib.hid (chain E.out b4)
  clear b4
  go_wp2_with fail
  refine (HRV.out _ E.out).mono ?_
  rintro e x5 ⟨rfl, b5⟩
  have E := Lib.hid (chain E.out b5)
  clear b5
  go_wp2_with fail
  refine (HE1.out _ E.out).mono ?_
  rintro e x6 ⟨rfl, b6⟩
  have E := Lib.hid (chain E.out b6)
  clear b6
  go_wp2_with fail
  refine (HE2.out _ E.out).mono ?_
  rintro e x7 ⟨rfl, b7⟩
  have E := Lib.hid (chain E.out b7)
  clear b7
  go_wp2_with fail
  refine (HE3.out _ E.out).mono ?_
  rintro e x8 ⟨rfl, b8⟩
  have E := Lib.hid (chain E.out b8)
  clear b8
  go_wp2_with fail
  refine (HVL.out _ E.out).mono ?_
  rintro e x9 ⟨rfl, b9⟩
  have E := Lib.hid (chain E.out b9)
  clear b9
  go_wp2_with fail
  refine (HF.out _ E.out).mono ?_
  rintro e x10 ⟨y10, rfl, r10, b10⟩
  have E := Lib.hid (chain E.out b10)
  have RX := Lib.hid r10
  clear r10
  clear b10
  go_wp2_with fail
  refine (HRB.out _ _ RX.out).mono ?_
  rintro e x11 ⟨rfl, b11⟩
  have RX := Lib.hid (RX.out.below b11)
  have E := Lib.hid (chain E.out b11)
  clear b11
  go_wp2_with fail
  refine (HO.out _ E.out).mono ?_
  rintro e x12 ⟨y12, rfl, r12, b12⟩
  have RX := Lib.hid (RX.out.below b12)
  have E := Lib.hid (chain E.out b12)
  have RO := Lib.hid r12
  clear r12
  clear b12
  go_wp2_with fail
  refine (HN.out _ E.out).mono ?_
  rintro e x13 ⟨y13, rfl, r13, b13⟩
  have RX := Lib.hid (RX.out.below b13)
  have RO := Lib.hid (RO.out.below b13)
  have E := Lib.hid (chain E.out b13)
  have RT := Lib.hid r13
  obtain ⟨RTa, RTc, hRT⟩ := HOT.out _ _ r13
  subst hRT
  clear r13
  clear b13
  go_wp2_with fail
  refine (HE.out _ _ _ RO.out RT.out).mono ?_
  rintro e x14 ⟨rfl, b14⟩
  have RX := Lib.hid (RX.out.below b14)
  have RO := Lib.hid (RO.out.below b14)
  have RT := Lib.hid (RT.out.below b14)
  have E := Lib.hid (chain E.out b14)
  clear b14
  go_wp2_with fail
  refine (HK.out _).mono ?_
  rintro e x15 ⟨rfl, b15⟩
  have RX := Lib.hid (RX.out.below b15)
  have RO := Lib.hid (RO.out.below b15)
  have RT := Lib.hid (RT.out.below b15)
  have E := Lib.hid (chain E.out b15)
  clear b15
  go_wp2
  go_ret
  exact ⟨rfl, E.out⟩

set_option maxRecDepth 100000 in
set_option maxHeartbeats 8000000 in
theorem pvd_gf_false (L1 L2 : List (Bool × ByteArray)) (L3 : List Int) (v1 v2 v3 : Value) (w : World) (h1 : Rw w v1 L1) (h2 : Rw w v2 L2) (h3 : Rn w v3 L3) (h40 : L3.length ≤ 40) (T : List Int) (ht : T.length ≤ 25) (p : List Int) (m g : Int) (hm : (L1.length : Int) - 1 = m) (h25 : L1.length ≤ 25)
    (HS : ∀ w', Below w.heap.size w w' → Calls Tryz.prog 11 #[.slice (some ⟨w'.heap.size, 0, none⟩) 2 2] (w'.alloc (.cells #[v1, v2] 23)) (BPost true w'))
    (HD : ∀ w', Below w.heap.size w w' → Calls Tryz.prog 13 #[v1] w' (Ret (.tuple #[.int .i64 m, .int .i64 0]) w'))
    (HB : ∀ w', Below w.heap.size w w' → Calls Tryz.prog 14 #[v1] w' (Ret (.tuple #[.int .i64 g, .int .i64 0]) w'))
    (HV : ∀ w', Below w.heap.size w w' → Calls Tryz.prog 15 #[v1] w' (BPost true w'))
    (HRV : ∀ w', Below w.heap.size w w' → Calls Tryz.prog 16 #[v1] w' (BPost true w'))
    (HE1 : ∀ w', Below w.heap.size w w' → Calls Tryz.prog 17 #[v1, v2] w' (BPost false w'))
    (HE2 : ∀ w', Below w.heap.size w w' → Calls Tryz.prog 18 #[v1, v2] w' (BPost false w'))
    (HE3 : ∀ w', Below w.heap.size w w' → Calls Tryz.prog 17 #[v1, v1] w' (BPost true w'))
    (HVL : ∀ w', Below w.heap.size w w' → Calls Tryz.prog 19 #[.slice (some ⟨w'.heap.size, 0, none⟩) 1 1] (w'.alloc (.cells #[v1] 23)) (BPost true w'))
    (HF : ∀ w', Below w.heap.size w w' → Calls Tryz.prog 21 #[v1] w' (RPPost p w'))
    (HRB : ∀ w' x, RP w' x p → Calls Tryz.prog 20 #[x] w' (IPost g w'))
    (HO : ∀ w', Below w.heap.size w w' → Calls Tryz.prog 22 #[v3] w' (ResP T w'))
    (HN : ∀ w', Below w.heap.size w w' → Calls Tryz.prog 23 #[v3] w' (RPPost T w'))
    (HE : ∀ w' v x, Rp w' v T → RP w' x T → Calls Tryz.prog 24 #[v, .int .i64 0, x] w' (BPost true w')) :
    Calls Tryz.prog 3 #[v1, v2, v3] w (Ret (.bool true) w) := by
  have HK := Lib.hid known_true
  have E : Hid (Below w.heap.size w w) := Below.refl _ _
  have HS := Lib.hid HS
  have HD := Lib.hid HD
  have HB := Lib.hid HB
  have HV := Lib.hid HV
  have HRV := Lib.hid HRV
  have HE1 := Lib.hid HE1
  have HE2 := Lib.hid HE2
  have HE3 := Lib.hid HE3
  have HVL := Lib.hid HVL
  have HF := Lib.hid HF
  have HRB := Lib.hid HRB
  have HO := Lib.hid HO
  have HN := Lib.hid HN
  have HE := Lib.hid HE
  have f1 : ¬ (40 : Int) < (L3.length : Int) := by omega
  have HOT : Hid (∀ w' v, RP w' v T → ∃ a c, v = .slice a T.length c) := fun w' v h => by obtain ⟨a, b, o, c, h, -⟩ := h; exact ⟨a, c, h⟩
  have f2 : ¬ (25 : Int) < (T.length : Int) := by omega
  generalize T.length = tn at *
  have f3 : IntKind.i64.wrap ((L1.length : Int) - 1) = m := by rw [hm]; exact IntWalk.i64_in _ (by omega)
  obtain ⟨p1, a1, o1, c1, rfl, -, -, -, -⟩ := h1
  obtain ⟨p2, a2, o2, c2, rfl, -, -, -, -⟩ := h2
  obtain ⟨p3, a3, o3, c3, rfl, -, -⟩ := h3
  generalize L1.length = n1 at *
  generalize L2.length = n2 at *
  generalize L3.length = n3 at *
  clear h40 ht hm h25
  unfold ResP at HO
  unfold RPPost at *
  unfold IPost at *
  unfold BPost at *
  unfold Ret at *
  go_enter Tryz.func3, Tryz.ntmps3
  go_wp2_with fail
  refine (HS.out _ E.out).mono ?_
  rintro e x1 ⟨rfl, b1⟩
  have E := Lib.hid (chain E.out b1)
  clear b1
  go_wp2_with fail
  refine (HD.out _ E.out).mono ?_
  rintro e x2 ⟨rfl, b2⟩
  have E := Lib.hid (chain E.out b2)
  clear b2
  go_wp2_with fail
  refine (HB.out _ E.out).mono ?_
  rintro e x3 ⟨rfl, b3⟩
  have E := Lib.hid (chain E.out b3)
  clear b3
  go_wp2_with fail
  refine (HV.out _ E.out).mono ?_
  rintro e x4 ⟨rfl, b4⟩
  have E := Lib.hid (chain E.out b4)
  clear b4
  go_wp2_with fail
  refine (HRV.out _ E.out).mono ?_
  rintro e x5 ⟨rfl, b5⟩
  have E := Lib.hid (chain E.out b5)
  clear b5
  go_wp2_with fail
  refine (HE1.out _ E.out).mono ?_
  rintro e x6 ⟨rfl, b6⟩
  have E := Lib.hid (chain E.out b6)
  clear b6
  go_wp2_with fail
  refine (HE2.out _ E.out).mono ?_
  rintro e x7 ⟨rfl, b7⟩
  have E := Lib.hid (chain E.out b7)
  clear b7
  go_wp2_with fail
  refine (HE3.out _ E.out).mono ?_
  rintro e x8 ⟨rfl, b8⟩
  have E := Lib.hid (chain E.out b8)
  clear b8
  go_wp2_with fail
  refine (HVL.out _ E.out).mono ?_
  rintro e x9 ⟨rfl, b9⟩
  have E := Lib.hid (chain E.out b9)
  clear b9
  go_wp2_with fail
  refine (HF.out _ E.out).mono ?_
  rintro e x10 ⟨y10, rfl, r10, b10⟩
  have E := Lib.hid (chain E.out b10)
  have RX := Lib.hid r10
  clear r10
  clear b10
  go_wp2_with fail
  refine (HRB.out _ _ RX.out).mono ?_
  rintro e x11 ⟨rfl, b11⟩
  have RX := Lib.hid (RX.out.below b11)
  have E := Lib.hid (chain E.out b11)
  clear b11
  go_wp2_with fail
  refine (HO.out _ E.out).mono ?_
  rintro e x12 ⟨y12, rfl, r12, b12⟩
  have RX := Lib.hid (RX.out.below b12)
  have E := Lib.hid (chain E.out b12)
  have RO := Lib.hid r12
  clear r12
  clear b12
  go_wp2_with fail
  refine (HN.out _ E.out).mono ?_
  rintro e x13 ⟨y13, rfl, r13, b13⟩
  have RX := Lib.hid (RX.out.below b13)
  have RO := Lib.hid (RO.out.below b13)
  have E := Lib.hid (chain E.out b13)
  have RT := Lib.hid r13
  obtain ⟨RTa, RTc, hRT⟩ := HOT.out _ _ r13
  subst hRT
  clear r13
  clear b13
  go_wp2_with fail
  refine (HE.out _ _ _ RO.out RT.out).mono ?_
  rintro e x14 ⟨rfl, b14⟩
  have RX := Lib.hid (RX.out.below b14)
  have RO := Lib.hid (RO.out.below b14)
  have RT := Lib.hid (RT.out.below b14)
  have E := Lib.hid (chain E.out b14)
  clear b14
  go_wp2_with fail
  refine (HK.out _).mono ?_
  rintro e x15 ⟨rfl, b15⟩
  have RX := Lib.hid (RX.out.below b15)
  have RO := Lib.hid (RO.out.below b15)
  have RT := Lib.hid (RT.out.below b15)
  have E := Lib.hid (chain E.out b15)
  clear b15
  go_wp2
  go_ret
  exact ⟨rfl, E.out⟩

set_option maxRecDepth 100000 in
set_option maxHeartbeats 8000000 in
theorem pvd_gu_true (L1 L2 : List (Bool × ByteArray)) (L3 : List Int) (v1 v2 v3 : Value) (w : World) (h1 : Rw w v1 L1) (h2 : Rw w v2 L2) (h3 : Rn w v3 L3) (h40 : L3.length ≤ 40) (T : List Int) (ht : 25 < T.length) (p : List Int) (m g : Int) (hm : (L1.length : Int) - 1 = m) (h25 : L1.length ≤ 25)
    (HS : ∀ w', Below w.heap.size w w' → Calls Tryz.prog 11 #[.slice (some ⟨w'.heap.size, 0, none⟩) 2 2] (w'.alloc (.cells #[v1, v2] 23)) (BPost true w'))
    (HD : ∀ w', Below w.heap.size w w' → Calls Tryz.prog 13 #[v1] w' (Ret (.tuple #[.int .i64 m, .int .i64 0]) w'))
    (HB : ∀ w', Below w.heap.size w w' → Calls Tryz.prog 14 #[v1] w' (Ret (.tuple #[.int .i64 g, .int .i64 0]) w'))
    (HV : ∀ w', Below w.heap.size w w' → Calls Tryz.prog 15 #[v1] w' (BPost true w'))
    (HRV : ∀ w', Below w.heap.size w w' → Calls Tryz.prog 16 #[v1] w' (BPost true w'))
    (HE1 : ∀ w', Below w.heap.size w w' → Calls Tryz.prog 17 #[v1, v2] w' (BPost true w'))
    (HE2 : ∀ w', Below w.heap.size w w' → Calls Tryz.prog 18 #[v1, v2] w' (BPost true w'))
    (HE3 : ∀ w', Below w.heap.size w w' → Calls Tryz.prog 17 #[v1, v1] w' (BPost true w'))
    (HVL : ∀ w', Below w.heap.size w w' → Calls Tryz.prog 19 #[.slice (some ⟨w'.heap.size, 0, none⟩) 1 1] (w'.alloc (.cells #[v1] 23)) (BPost true w'))
    (HF : ∀ w', Below w.heap.size w w' → Calls Tryz.prog 21 #[v1] w' (RPPost p w'))
    (HRB : ∀ w' x, RP w' x p → Calls Tryz.prog 20 #[x] w' (IPost g w'))
    (HO : ∀ w', Below w.heap.size w w' → Calls Tryz.prog 22 #[v3] w' (ResE 7 w'))
    (HN : ∀ w', Below w.heap.size w w' → Calls Tryz.prog 23 #[v3] w' (RPPost T w')) :
    Calls Tryz.prog 3 #[v1, v2, v3] w (Ret (.bool true) w) := by
  have HK := Lib.hid known_true
  have E : Hid (Below w.heap.size w w) := Below.refl _ _
  have HS := Lib.hid HS
  have HD := Lib.hid HD
  have HB := Lib.hid HB
  have HV := Lib.hid HV
  have HRV := Lib.hid HRV
  have HE1 := Lib.hid HE1
  have HE2 := Lib.hid HE2
  have HE3 := Lib.hid HE3
  have HVL := Lib.hid HVL
  have HF := Lib.hid HF
  have HRB := Lib.hid HRB
  have HO := Lib.hid HO
  have HN := Lib.hid HN
  have f1 : ¬ (40 : Int) < (L3.length : Int) := by omega
  have HOT : Hid (∀ w' v, RP w' v T → ∃ a c, v = .slice a T.length c) := fun w' v h => by obtain ⟨a, b, o, c, h, -⟩ := h; exact ⟨a, c, h⟩
  have f2 : (25 : Int) < (T.length : Int) := by omega
  generalize T.length = tn at *
  have f3 : IntKind.i64.wrap ((L1.length : Int) - 1) = m := by rw [hm]; exact IntWalk.i64_in _ (by omega)
  obtain ⟨p1, a1, o1, c1, rfl, -, -, -, -⟩ := h1
  obtain ⟨p2, a2, o2, c2, rfl, -, -, -, -⟩ := h2
  obtain ⟨p3, a3, o3, c3, rfl, -, -⟩ := h3
  generalize L1.length = n1 at *
  generalize L2.length = n2 at *
  generalize L3.length = n3 at *
  clear h40 ht hm h25
  unfold ResE at HO
  unfold RPPost at *
  unfold IPost at *
  unfold BPost at *
  unfold Ret at *
  go_enter Tryz.func3, Tryz.ntmps3
  go_wp2_with fail
  refine (HS.out _ E.out).mono ?_
  rintro e x1 ⟨rfl, b1⟩
  have E := Lib.hid (chain E.out b1)
  clear b1
  go_wp2_with fail
  refine (HD.out _ E.out).mono ?_
  rintro e x2 ⟨rfl, b2⟩
  have E := Lib.hid (chain E.out b2)
  clear b2
  go_wp2_with fail
  refine (HB.out _ E.out).mono ?_
  rintro e x3 ⟨rfl, b3⟩
  have E := Lib.hid (chain E.out b3)
  clear b3
  go_wp2_with fail
  refine (HV.out _ E.out).mono ?_
  rintro e x4 ⟨rfl, b4⟩
  have E := Lib.hid (chain E.out b4)
  clear b4
  go_wp2_with fail
  refine (HRV.out _ E.out).mono ?_
  rintro e x5 ⟨rfl, b5⟩
  have E := Lib.hid (chain E.out b5)
  clear b5
  go_wp2_with fail
  refine (HE1.out _ E.out).mono ?_
  rintro e x6 ⟨rfl, b6⟩
  have E := Lib.hid (chain E.out b6)
  clear b6
  go_wp2_with fail
  refine (HE2.out _ E.out).mono ?_
  rintro e x7 ⟨rfl, b7⟩
  have E := Lib.hid (chain E.out b7)
  clear b7
  go_wp2_with fail
  refine (HE3.out _ E.out).mono ?_
  rintro e x8 ⟨rfl, b8⟩
  have E := Lib.hid (chain E.out b8)
  clear b8
  go_wp2_with fail
  refine (HVL.out _ E.out).mono ?_
  rintro e x9 ⟨rfl, b9⟩
  have E := Lib.hid (chain E.out b9)
  clear b9
  go_wp2_with fail
  refine (HF.out _ E.out).mono ?_
  rintro e x10 ⟨y10, rfl, r10, b10⟩
  have E := Lib.hid (chain E.out b10)
  have RX := Lib.hid r10
  clear r10
  clear b10
  go_wp2_with fail
  refine (HRB.out _ _ RX.out).mono ?_
  rintro e x11 ⟨rfl, b11⟩
  have RX := Lib.hid (RX.out.below b11)
  have E := Lib.hid (chain E.out b11)
  clear b11
  go_wp2_with fail
  refine (HO.out _ E.out).mono ?_
  rintro e x12 ⟨rfl, b12⟩
  have RX := Lib.hid (RX.out.below b12)
  have E := Lib.hid (chain E.out b12)
  clear b12
  go_wp2_with fail
  refine (HN.out _ E.out).mono ?_
  rintro e x13 ⟨y13, rfl, r13, b13⟩
  have RX := Lib.hid (RX.out.below b13)
  have E := Lib.hid (chain E.out b13)
  have RT := Lib.hid r13
  obtain ⟨RTa, RTc, hRT⟩ := HOT.out _ _ r13
  subst hRT
  clear r13
  clear b13
  go_wp2_with fail
  refine (HK.out _).mono ?_
  rintro e x14 ⟨rfl, b14⟩
  have RX := Lib.hid (RX.out.below b14)
  have RT := Lib.hid (RT.out.below b14)
  have E := Lib.hid (chain E.out b14)
  clear b14
  go_wp2
  go_ret
  exact ⟨rfl, E.out⟩

set_option maxRecDepth 100000 in
set_option maxHeartbeats 8000000 in
theorem pvd_gu_false (L1 L2 : List (Bool × ByteArray)) (L3 : List Int) (v1 v2 v3 : Value) (w : World) (h1 : Rw w v1 L1) (h2 : Rw w v2 L2) (h3 : Rn w v3 L3) (h40 : L3.length ≤ 40) (T : List Int) (ht : 25 < T.length) (p : List Int) (m g : Int) (hm : (L1.length : Int) - 1 = m) (h25 : L1.length ≤ 25)
    (HS : ∀ w', Below w.heap.size w w' → Calls Tryz.prog 11 #[.slice (some ⟨w'.heap.size, 0, none⟩) 2 2] (w'.alloc (.cells #[v1, v2] 23)) (BPost true w'))
    (HD : ∀ w', Below w.heap.size w w' → Calls Tryz.prog 13 #[v1] w' (Ret (.tuple #[.int .i64 m, .int .i64 0]) w'))
    (HB : ∀ w', Below w.heap.size w w' → Calls Tryz.prog 14 #[v1] w' (Ret (.tuple #[.int .i64 g, .int .i64 0]) w'))
    (HV : ∀ w', Below w.heap.size w w' → Calls Tryz.prog 15 #[v1] w' (BPost true w'))
    (HRV : ∀ w', Below w.heap.size w w' → Calls Tryz.prog 16 #[v1] w' (BPost true w'))
    (HE1 : ∀ w', Below w.heap.size w w' → Calls Tryz.prog 17 #[v1, v2] w' (BPost false w'))
    (HE2 : ∀ w', Below w.heap.size w w' → Calls Tryz.prog 18 #[v1, v2] w' (BPost false w'))
    (HE3 : ∀ w', Below w.heap.size w w' → Calls Tryz.prog 17 #[v1, v1] w' (BPost true w'))
    (HVL : ∀ w', Below w.heap.size w w' → Calls Tryz.prog 19 #[.slice (some ⟨w'.heap.size, 0, none⟩) 1 1] (w'.alloc (.cells #[v1] 23)) (BPost true w'))
    (HF : ∀ w', Below w.heap.size w w' → Calls Tryz.prog 21 #[v1] w' (RPPost p w'))
    (HRB : ∀ w' x, RP w' x p → Calls Tryz.prog 20 #[x] w' (IPost g w'))
    (HO : ∀ w', Below w.heap.size w w' → Calls Tryz.prog 22 #[v3] w' (ResE 7 w'))
    (HN : ∀ w', Below w.heap.size w w' → Calls Tryz.prog 23 #[v3] w' (RPPost T w')) :
    Calls Tryz.prog 3 #[v1, v2, v3] w (Ret (.bool true) w) := by
  have HK := Lib.hid known_true
  have E : Hid (Below w.heap.size w w) := Below.refl _ _
  have HS := Lib.hid HS
  have HD := Lib.hid HD
  have HB := Lib.hid HB
  have HV := Lib.hid HV
  have HRV := Lib.hid HRV
  have HE1 := Lib.hid HE1
  have HE2 := Lib.hid HE2
  have HE3 := Lib.hid HE3
  have HVL := Lib.hid HVL
  have HF := Lib.hid HF
  have HRB := Lib.hid HRB
  have HO := Lib.hid HO
  have HN := Lib.hid HN
  have f1 : ¬ (40 : Int) < (L3.length : Int) := by omega
  have HOT : Hid (∀ w' v, RP w' v T → ∃ a c, v = .slice a T.length c) := fun w' v h => by obtain ⟨a, b, o, c, h, -⟩ := h; exact ⟨a, c, h⟩
  have f2 : (25 : Int) < (T.length : Int) := by omega
  generalize T.length = tn at *
  have f3 : IntKind.i64.wrap ((L1.length : Int) - 1) = m := by rw [hm]; exact IntWalk.i64_in _ (by omega)
  obtain ⟨p1, a1, o1, c1, rfl, -, -, -, -⟩ := h1
  obtain ⟨p2, a2, o2, c2, rfl, -, -, -, -⟩ := h2
  obtain ⟨p3, a3, o3, c3, rfl, -, -⟩ := h3
  generalize L1.length = n1 at *
  generalize L2.length = n2 at *
  generalize L3.length = n3 at *
  clear h40 ht hm h25
  unfold ResE at HO
  unfold RPPost at *
  unfold IPost at *
  unfold BPost at *
  unfold Ret at *
  go_enter Tryz.func3, Tryz.ntmps3
  go_wp2_with fail
  refine (HS.out _ E.out).mono ?_
  rintro e x1 ⟨rfl, b1⟩
  have E := Lib.hid (chain E.out b1)
  clear b1
  go_wp2_with fail
  refine (HD.out _ E.out).mono ?_
  rintro e x2 ⟨rfl, b2⟩
  have E := Lib.hid (chain E.out b2)
  clear b2
  go_wp2_with fail
  refine (HB.out _ E.out).mono ?_
  rintro e x3 ⟨rfl, b3⟩
  have E := Lib.hid (chain E.out b3)
  clear b3
  go_wp2_with fail
  refine (HV.out _ E.out).mono ?_
  rintro e x4 ⟨rfl, b4⟩
  have E := Lib.hid (chain E.out b4)
  clear b4
  go_wp2_with fail
  refine (HRV.out _ E.out).mono ?_
  rintro e x5 ⟨rfl, b5⟩
  have E := Lib.hid (chain E.out b5)
  clear b5
  go_wp2_with fail
  refine (HE1.out _ E.out).mono ?_
  rintro e x6 ⟨rfl, b6⟩
  have E := Lib.hid (chain E.out b6)
  clear b6
  go_wp2_with fail
  refine (HE2.out _ E.out).mono ?_
  rintro e x7 ⟨rfl, b7⟩
  have E := Lib.hid (chain E.out b7)
  clear b7
  go_wp2_with fail
  refine (HE3.out _ E.out).mono ?_
  rintro e x8 ⟨rfl, b8⟩
  have E := Lib.hid (chain E.out b8)
  clear b8
  go_wp2_with fail
  refine (HVL.out _ E.out).mono ?_
  rintro e x9 ⟨rfl, b9⟩
  have E := Lib.hid (chain E.out b9)
  clear b9
  go_wp2_with fail
  refine (HF.out _ E.out).mono ?_
  rintro e x10 ⟨y10, rfl, r10, b10⟩
  have E := Lib.hid (chain E.out b10)
  have RX := Lib.hid r10
  clear r10
  clear b10
  go_wp2_with fail
  refine (HRB.out _ _ RX.out).mono ?_
  rintro e x11 ⟨rfl, b11⟩
  have RX := Lib.hid (RX.out.below b11)
  have E := Lib.hid (chain E.out b11)
  clear b11
  go_wp2_with fail
  refine (HO.out _ E.out).mono ?_
  rintro e x12 ⟨rfl, b12⟩
  have RX := Lib.hid (RX.out.below b12)
  have E := Lib.hid (chain E.out b12)
  clear b12
  go_wp2_with fail
  refine (HN.out _ E.out).mono ?_
  rintro e x13 ⟨y13, rfl, r13, b13⟩
  have RX := Lib.hid (RX.out.below b13)
  have E := Lib.hid (chain E.out b13)
  have RT := Lib.hid r13
  obtain ⟨RTa, RTc, hRT⟩ := HOT.out _ _ r13
  subst hRT
  clear r13
  clear b13
  go_wp2_with fail
  refine (HK.out _).mono ?_
  rintro e x14 ⟨rfl, b14⟩
  have RX := Lib.hid (RX.out.below b14)
  have RT := Lib.hid (RT.out.below b14)
  have E := Lib.hid (chain E.out b14)
  clear b14
  go_wp2
  go_ret
  exact ⟨rfl, E.out⟩
end Go.Proofs.YtepddegphdlbeaaGreat

/- PolySums: the walks where both are valid. -/
namespace Go.Proofs.YtepddegphdlbeaaGreat
open Go.RowKit

end Go.Proofs.YtepddegphdlbeaaGreat

/- PolySums gives true for all lists. -/
namespace Go.Proofs.YtepddegphdlbeaaGreat
open Go.RowKit

end Go.Proofs.YtepddegphdlbeaaGreat

/- PolyValid gives true for all inputs. -/
namespace Go.Proofs.YtepddegphdlbeaaGreat
open Go.RowKit

theorem pvd_any (L1 L2 : List (Bool × ByteArray)) (L3 : List Int) (v1 v2 v3 : Value) (w : World) (h1 : Rw w v1 L1) (h2 : Rw w v2 L2) (h3 : Rn w v3 L3) (z1 : Lim L1) (z2 : Lim L2)
    (h64 : ∀ a ∈ L3, -9223372036854775808 ≤ a ∧ a ≤ 9223372036854775807) :
    Calls Tryz.prog 3 #[v1, v2, v3] w (Ret (.bool true) w) := by
  cases hs : (shP L1 && shP L2) with
  | false => exact pvd_long0 L1 L2 L3 v1 v2 v3 w h1 h2 h3 (fun w' hb => k_short (h1.below hb) (h2.below hb) z1 z2 _ hs)
  | true =>
    have HS := fun w' (hb : Below w.heap.size w w') => k_short (h1.below hb) (h2.below hb) z1 z2 _ hs
    have hs2 := hs
    rw [Bool.and_eq_true] at hs2
    have sm := shP_small hs2.1
    by_cases h40 : L3.length ≤ 40
    · have hn : ∀ w', Below w.heap.size w w' → Rn w' v3 L3 := by
        intro w' hb
        obtain ⟨p, b, off, cap, e1, e2, e3⟩ := h3
        exact ⟨p, b, off, cap, e1, e2, fun k h => at_old hb (e3 k h)⟩
      have HN := fun w' (hb : Below w.heap.size w w') => rNums_any L3 v3 w' (hn w' hb) (by omega) h64
      have HO := fun w' (hb : Below w.heap.size w w') => Of_poly L3 v3 w' (hn w' hb) (by omega) h64
      have HV := fun w' (hb : Below w.heap.size w w') => pvalid_any L1 v1 w' (h1.below hb) sm
      have HRV := fun w' (hb : Below w.heap.size w w') => rValid2_any L1 v1 w' (h1.below hb) sm
      have HVL := fun w' (hb : Below w.heap.size w w') => k_valid1 (h1.below hb) sm _ rfl
      have HE1 := fun w' (hb : Below w.heap.size w w') => Equal_any L1 L2 v1 v2 w' (h1.below hb) (h2.below hb)
      have HE2 := fun w' (hb : Below w.heap.size w w') => rSame_any L1 L2 v1 v2 w' (h1.below hb) (h2.below hb)
      have HE3 := fun w' (hb : Below w.heap.size w w') => Equal_any L1 L1 v1 v1 w' (h1.below hb) (h1.below hb)
      rw [show decide (L1 = L1) = true by simp] at HE3
      have HE : (Pl.trim L3).length ≤ 25 → ∀ w' v x, Rp w' v (Pl.trim L3) → RP w' x (Pl.trim L3) → Calls Tryz.prog 24 #[v, .int .i64 0, x] w' (BPost true w') :=
        fun hT w' v x hv hx => same_true2 _ v x w' hv hx hT (fun a ha => i64_top (h64 a (trim_mem ha))) (fun a ha => i64_len (h64 a (trim_mem ha)))
      have HOf : (Pl.trim L3).length ≤ 25 → ∀ w', Below w.heap.size w w' → Calls Tryz.prog 22 #[v3] w' (ResP (Pl.trim L3) w') :=
        fun hT w' hb => (HO w' hb).mono fun e w'' hr => by simpa only [hT, if_true] using hr
      have HOu : ¬ (Pl.trim L3).length ≤ 25 → ∀ w', Below w.heap.size w w' → Calls Tryz.prog 22 #[v3] w' (ResE 7 w') :=
        fun hT w' hb => (HO w' hb).mono fun e w'' hr => by simpa only [hT, if_false] using hr
      generalize hr : decide (L1 = L2) = r at HE1 HE2
      clear hr
      cases hv : vldP L1 with
      | false =>
        rw [hv] at HV HRV HVL
        have HD := fun w' (hb : Below w.heap.size w w') => Degree_bad L1 v1 w' (h1.below hb) sm hv
        have HB := fun w' (hb : Below w.heap.size w w') => Bits_bad L1 v1 w' (h1.below hb) sm hv
        by_cases hT : (Pl.trim L3).length ≤ 25
        · cases r
          · exact pvd_bf_false L1 L2 L3 v1 v2 v3 w h1 h2 h3 h40 _ hT HS HD HB HV HRV HE1 HE2 HE3 HVL (HOf hT) HN (HE hT)
          · exact pvd_bf_true L1 L2 L3 v1 v2 v3 w h1 h2 h3 h40 _ hT HS HD HB HV HRV HE1 HE2 HE3 HVL (HOf hT) HN (HE hT)
        · cases r
          · exact pvd_bu_false L1 L2 L3 v1 v2 v3 w h1 h2 h3 h40 _ (by omega) HS HD HB HV HRV HE1 HE2 HE3 HVL (HOu hT) HN
          · exact pvd_bu_true L1 L2 L3 v1 v2 v3 w h1 h2 h3 h40 _ (by omega) HS HD HB HV HRV HE1 HE2 HE3 HVL (HOu hT) HN
      | true =>
        rw [hv] at HV HRV HVL
        have HD := fun w' (hb : Below w.heap.size w w') => Degree_ok L1 v1 w' (h1.below hb) sm hv
        have HB := fun w' (hb : Below w.heap.size w w') => Bits_ok L1 v1 w' (h1.below hb) sm hv
        obtain ⟨p, hp, rfl⟩ := VP.of hv
        have sp := shP_sz hs2.1
        obtain ⟨N, hN⟩ : ∃ N : Nat, N = 16 := ⟨_, rfl⟩
        rw [← hN] at sp
        have l25 := hp.len
        have HF := fun w' (hb : Below w.heap.size w w') => rFrom2_any p v1 w' (h1.below hb) (by omega) hp.top
        have HRB := fun w' x (hx : RP w' x p) => rBits2_any p x w' hx hp.top (sp.len9 (by omega))
        by_cases hT : (Pl.trim L3).length ≤ 25
        · cases r
          · exact pvd_gf_false (zl p) L2 L3 v1 v2 v3 w h1 h2 h3 h40 _ hT p _ _ rfl (by rw [zl_length]; exact l25) HS HD HB HV HRV HE1 HE2 HE3 HVL HF HRB (HOf hT) HN (HE hT)
          · exact pvd_gf_true (zl p) L2 L3 v1 v2 v3 w h1 h2 h3 h40 _ hT p _ _ rfl (by rw [zl_length]; exact l25) HS HD HB HV HRV HE1 HE2 HE3 HVL HF HRB (HOf hT) HN (HE hT)
        · cases r
          · exact pvd_gu_false (zl p) L2 L3 v1 v2 v3 w h1 h2 h3 h40 _ (by omega) p _ _ rfl (by rw [zl_length]; exact l25) HS HD HB HV HRV HE1 HE2 HE3 HVL HF HRB (HOu hT) HN
          · exact pvd_gu_true (zl p) L2 L3 v1 v2 v3 w h1 h2 h3 h40 _ (by omega) p _ _ rfl (by rw [zl_length]; exact l25) HS HD HB HV HRV HE1 HE2 HE3 HVL HF HRB (HOu hT) HN
    · exact pvd_long1 L1 L2 L3 v1 v2 v3 w h1 h2 h3 (by omega) HS
end Go.Proofs.YtepddegphdlbeaaGreat

/- What comes in and goes out: wide integers and ratios. -/
namespace Go.Proofs.YtepddegphdlbeaaGreat
open Go.ChangeShapes Go.WideShapes Go.ChangeAt Go.RowKit Go.Joins
open Go.ChangeMaps (open_string shut_string)

theorem Tryz.own : ownKnob Tryz.prog.godebug = none := by kernel_rfl
theorem Tryz.cellsWide : Tryz.prog.cellsOf 44 = 2 := by kernel_rfl

end Go.Proofs.YtepddegphdlbeaaGreat

/- What comes in and goes out: a polynomial, a list of ints. -/
namespace Go.Proofs.YtepddegphdlbeaaGreat
open Go.ChangeShapes Go.WideShapes Go.ChangeAt Go.RowKit Go.Joins Go.Deep
open Go.ChangeMaps (open_string shut_string)

theorem choose_lt2 {α : Type} [Inhabited α] {m : Nat} {P : Nat → α → Prop} (h : ∀ i, i < m → ∃ x, P i x) : ∃ f : Nat → α, ∀ i, i < m → P i (f i) :=
  ⟨fun i => if hi : i < m then (h i hi).choose else default, fun i hi => by show P i (dite _ _ _); rw [dif_pos hi]; exact (h i hi).choose_spec⟩

set_option maxRecDepth 100000 in
/-- A polynomial that came in: it reads as a list, and so behind the call. -/
theorem open_poly {H : Type} {enc : TypeId × Value → H} {W : World} {b0 : Nat} {r : Reach} {v : Value} {d : DataW H} {p : List MemPlace}
    (hv : Value.okWide Tryz.prog W r b0 23 v) (h : DataW.Trod enc Tryz.prog W 0 (fun _ => true) true 23 v d p) :
    ∃ L : List (Bool × ByteArray), Rw W v L ∧ Lim L ∧ ∀ W', Below W.heap.size W W' → DataW.Trod enc Tryz.prog W' 0 (fun b => decide (b < W.heap.size)) true 23 v d p := by
  have hu := Tryz.underlying23
  have he := Tryz.underlying44
  have c2 : Tryz.prog.cellsOf 44 = 2 := Tryz.cellsWide
  have cb : Tryz.prog.cellsOf 4 = 1 := by kernel_rfl
  have cs : Tryz.prog.cellsOf 9 = 1 := by kernel_rfl
  obtain ⟨a0, len0, cap0, rfl⟩ := okWide_slice hu hv
  obtain ⟨fuel, hf⟩ := h
  rcases open_slice_pairs hu he c2 rfl rfl cb cs hf with ⟨hcs, hx⟩ | ⟨a, len, cap, m, n, V0, V1, D0, D1, P0, P1, hcs, hb, hl, hm, hmm, hx, hall⟩
  · simp [Value.cells] at hcs
    obtain ⟨rfl, rfl, rfl⟩ := hcs
    simp only [Prod.mk.injEq] at hx
    obtain ⟨rfl, rfl⟩ := hx
    exact ⟨[], Rw.nil W, fun x hx => (nomatch hx), fun W' _ => shut_slice_nil hu⟩
  · simp [Value.cells] at hcs
    obtain ⟨rfl, rfl, rfl⟩ := hcs
    simp only [if_true] at hmm
    subst hmm
    simp only [Prod.mk.injEq] at hx
    obtain ⟨rfl, rfl⟩ := hx
    rcases Nat.eq_zero_or_pos m with h0 | h0
    · subst h0
      have hl0 : len0 = 0 := by omega
      subst hl0
      refine ⟨[], ⟨some a, 0, 0, 0, rfl, Nat.le_refl _, hm, fun h => absurd rfl h, fun k h => absurd h (by simp)⟩, fun x hx => (nomatch hx), fun W' _ => ?_⟩
      have hno : ∀ i, i < 0 → False := fun i hi => absurd hi (Nat.not_lt_zero _)
      cases hsp : decide (a.block < W.heap.size) with
      | true =>
        obtain ⟨n, key⟩ := shut_slice_whole_cells (enc := enc) (w := W') (base := 0) (spare := fun b => decide (b < W.heap.size)) (held := true) (a := a) (len := 0) (cap := 0) hu (Nat.zero_le _) (Nat.le_refl _) hm hsp (fun i => .agg [D0 i, D1 i]) (fun i => P0 i ++ P1 i) (fun i hi => (hno i hi).elim)
        exact ⟨n, by simpa [Value.cells, MemPlace.row] using key⟩
      | false =>
        obtain ⟨n, key⟩ := shut_slice_cells (enc := enc) (w := W') (base := 0) (spare := fun b => decide (b < W.heap.size)) (held := true) (a := a) (len := 0) (cap := 0) hu (Nat.zero_le _) (Nat.le_refl _) hm hsp (fun i => .agg [D0 i, D1 i]) (fun i => P0 i ++ P1 i) (fun i hi => (hno i hi).elim)
        exact ⟨n, by simpa [Value.cells, MemPlace.row] using key⟩
    · obtain ⟨ab, ao, spot⟩ := a
      have hspot : spot = none := by simpa [Addr.add] using World.cell?_spot (hall 0 h0).1
      subst hspot
      have hboth : ∀ i, i < m → ∃ q : Bool × ByteArray, V0 i = .bool q.1 ∧ V1 i = .string q.2 ∧ D0 i = .lit (.bool q.1) ∧ D1 i = .lit (.string q.2.data.toList) ∧ P0 i = [] ∧ P1 i = [] ∧ q.2.size ≤ maxLen := fun i hi => by
        obtain ⟨x, e0, e1⟩ := DataW.trod_bool Tryz.underlying4 (hall i hi).2.2.1
        obtain ⟨s, e2, e3, hs⟩ := DataW.trod_string Tryz.underlying9 (hall i hi).2.2.2
        simp at e0 e2
        simp only [Prod.mk.injEq] at e1 e3
        exact ⟨(x, s), e0, e2, e1.1, e3.1, e1.2, e3.2, hs⟩
      obtain ⟨q, hq⟩ := choose_lt2 hboth
      have hlt : ab < W.heap.size := by
        have := World.block_lt_of_cell? W _ (hall 0 h0).1
        simpa [Addr.add] using this
      refine ⟨(List.range len0).map q, ⟨some ⟨ab, ao, none⟩, ab, ao, m, by simp, by simpa using hl, hm, fun _ => rfl, fun k hk => ?_⟩, fun x hx => ?_, fun W' hb' => ?_⟩
      · have hk' : k < len0 := by simpa using hk
        have h1 := (hall k (by omega)).1
        have h2 := (hall k (by omega)).2.1
        rw [(hq k (by omega)).1] at h1
        rw [(hq k (by omega)).2.1] at h2
        rw [add_plain] at h1 h2
        simp only [List.getElem_map, List.getElem_range]
        exact ⟨h1, by simpa [Nat.add_assoc] using h2⟩
      · obtain ⟨i, hi, rfl⟩ := List.mem_map.1 hx
        have hi' := List.mem_range.1 hi
        have := (hq i (by omega)).2.2.2.2.2.2
        unfold maxLen at this
        omega
      · have key := shut_slice_pairs_whole (enc := enc) (w := W') (base := 0) (spare := fun b => decide (b < W.heap.size)) (held := true) hu he c2 rfl rfl cb cs (b := ab) (off := ao) (len := len0) (cap := m) (Nat.zero_le _) hl hm (by simpa using hlt)
          V0 V1 D0 D1 P0 P1
          (fun i hi => by have h1 := (hall i hi).1; rw [add_plain] at h1; exact at_old hb' h1)
          (fun i hi => by have h1 := (hall i hi).2.1; rw [add_plain] at h1; exact at_old hb' (by simpa [Nat.add_assoc] using h1))
          (fun i hi => by
            obtain ⟨e1, e2, e3, e4, e5, e6, e7⟩ := hq i hi
            exact ⟨1, by rw [e1, e3, e5]; simp [DataW.trod, Tryz.underlying4]⟩)
          (fun i hi => by
            obtain ⟨e1, e2, e3, e4, e5, e6, e7⟩ := hq i hi
            exact ⟨1, by rw [e2, e4, e6]; simp [DataW.trod, Tryz.underlying9, e7]⟩)
        obtain ⟨n, key⟩ := key
        exact ⟨n, by simpa [Value.cells] using key⟩
end Go.Proofs.YtepddegphdlbeaaGreat

/- What comes in and goes out: a list of ints. -/
namespace Go.Proofs.YtepddegphdlbeaaGreat
open Go.ChangeShapes Go.WideShapes Go.ChangeAt Go.RowKit Go.Joins Go.Deep
open Go.ChangeMaps (open_string shut_string)

set_option maxRecDepth 100000 in
/-- A list of ints that came in: it reads as one, and so behind the call. -/
theorem open_list {H : Type} {enc : TypeId × Value → H} {W : World} {b0 : Nat} {r : Reach} {v : Value} {d : DataW H} {p : List MemPlace}
    (hv : Value.okWide Tryz.prog W r b0 24 v) (h : DataW.Trod enc Tryz.prog W 0 (fun _ => true) true 24 v d p) :
    ∃ L : List Int, Rn W v L ∧ (∀ a ∈ L, -9223372036854775808 ≤ a ∧ a ≤ 9223372036854775807) ∧ L.length ≤ 9223372036854775807 ∧ ∀ W', Below W.heap.size W W' → DataW.Trod enc Tryz.prog W' 0 (fun b => decide (b < W.heap.size)) true 24 v d p := by
  have hu := Tryz.underlying24
  have he := Tryz.underlying3
  have c1 : Tryz.prog.cellsOf 3 = 1 := by kernel_rfl
  obtain ⟨a0, len0, cap0, rfl⟩ := okWide_slice hu hv
  obtain ⟨fuel, hf⟩ := h
  rcases open_ints hu he c1 hf with ⟨hcs, hx⟩ | ⟨a, len, cap, zs, hcs, _, hl, hm, hz, hx, hcell, hwz⟩
  · simp [Value.cells] at hcs
    obtain ⟨rfl, rfl, rfl⟩ := hcs
    simp only [Prod.mk.injEq] at hx
    obtain ⟨rfl, rfl⟩ := hx
    exact ⟨[], ⟨none, 0, 0, 0, rfl, fun h => absurd h (by simp), fun k h => absurd h (by simp)⟩, fun a ha => (nomatch ha), by simp, fun W' _ => shut_slice_nil hu⟩
  · simp [Value.cells] at hcs
    obtain ⟨rfl, rfl, rfl⟩ := hcs
    simp only [if_true] at hz
    simp only [Prod.mk.injEq] at hx
    obtain ⟨rfl, rfl⟩ := hx
    have hlm : len0 ≤ 9223372036854775807 := by unfold maxLen at hm; omega
    have htl : (zs.take len0).length = len0 := by rw [List.length_take]; omega
    have hb : ∀ x ∈ zs.take len0, -9223372036854775808 ≤ x ∧ x ≤ 9223372036854775807 := fun x hx => bounds_i64 (hwz x (List.mem_of_mem_take hx))
    rcases Nat.eq_zero_or_pos zs.length with h0 | h0
    · have hc0 : cap0 = 0 := by omega
      have hl0 : len0 = 0 := by omega
      subst hc0; subst hl0
      refine ⟨[], ⟨some a, 0, 0, 0, rfl, fun h => absurd h (by simp), fun k h => absurd h (by simp)⟩, fun a ha => (nomatch ha), by simp, fun W' _ => ?_⟩
      have t0 := shut_ints (enc := enc) (w := W') (base := 0) (spare := fun b => decide (b < W.heap.size)) (held := true) (a := a) (len := 0) (cap := 0) (zs := zs) 0 hu he c1 (Nat.zero_le _) (Nat.le_refl _) hm (by simp [h0]) (fun i hi => by omega) hwz
      exact ⟨2, by simpa [Value.cells] using t0⟩
    · obtain ⟨ab, ao, spot⟩ := a
      have hspot : spot = none := by simpa [Addr.add] using World.cell?_spot (hcell 0 h0)
      subst hspot
      have hlt : ab < W.heap.size := by
        have := World.block_lt_of_cell? W _ (hcell 0 h0)
        simpa [Addr.add] using this
      refine ⟨zs.take len0, ⟨some ⟨ab, ao, none⟩, ab, ao, cap0, by rw [htl], fun _ => rfl, fun k hk => ?_⟩, hb, by omega, fun W' hb' => ?_⟩
      · have hk' : k < len0 := by omega
        have h1 := hcell k (by omega)
        rw [add_plain] at h1
        rw [h1, List.getElem_take]; simp [List.getD, List.getElem?_eq_getElem (show k < zs.length by omega)]
      · have t0 := shut_ints (enc := enc) (w := W') (base := 0) (spare := fun b => decide (b < W.heap.size)) (held := true) (a := ⟨ab, ao, none⟩) (len := len0) (cap := cap0) (zs := zs) 0 hu he c1 (Nat.zero_le _) hl hm (by simp [hlt, hz])
          (fun i hi => by have h1 := hcell i hi; rw [add_plain] at h1 ⊢; exact at_old hb' h1) hwz
        exact ⟨2, by simpa [Value.cells] using t0⟩
end Go.Proofs.YtepddegphdlbeaaGreat

/- PolyValid gives true for all polynomials and lists of ints (P2.1), and leaves its arguments as they were. No condition. -/
namespace Go.Proofs.YtepddegphdlbeaaGreat
open Go.ChangeShapes Go.WideShapes Go.ChangeAt Go.RowKit Go.Joins
open Go.ChangeMaps (open_string shut_string)

set_option maxRecDepth 100000 in
theorem pvalids_lifted (os : Os) (started : os.Started) (H : Type) (enc : TypeId × Value → H) :
    ReturnsInHanded {} Tryz.checked os 3 .any (Rows.polyValidSpec.pre6 enc Tryz.prog Tryz.f3 Rows.polyValidRow.domain false) (Rows.polyValidSpec.post enc Tryz.prog Tryz.f3 false true false false) := by
  refine returnsInHanded_of_change (C := Tryz.checked) Tryz.own started (by kernel_rfl) Tryz.func3
    (ChangeSpec.witness6 (enc := enc) (C := Tryz.checked) false ⟨#[], #[.slice none 0 0, .slice none 0 0, .slice none 0 0], []⟩ 8 (by kernel_rfl) (by kernel_rfl) (by kernel_rfl) (by kernel_rfl)) ?_
  intro W base args ds gs before hval0 hW hcnd _
  have hval : ∀ (j : Nat) t v, Tryz.f3.params[j]? = some t → args[j]? = some v → Value.okWide Tryz.prog W .any base t v := hval0
  have hW' := hW
  obtain ⟨p, q, hA0, hV, rfl, hfz, hnd⟩ := hW
  have hA : DataW.TrodAll enc Tryz.prog W 0 (fun _ => true) true Tryz.f3.params.toList args.toList ds p := hA0
  rw [Tryz.params3] at hA hval
  obtain ⟨v0, v1, v2, d0, d1, d2, p0, p1, p2, rfl, rfl, rfl, h0, h1, h2⟩ := trodAll_three hA
  obtain ⟨rfl, rfl⟩ := trodVars_none hV
  obtain ⟨L0, r0, z0, t0⟩ := open_poly (hval 0 23 v0 rfl rfl) h0
  obtain ⟨L1, r1, z1, t1⟩ := open_poly (hval 1 23 v1 rfl rfl) h1
  obtain ⟨L2, r2, i2, _, t2⟩ := open_list (hval 2 24 v2 rfl rfl) h2
  clear hA0 hval0
  refine (pvd_any L0 L1 L2 v0 v1 v2 W r0 r1 r2 z0 z1 i2).mono fun e W' ⟨he, bel⟩ => ?_
  subst he
  exact ⟨_, rfl, _, _, _, [], _, [], hW', trodAll_mk1 (shut_bool Tryz.underlying4 _), trodAll_mk3 (t0 W' bel) (t1 W' bel) (t2 W' bel), rfl, bel.frame _, fun h => by cases h⟩

/-- The statement. -/
theorem pvalids_holds : Rows.PolyValidSaid :=
  OpenClaim.holds_of_wide 3 Tryz.f3 rfl rfl rfl rfl rfl rfl rfl ⟨rfl, rfl, rfl, rfl, rfl⟩ rfl rfl rfl rfl rfl (by kernel_rfl) Tryz.func3 (by kernel_rfl)
    (of_decide_eq_true (by kernel_rfl)) (by unfold Func.isWrapper; first | (rw [if_pos (by decide +kernel)]; kernel_rfl) | (rw [if_neg (by decide +kernel)]; exact ⟨rfl, rfl⟩))
    (fun os started H enc _ => pvalids_lifted os started H enc)
#print axioms pvalids_holds
end Go.Proofs.YtepddegphdlbeaaGreat
