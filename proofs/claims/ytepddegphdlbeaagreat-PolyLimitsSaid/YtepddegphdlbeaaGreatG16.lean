/- What the theorem leans on, part G16. -/
import Derived.Test.YtepddegphdlbeaaGreatG15
import Derived.Test.YtepddegphdlbeaaGreatG13
import Derived.Test.YtepddegphdlbeaaGreatG12
import Derived.Test.YtepddegphdlbeaaGreatG9
import Derived.Test.YtepddegphdlbeaaGreatG8
import Derived.Test.YtepddegphdlbeaaGreatG7
import Derived.Test.YtepddegphdlbeaaGreatG6
import Derived.Test.YtepddegphdlbeaaGreatG4
import Derived.Test.YtepddegphdlbeaaGreatG3
import Derived.Test.YtepddegphdlbeaaGreatG2
import Derived.Test.YtepddegphdlbeaaGreatG1
import Derived.Test.YtepddegphdlbeaaGreatG0
import Derived.Test.YtepddegphdlbeaaGreatProg
import Derived.WalkKit
import Derived.WalkSpells
import Derived.WalkLawsBesides
import Derived.Lib.Hide
import Derived.Deep.QuietTactic
import Derived.BigQuiet
import Derived.Shelf.Small.Bits
import Derived.Shelf.Small.Wraps
import Derived.Shelf.Strconv.Itoa0
import Derived.Shelf.Bits.Mul64
import Derived.Ground.Names2Prog
import Derived.Shelf.Slices.SearchI
import Derived.Shelf.Spec.BitsCarry
import Derived.Deep.LoopGhost
import Derived.Deep.RegionHeld3
import Derived.Deep.DeepCutAuto
import Derived.Test.YtepddegphdlbeaaGreatG5
import Derived.Laws.AppendOwnNone
import Derived.Below
import Derived.Test.YtepddegphdlbeaaGreatG11
import Derived.Test.YtepddegphdlbeaaGreatG10
import Derived.RangeFuncNested
import Derived.RangeFuncBound
import Derived.RangeFuncCalls
import Derived.RangeFuncLeaves
import Derived.Shelf.Abstract
import Derived.Shelf.RegionOpen
import Derived.OwnWalkIn
import Derived.TacticsInMore
import Derived.LoopNIn
import Derived.LoopIn
import Derived.OrdersIn
import Derived.Deep.RegionHeld
import Derived.Maps.AppendAt
import Derived.Lib.SliceRun
import Derived.IntWalk
import Derived.Laws.StructEq
import Derived.Test.YtepddegphdlbeaaGreatG14
import Derived.ProofKit
import Derived.OpenShut
import Derived.ShutString
import Derived.ChangeOld
import Derived.Lib.SmallJoins
import Derived.Deep.SlicePairs
set_option maxRecDepth 100000
set_option maxHeartbeats 16000000
set_option linter.all false
namespace Go.Proofs.YtepddegphdlbeaaGreat
open Go.RowKit
theorem k'l8 (w : World) : Calls Tryz.prog 12 #[] w (Ret (.bool true) w) := by
 have H_ofp1p0m2p0 : Hid (∀ y : World, Calls Tryz.prog 22 #[.slice (some ⟨y.heap.size, 0, none⟩) 4 4] (y.alloc (.cells #[.int .i64 1, .int .i64 0, .int .i64 (-2), .int .i64 0] 3)) (ResP [1, 0, -2] y)) := fun y => k_of [1, 0, -2, 0] [1, 0, -2] (by rfl) (by rfl) y
 have H_ofp0p0 : Hid (∀ y : World, Calls Tryz.prog 22 #[.slice (some ⟨y.heap.size, 0, none⟩) 2 2] (y.alloc (.cells #[.int .i64 0, .int .i64 0] 3)) (ResP [] y)) := fun y => k_of [0, 0] [] (by rfl) (by rfl) y
 have H_pp1p1 : Hid (∀ y : World, Calls Tryz.prog 65 #[.slice (some ⟨y.heap.size, 0, none⟩) 2 2] (y.alloc (.cells #[.int .i64 1, .int .i64 1] 3)) (RpPost [1, 1] y)) := fun y => k_p [1, 1] [1, 1] (by rfl) (by rfl) y
 have H_pm1p1 : Hid (∀ y : World, Calls Tryz.prog 65 #[.slice (some ⟨y.heap.size, 0, none⟩) 2 2] (y.alloc (.cells #[.int .i64 (-1), .int .i64 1] 3)) (RpPost [-1, 1] y)) := fun y => k_p [-1, 1] [-1, 1] (by rfl) (by rfl) y
 have H_pp1p2 : Hid (∀ y : World, Calls Tryz.prog 65 #[.slice (some ⟨y.heap.size, 0, none⟩) 2 2] (y.alloc (.cells #[.int .i64 1, .int .i64 2] 3)) (RpPost [1, 2] y)) := fun y => k_p [1, 2] [1, 2] (by rfl) (by rfl) y
 have H_pp3p2 : Hid (∀ y : World, Calls Tryz.prog 65 #[.slice (some ⟨y.heap.size, 0, none⟩) 2 2] (y.alloc (.cells #[.int .i64 3, .int .i64 2] 3)) (RpPost [3, 2] y)) := fun y => k_p [3, 2] [3, 2] (by rfl) (by rfl) y
 have H_pp5p4p3 : Hid (∀ y : World, Calls Tryz.prog 65 #[.slice (some ⟨y.heap.size, 0, none⟩) 3 3] (y.alloc (.cells #[.int .i64 5, .int .i64 4, .int .i64 3] 3)) (RpPost [5, 4, 3] y)) := fun y => k_p [5, 4, 3] [5, 4, 3] (by rfl) (by rfl) y
 have H_pp1p0p2 : Hid (∀ y : World, Calls Tryz.prog 65 #[.slice (some ⟨y.heap.size, 0, none⟩) 3 3] (y.alloc (.cells #[.int .i64 1, .int .i64 0, .int .i64 2] 3)) (RpPost [1, 0, 2] y)) := fun y => k_p [1, 0, 2] [1, 0, 2] (by rfl) (by rfl) y
 have H_pm2p0p1 : Hid (∀ y : World, Calls Tryz.prog 65 #[.slice (some ⟨y.heap.size, 0, none⟩) 3 3] (y.alloc (.cells #[.int .i64 (-2), .int .i64 0, .int .i64 1] 3)) (RpPost [-2, 0, 1] y)) := fun y => k_p [-2, 0, 1] [-2, 0, 1] (by rfl) (by rfl) y
 have H_pp6m4 : Hid (∀ y : World, Calls Tryz.prog 65 #[.slice (some ⟨y.heap.size, 0, none⟩) 2 2] (y.alloc (.cells #[.int .i64 6, .int .i64 (-4)] 3)) (RpPost [6, -4] y)) := fun y => k_p [6, -4] [6, -4] (by rfl) (by rfl) y
 have H_pm6m4 : Hid (∀ y : World, Calls Tryz.prog 65 #[.slice (some ⟨y.heap.size, 0, none⟩) 2 2] (y.alloc (.cells #[.int .i64 (-6), .int .i64 (-4)] 3)) (RpPost [-6, -4] y)) := fun y => k_p [-6, -4] [-6, -4] (by rfl) (by rfl) y
 have H_pp1p0p0p1 : Hid (∀ y : World, Calls Tryz.prog 65 #[.slice (some ⟨y.heap.size, 0, none⟩) 4 4] (y.alloc (.cells #[.int .i64 1, .int .i64 0, .int .i64 0, .int .i64 1] 3)) (RpPost [1, 0, 0, 1] y)) := fun y => k_p [1, 0, 0, 1] [1, 0, 0, 1] (by rfl) (by rfl) y
 have H_pm1p0p1 : Hid (∀ y : World, Calls Tryz.prog 65 #[.slice (some ⟨y.heap.size, 0, none⟩) 3 3] (y.alloc (.cells #[.int .i64 (-1), .int .i64 0, .int .i64 1] 3)) (RpPost [-1, 0, 1] y)) := fun y => k_p [-1, 0, 1] [-1, 0, 1] (by rfl) (by rfl) y
 have H_pp1p0p1 : Hid (∀ y : World, Calls Tryz.prog 65 #[.slice (some ⟨y.heap.size, 0, none⟩) 3 3] (y.alloc (.cells #[.int .i64 1, .int .i64 0, .int .i64 1] 3)) (RpPost [1, 0, 1] y)) := fun y => k_p [1, 0, 1] [1, 0, 1] (by rfl) (by rfl) y
 have H_pp2p4p2 : Hid (∀ y : World, Calls Tryz.prog 65 #[.slice (some ⟨y.heap.size, 0, none⟩) 3 3] (y.alloc (.cells #[.int .i64 2, .int .i64 4, .int .i64 2] 3)) (RpPost [2, 4, 2] y)) := fun y => k_p [2, 4, 2] [2, 4, 2] (by rfl) (by rfl) y
 have H_pp2 : Hid (∀ y : World, Calls Tryz.prog 65 #[.slice (some ⟨y.heap.size, 0, none⟩) 1 1] (y.alloc (.cells #[.int .i64 2] 3)) (RpPost [2] y)) := fun y => k_p [2] [2] (by rfl) (by rfl) y
 have H_pp4 : Hid (∀ y : World, Calls Tryz.prog 65 #[.slice (some ⟨y.heap.size, 0, none⟩) 1 1] (y.alloc (.cells #[.int .i64 4] 3)) (RpPost [4] y)) := fun y => k_p [4] [4] (by rfl) (by rfl) y
 have H_isp1p0m2 : Hid (∀ (y : World) (v : Value), Rp y v [1, 0, -2] → Calls Tryz.prog 64 #[v, .int .i64 0, .slice (some ⟨y.heap.size, 0, none⟩) 3 3] (y.alloc (.cells #[.int .i64 1, .int .i64 0, .int .i64 (-2)] 3)) (BPost true y)) := fun y v h => k_is [1, 0, -2] [1, 0, -2] (by rfl) (by rfl) y v h
 have H_ism1p0p1 : Hid (∀ (y : World) (v : Value), Rp y v [-1, 0, 1] → Calls Tryz.prog 64 #[v, .int .i64 0, .slice (some ⟨y.heap.size, 0, none⟩) 3 3] (y.alloc (.cells #[.int .i64 (-1), .int .i64 0, .int .i64 1] 3)) (BPost true y)) := fun y v h => k_is [-1, 0, 1] [-1, 0, 1] (by rfl) (by rfl) y v h
 have H_ism2 : Hid (∀ (y : World) (v : Value), Rp y v [-2] → Calls Tryz.prog 64 #[v, .int .i64 0, .slice (some ⟨y.heap.size, 0, none⟩) 1 1] (y.alloc (.cells #[.int .i64 (-2)] 3)) (BPost true y)) := fun y v h => k_is [-2] [-2] (by rfl) (by rfl) y v h
 have H_isp4p6 : Hid (∀ (y : World) (v : Value), Rp y v [4, 6] → Calls Tryz.prog 64 #[v, .int .i64 0, .slice (some ⟨y.heap.size, 0, none⟩) 2 2] (y.alloc (.cells #[.int .i64 4, .int .i64 6] 3)) (BPost true y)) := fun y v h => k_is [4, 6] [4, 6] (by rfl) (by rfl) y v h
 have H_isp11p4p2 : Hid (∀ (y : World) (v : Value), Rp y v [11, 4, 2] → Calls Tryz.prog 64 #[v, .int .i64 0, .slice (some ⟨y.heap.size, 0, none⟩) 3 3] (y.alloc (.cells #[.int .i64 11, .int .i64 4, .int .i64 2] 3)) (BPost true y)) := fun y v h => k_is [11, 4, 2] [11, 4, 2] (by rfl) (by rfl) y v h
 have H_ism3m2 : Hid (∀ (y : World) (v : Value), Rp y v [-3, -2] → Calls Tryz.prog 64 #[v, .int .i64 0, .slice (some ⟨y.heap.size, 0, none⟩) 2 2] (y.alloc (.cells #[.int .i64 (-3), .int .i64 (-2)] 3)) (BPost true y)) := fun y v h => k_is [-3, -2] [-3, -2] (by rfl) (by rfl) y v h
 have H_isp7 : Hid (∀ (y : World) (v : Value), Rp y v [7] → Calls Tryz.prog 64 #[v, .int .i64 0, .slice (some ⟨y.heap.size, 0, none⟩) 1 1] (y.alloc (.cells #[.int .i64 7] 3)) (BPost true y)) := fun y v h => k_is [7] [7] (by rfl) (by rfl) y v h
 have H_ism1p1 : Hid (∀ (y : World) (v : Value), Rp y v [-1, 1] → Calls Tryz.prog 64 #[v, .int .i64 0, .slice (some ⟨y.heap.size, 0, none⟩) 2 2] (y.alloc (.cells #[.int .i64 (-1), .int .i64 1] 3)) (BPost true y)) := fun y v h => k_is [-1, 1] [-1, 1] (by rfl) (by rfl) y v h
 have H_isp1p1 : Hid (∀ (y : World) (v : Value), Rp y v [1, 1] → Calls Tryz.prog 64 #[v, .int .i64 0, .slice (some ⟨y.heap.size, 0, none⟩) 2 2] (y.alloc (.cells #[.int .i64 1, .int .i64 1] 3)) (BPost true y)) := fun y v h => k_is [1, 1] [1, 1] (by rfl) (by rfl) y v h
 have H_isp1 : Hid (∀ (y : World) (v : Value), Rp y v [1] → Calls Tryz.prog 64 #[v, .int .i64 0, .slice (some ⟨y.heap.size, 0, none⟩) 1 1] (y.alloc (.cells #[.int .i64 1] 3)) (BPost true y)) := fun y v h => k_is [1] [1] (by rfl) (by rfl) y v h
 have H_deg1 := i' (fun y v h => k_deg [1, 0, -2] (vp2 _) y v h 2 (by rfl))
 have H_deg2 := i' (fun y v h => k_deg [] (vp2 _) y v h (-1) (by rfl))
 have H_bits := i' (fun y v h => k'kt [1, 0, -2] (vp2 _) y v h 2 (by rfl))
 have H_mul := i' k_mul
 have H_sub := i' k_sub
 have H_der := i' k_der
 have H_eval := i' k'kv
 have H_value := i' k'kw
 have H_signat := i' k'kx
 have H_comp := i' k'ky
 have H_cont := i' k'kz
 have H_prim := i' k'l0
 have H_rest := i' k'l1
 have H_div1 := i' k'l2
 have H_div2 := i' k'l3
 have H_gcd1 := i' k'l4
 have H_gcd2 := i' k'l6
 have H_gcd3 := i' k'l7
 have H_w1 := i' (fun w => k'jc 1 w (by decide) (by decide))
 have H_w3 := i' (fun w => k'jc 3 w (by decide) (by decide))
 have H_w11 := i' (fun w => k'jc 11 w (by decide) (by decide))
 have H_w2 := i' (fun w => k'jc 2 w (by decide) (by decide))
 have H_q1_3 := i' (fun w => k'jd 1 3 w (by decide) (by decide) (by decide) (by decide))
 have H_q7_5 := i' (fun w => k'jd 7 5 w (by decide) (by decide) (by decide) (by decide))
 have H_q11_9 := i' (fun w => k'jd 11 9 w (by decide) (by decide) (by decide) (by decide))
 unfold ResP ResE Ret RpPost BPost ZPost QZPost Z R at *
 unfold rat at *
 generalize zb 1 = b1 at *
 generalize zs 1 = s1 at *
 generalize zb 3 = b3 at *
 generalize zs 3 = s3 at *
 generalize zb 7 = b7 at *
 generalize zs 7 = s7 at *
 generalize zb 5 = b5 at *
 generalize zs 5 = s5 at *
 generalize zb 11 = b11 at *
 generalize zs 11 = s11 at *
 generalize zb 9 = b9 at *
 generalize zs 9 = s9 at *
 generalize zb 2 = b2 at *
 generalize zs 2 = s2 at *
 go_enter Tryz.func12, Tryz.ntmps12
 have TOT : Hid (Below w.heap.size w w) := Below.refl _ _
 go_wp2_with fail
 refine (H_ofp1p0m2p0.out _).mono ?_
 rintro e x1 ⟨v1, rfl, r1, b1⟩
 have E := i' b1
 have Ra := i' r1
 clear r1
 clear b1
 have TOT := i' (chain TOT.out E.out)
 clear E
 go_wp2_with fail
 refine (H_deg1.out _ _ Ra.out).mono ?_
 rintro e x2 ⟨rfl, b2⟩
 have E := i' b2
 clear b2
 have TOT := i' (chain TOT.out E.out)
 have Ra := i' (Ra.out.below E.out)
 clear E
 go_wp2_with fail
 refine (H_bits.out _ _ Ra.out).mono ?_
 rintro e x3 ⟨rfl, b3⟩
 have E := i' b3
 clear b3
 have TOT := i' (chain TOT.out E.out)
 have Ra := i' (Ra.out.below E.out)
 clear E
 go_wp2_with fail
 refine (H_ofp0p0.out _).mono ?_
 rintro e x4 ⟨v4, rfl, r4, b4⟩
 have E := i' b4
 have Rz := i' r4
 clear r4
 clear b4
 have TOT := i' (chain TOT.out E.out)
 have Ra := i' (Ra.out.below E.out)
 clear E
 go_wp2_with fail
 refine (H_deg2.out _ _ Rz.out).mono ?_
 rintro e x5 ⟨rfl, b5⟩
 have E := i' b5
 clear b5
 have TOT := i' (chain TOT.out E.out)
 have Ra := i' (Ra.out.below E.out)
 have Rz := i' (Rz.out.below E.out)
 clear E
 obtain ⟨z1, z2, z3, z4, hz, -, -, -, -⟩ := Rp.open_ Rz.out
 subst hz
 simp only [List.length_nil] at Rz ⊢
 go_wp2_with fail
 refine (H_isp1p0m2.out _ _ Ra.out).mono ?_
 rintro e x6 ⟨rfl, b6⟩
 have E := i' b6
 clear b6
 have TOT := i' (chain TOT.out E.out)
 have Ra := i' (Ra.out.below E.out)
 have Rz := i' (Rz.out.below E.out)
 clear E
 clear Ra
 clear Rz
 go_wp2_with fail
 refine (H_pp1p1.out _).mono ?_
 rintro e x7 ⟨v7, rfl, r7, b7⟩
 have E := i' b7
 have Rl1 := i' r7
 clear r7
 clear b7
 go_wp2_with fail
 refine (H_pm1p1.out _).mono ?_
 rintro e x8 ⟨v8, rfl, r8, b8⟩
 have Rl1 := i' (Rl1.out.below b8)
 have E := i' (chain E.out b8)
 have Rl2 := i' r8
 clear r8
 clear b8
 go_wp2_with fail
 refine (H_mul.out _ _ _ Rl1.out Rl2.out).mono ?_
 rintro e x9 ⟨v9, rfl, r9, b9⟩
 have Rl1 := i' (Rl1.out.below b9)
 have Rl2 := i' (Rl2.out.below b9)
 have E := i' (chain E.out b9)
 have Rm := i' r9
 clear r9
 clear b9
 have TOT := i' (chain TOT.out E.out)
 clear Rl1
 clear Rl2
 clear E
 go_wp2_with fail
 refine (H_pp1p2.out _).mono ?_
 rintro e x10 ⟨v10, rfl, r10, b10⟩
 have E := i' b10
 have Rl1 := i' r10
 clear r10
 clear b10
 go_wp2_with fail
 refine (H_pp3p2.out _).mono ?_
 rintro e x11 ⟨v11, rfl, r11, b11⟩
 have Rl1 := i' (Rl1.out.below b11)
 have E := i' (chain E.out b11)
 have Rl2 := i' r11
 clear r11
 clear b11
 go_wp2_with fail
 refine (H_sub.out _ _ _ Rl1.out Rl2.out).mono ?_
 rintro e x12 ⟨v12, rfl, r12, b12⟩
 have Rl1 := i' (Rl1.out.below b12)
 have Rl2 := i' (Rl2.out.below b12)
 have E := i' (chain E.out b12)
 have Rs := i' r12
 clear r12
 clear b12
 have TOT := i' (chain TOT.out E.out)
 have Rm := i' (Rm.out.below E.out)
 clear Rl1
 clear Rl2
 clear E
 go_wp2_with fail
 refine (H_pp5p4p3.out _).mono ?_
 rintro e x13 ⟨v13, rfl, r13, b13⟩
 have E := i' b13
 have Rl1 := i' r13
 clear r13
 clear b13
 go_wp2_with fail
 refine (H_der.out _ _ Rl1.out).mono ?_
 rintro e x14 ⟨v14, rfl, r14, b14⟩
 have Rl1 := i' (Rl1.out.below b14)
 have E := i' (chain E.out b14)
 have Rt := i' r14
 clear r14
 clear b14
 have TOT := i' (chain TOT.out E.out)
 have Rm := i' (Rm.out.below E.out)
 have Rs := i' (Rs.out.below E.out)
 clear Rl1
 clear E
 go_wp2_with fail
 refine (H_ism1p0p1.out _ _ Rm.out).mono ?_
 rintro e x15 ⟨rfl, b15⟩
 have E := i' b15
 clear b15
 go_wp2_with fail
 refine (H_ism2.out _ _ (Rs.out.below E.out)).mono ?_
 rintro e x16 ⟨rfl, b16⟩
 have E := i' (chain E.out b16)
 clear b16
 go_wp2_with fail
 refine (H_isp4p6.out _ _ (Rt.out.below E.out)).mono ?_
 rintro e x17 ⟨rfl, b17⟩
 have E := i' (chain E.out b17)
 clear b17
 have TOT := i' (chain TOT.out E.out)
 have Rm := i' (Rm.out.below E.out)
 have Rs := i' (Rs.out.below E.out)
 have Rt := i' (Rt.out.below E.out)
 clear E
 clear Rm
 clear Rs
 clear Rt
 go_wp2_with fail
 refine (H_pp1p0p2.out _).mono ?_
 rintro e x18 ⟨v18, rfl, r18, b18⟩
 have E := i' b18
 have Rl1 := i' r18
 clear r18
 clear b18
 go_wp2_with fail
 refine (H_q1_3.out _).mono ?_
 rintro e x19 ⟨rfl, b19⟩
 have Rl1 := i' (Rl1.out.below b19)
 have E := i' (chain E.out b19)
 clear b19
 go_wp2_with fail
 refine (H_eval.out _ _ Rl1.out).mono ?_
 rintro e x20 ⟨rfl, b20⟩
 have Rl1 := i' (Rl1.out.below b20)
 have E := i' (chain E.out b20)
 clear b20
 obtain ⟨u14, hu14⟩ : ∃ u : World, u = x20.alloc (.cells #[.bool b11, .string s11] 44) := ⟨_, rfl⟩
 have N14 : Hid (ZC (.bool b11) (.string s11) u14 x20.heap.size) := by rw [hu14]; exact ZC.new rfl
 have B9 : Hid (Below x20.heap.size x20 u14) := by rw [hu14]; exact k'56 _ _
 have E := i' (chain E.out B9.out)
 clear B9
 have TOT := i' (chain TOT.out E.out)
 clear Rl1
 clear E
 have T14 := N14
 clear N14
 go_upto_region 14 with (fail)
 rw [← hu14]
 clear hu14
 go_wp2_with fail
 refine (H_pp1p0p2.out _).mono ?_
 rintro e x21 ⟨v21, rfl, r21, b21⟩
 have E := i' b21
 have Rl1 := i' r21
 clear r21
 clear b21
 go_wp2_with fail
 refine (H_q1_3.out _).mono ?_
 rintro e x22 ⟨rfl, b22⟩
 have Rl1 := i' (Rl1.out.below b22)
 have E := i' (chain E.out b22)
 clear b22
 go_wp2_with fail
 refine (H_value.out _ _ Rl1.out).mono ?_
 rintro e x23 ⟨rfl, b23⟩
 have Rl1 := i' (Rl1.out.below b23)
 have E := i' (chain E.out b23)
 clear b23
 obtain ⟨u15, hu15⟩ : ∃ u : World, u = x23.alloc (.cells #[.bool b11, .string s11, .bool b9, .string s9] 59) := ⟨_, rfl⟩
 have N15 : Hid (ZC4 (.bool b11) (.string s11) (.bool b9) (.string s9) u15 x23.heap.size) := by rw [hu15]; exact ZC4.made0 x23
 have B9 : Hid (Below x23.heap.size x23 u15) := by rw [hu15]; exact k'56 _ _
 have E := i' (chain E.out B9.out)
 clear B9
 have TOT := i' (chain TOT.out E.out)
 have T14 := i' (T14.out.next E.out)
 clear Rl1
 clear E
 have T15 := N15
 clear N15
 go_upto_region 15 with (fail)
 rw [← hu15]
 clear hu15
 go_wp2_with fail
 refine (H_pm2p0p1.out _).mono ?_
 rintro e x24 ⟨v24, rfl, r24, b24⟩
 have E := i' b24
 have Rl1 := i' r24
 clear r24
 clear b24
 go_wp2_with fail
 refine (H_q7_5.out _).mono ?_
 rintro e x25 ⟨rfl, b25⟩
 have Rl1 := i' (Rl1.out.below b25)
 have E := i' (chain E.out b25)
 clear b25
 go_wp2_with fail
 refine (H_signat.out _ _ Rl1.out).mono ?_
 rintro e x26 ⟨rfl, b26⟩
 have Rl1 := i' (Rl1.out.below b26)
 have E := i' (chain E.out b26)
 clear b26
 have TOT := i' (chain TOT.out E.out)
 have T14 := i' (T14.out.next E.out)
 have T15 := i' (T15.out.next E.out)
 clear Rl1
 clear E
 go_wp2_with fail
 refine (H_pp1p0p2.out _).mono ?_
 rintro e x27 ⟨v27, rfl, r27, b27⟩
 have E := i' b27
 have Rl1 := i' r27
 clear r27
 clear b27
 go_wp2_with fail
 refine (H_w1.out _).mono ?_
 rintro e x28 ⟨rfl, b28⟩
 have Rl1 := i' (Rl1.out.below b28)
 have E := i' (chain E.out b28)
 clear b28
 go_wp2_with fail
 refine (H_w1.out _).mono ?_
 rintro e x29 ⟨rfl, b29⟩
 have Rl1 := i' (Rl1.out.below b29)
 have E := i' (chain E.out b29)
 clear b29
 go_wp2_with fail
 refine (H_w3.out _).mono ?_
 rintro e x30 ⟨rfl, b30⟩
 have Rl1 := i' (Rl1.out.below b30)
 have E := i' (chain E.out b30)
 clear b30
 go_wp2_with fail
 refine (H_comp.out _ _ Rl1.out).mono ?_
 rintro e x31 ⟨v31, rfl, r31, b31⟩
 have Rl1 := i' (Rl1.out.below b31)
 have E := i' (chain E.out b31)
 have Ro := i' r31
 clear r31
 clear b31
 have TOT := i' (chain TOT.out E.out)
 have T14 := i' (T14.out.next E.out)
 have T15 := i' (T15.out.next E.out)
 clear Rl1
 clear E
 go_wp2_with fail
 obtain ⟨k0, k1, _⟩ := T14.out
 obtain ⟨⟨k2, k3, k4, k5⟩, _⟩ := T15.out
 go_region_held3 (fun W' => W'.cell? ⟨x20.heap.size, 0, none⟩ = some (.bool b11) ∧ W'.cell? ⟨x20.heap.size, 1, none⟩ = some (.string s11) ∧ W'.cell? ⟨x23.heap.size, 0, none⟩ = some (.bool b11) ∧ W'.cell? ⟨x23.heap.size, 1, none⟩ = some (.string s11) ∧ W'.cell? ⟨x23.heap.size, 2, none⟩ = some (.bool b9) ∧ W'.cell? ⟨x23.heap.size, 3, none⟩ = some (.string s9)) (go_keep)
  (first
   | (go_at_call 63; (with_reducible refine (H_w11.out _).mono ?_); rintro e y ⟨rfl, b9⟩; have D := i' (show Below x31.heap.size x31 y by first | exact chain D.out b9 | exact chain ((Below.refl _ _).drew) b9); have p0 := keep1 D.out k0; have p1 := keep1 D.out k1; have p2 := keep1 D.out k2; have p3 := keep1 D.out k3; have p4 := keep1 D.out k4; have p5 := keep1 D.out k5; clear b9)
   | (go_at_call 66; (with_reducible refine (H_q11_9.out _).mono ?_); rintro e y ⟨rfl, b9⟩; have D := i' (show Below x31.heap.size x31 y by first | exact chain D.out b9 | exact chain ((Below.refl _ _).drew) b9); have p0 := keep1 D.out k0; have p1 := keep1 D.out k1; have p2 := keep1 D.out k2; have p3 := keep1 D.out k3; have p4 := keep1 D.out k4; have p5 := keep1 D.out k5; clear b9)
   | (go_at_call 64; (with_reducible refine (H_isp11p4p2.out _ _ (Ro.out.below ?hb2x31)).mono ?_); (first | exact D.out | exact (Below.refl _ _).drew); rintro e y ⟨rfl, b9⟩; have D := i' (show Below x31.heap.size x31 y by first | exact chain D.out b9 | exact chain ((Below.refl _ _).drew) b9); have p0 := keep1 D.out k0; have p1 := keep1 D.out k1; have p2 := keep1 D.out k2; have p3 := keep1 D.out k3; have p4 := keep1 D.out k4; have p5 := keep1 D.out k5; clear b9)
   | fail)
 have E := D
 clear D k0 k1 k2 k3 k4 k5 p0 p1 p2 p3 p4 p5
 clear T14
 clear T15
 have TOT := i' (chain TOT.out E.out)
 have Ro := i' (Ro.out.below E.out)
 clear E
 clear Ro
 go_wp2_with fail
 refine (H_pp6m4.out _).mono ?_
 rintro e x32 ⟨v32, rfl, r32, b32⟩
 have E := i' b32
 have Rl1 := i' r32
 clear r32
 clear b32
 go_wp2_with fail
 refine (H_cont.out _ _ Rl1.out).mono ?_
 rintro e x33 ⟨rfl, b33⟩
 have Rl1 := i' (Rl1.out.below b33)
 have E := i' (chain E.out b33)
 clear b33
 obtain ⟨u18, hu18⟩ : ∃ u : World, u = x33.alloc (.cells #[.bool b2, .string s2] 44) := ⟨_, rfl⟩
 have N18 : Hid (ZC (.bool b2) (.string s2) u18 x33.heap.size) := by rw [hu18]; exact ZC.new rfl
 have B9 : Hid (Below x33.heap.size x33 u18) := by rw [hu18]; exact k'56 _ _
 have E := i' (chain E.out B9.out)
 clear B9
 have TOT := i' (chain TOT.out E.out)
 clear Rl1
 clear E
 have T18 := N18
 clear N18
 go_upto_region 20 with (fail)
 rw [← hu18]
 clear hu18
 go_wp2_with fail
 refine (H_pm6m4.out _).mono ?_
 rintro e x34 ⟨v34, rfl, r34, b34⟩
 have E := i' b34
 have Rl1 := i' r34
 clear r34
 clear b34
 go_wp2_with fail
 refine (H_prim.out _ _ Rl1.out).mono ?_
 rintro e x35 ⟨v35, rfl, r35, b35⟩
 have Rl1 := i' (Rl1.out.below b35)
 have E := i' (chain E.out b35)
 have Ry1 := i' r35
 clear r35
 clear b35
 have TOT := i' (chain TOT.out E.out)
 have T18 := i' (T18.out.next E.out)
 clear Rl1
 clear E
 go_wp2_with fail
 refine (H_pp1p0p0p1.out _).mono ?_
 rintro e x36 ⟨v36, rfl, r36, b36⟩
 have E := i' b36
 have Rl1 := i' r36
 clear r36
 clear b36
 go_wp2_with fail
 refine (H_pp1p2.out _).mono ?_
 rintro e x37 ⟨v37, rfl, r37, b37⟩
 have Rl1 := i' (Rl1.out.below b37)
 have E := i' (chain E.out b37)
 have Rl2 := i' r37
 clear r37
 clear b37
 go_wp2_with fail
 refine (H_rest.out _ _ _ Rl1.out Rl2.out).mono ?_
 rintro e x38 ⟨v38, rfl, r38, b38⟩
 have Rl1 := i' (Rl1.out.below b38)
 have Rl2 := i' (Rl2.out.below b38)
 have E := i' (chain E.out b38)
 have Ru1 := i' r38
 clear r38
 clear b38
 have TOT := i' (chain TOT.out E.out)
 have Ry1 := i' (Ry1.out.below E.out)
 have T18 := i' (T18.out.next E.out)
 clear Rl1
 clear Rl2
 clear E
 go_wp2_with fail
 refine (H_pm1p0p1.out _).mono ?_
 rintro e x39 ⟨v39, rfl, r39, b39⟩
 have E := i' b39
 have Rl1 := i' r39
 clear r39
 clear b39
 go_wp2_with fail
 refine (H_pp1p1.out _).mono ?_
 rintro e x40 ⟨v40, rfl, r40, b40⟩
 have Rl1 := i' (Rl1.out.below b40)
 have E := i' (chain E.out b40)
 have Rl2 := i' r40
 clear r40
 clear b40
 go_wp2_with fail
 refine (H_div1.out _ _ _ Rl1.out Rl2.out).mono ?_
 rintro e x41 ⟨v41, rfl, r41, b41⟩
 have Rl1 := i' (Rl1.out.below b41)
 have Rl2 := i' (Rl2.out.below b41)
 have E := i' (chain E.out b41)
 have Rk1 := i' r41
 clear r41
 clear b41
 have TOT := i' (chain TOT.out E.out)
 have Ry1 := i' (Ry1.out.below E.out)
 have Ru1 := i' (Ru1.out.below E.out)
 have T18 := i' (T18.out.next E.out)
 clear Rl1
 clear Rl2
 clear E
 go_wp2_with fail
 refine (H_pp1p0p1.out _).mono ?_
 rintro e x42 ⟨v42, rfl, r42, b42⟩
 have E := i' b42
 have Rl1 := i' r42
 clear r42
 clear b42
 go_wp2_with fail
 refine (H_pp1p1.out _).mono ?_
 rintro e x43 ⟨v43, rfl, r43, b43⟩
 have Rl1 := i' (Rl1.out.below b43)
 have E := i' (chain E.out b43)
 have Rl2 := i' r43
 clear r43
 clear b43
 go_wp2_with fail
 refine (H_div2.out _ _ _ Rl1.out Rl2.out).mono ?_
 rintro e x44 ⟨rfl, b44⟩
 have Rl1 := i' (Rl1.out.below b44)
 have Rl2 := i' (Rl2.out.below b44)
 have E := i' (chain E.out b44)
 clear b44
 have TOT := i' (chain TOT.out E.out)
 have Ry1 := i' (Ry1.out.below E.out)
 have Ru1 := i' (Ru1.out.below E.out)
 have Rk1 := i' (Rk1.out.below E.out)
 have T18 := i' (T18.out.next E.out)
 clear Rl1
 clear Rl2
 clear E
 go_wp2_with fail
 obtain ⟨k0, k1, _⟩ := T18.out
 go_region_held3 (fun W' => W'.cell? ⟨x33.heap.size, 0, none⟩ = some (.bool b2) ∧ W'.cell? ⟨x33.heap.size, 1, none⟩ = some (.string s2)) (go_keep)
  (first
   | (go_at_call 63; (with_reducible refine (H_w2.out _).mono ?_); rintro e y ⟨rfl, b9⟩; have D := i' (show Below x44.heap.size x44 y by first | exact chain D.out b9 | exact chain ((Below.refl _ _).drew) b9); have p0 := keep1 D.out k0; have p1 := keep1 D.out k1; clear b9)
   | (go_at_call 64; (with_reducible refine (H_ism3m2.out _ _ (Ry1.out.below ?hb1x44)).mono ?_); (first | exact D.out | exact (Below.refl _ _).drew); rintro e y ⟨rfl, b9⟩; have D := i' (show Below x44.heap.size x44 y by first | exact chain D.out b9 | exact chain ((Below.refl _ _).drew) b9); have p0 := keep1 D.out k0; have p1 := keep1 D.out k1; clear b9)
   | (go_at_call 64; (with_reducible refine (H_isp7.out _ _ (Ru1.out.below ?hb2x44)).mono ?_); (first | exact D.out | exact (Below.refl _ _).drew); rintro e y ⟨rfl, b9⟩; have D := i' (show Below x44.heap.size x44 y by first | exact chain D.out b9 | exact chain ((Below.refl _ _).drew) b9); have p0 := keep1 D.out k0; have p1 := keep1 D.out k1; clear b9)
   | (go_at_call 64; (with_reducible refine (H_ism1p1.out _ _ (Rk1.out.below ?hb3x44)).mono ?_); (first | exact D.out | exact (Below.refl _ _).drew); rintro e y ⟨rfl, b9⟩; have D := i' (show Below x44.heap.size x44 y by first | exact chain D.out b9 | exact chain ((Below.refl _ _).drew) b9); have p0 := keep1 D.out k0; have p1 := keep1 D.out k1; clear b9)
   | fail)
 have E := D
 clear D k0 k1 p0 p1
 clear T18
 have TOT := i' (chain TOT.out E.out)
 have Ry1 := i' (Ry1.out.below E.out)
 have Ru1 := i' (Ru1.out.below E.out)
 have Rk1 := i' (Rk1.out.below E.out)
 clear E
 clear Ry1
 clear Ru1
 clear Rk1
 go_wp2_with fail
 refine (H_pm1p0p1.out _).mono ?_
 rintro e x45 ⟨v45, rfl, r45, b45⟩
 have E := i' b45
 have Rl1 := i' r45
 clear r45
 clear b45
 go_wp2_with fail
 refine (H_pp2p4p2.out _).mono ?_
 rintro e x46 ⟨v46, rfl, r46, b46⟩
 have Rl1 := i' (Rl1.out.below b46)
 have E := i' (chain E.out b46)
 have Rl2 := i' r46
 clear r46
 clear b46
 go_wp2_with fail
 refine (H_gcd1.out _ _ _ Rl1.out Rl2.out).mono ?_
 rintro e x47 ⟨v47, rfl, r47, b47⟩
 have Rl1 := i' (Rl1.out.below b47)
 have Rl2 := i' (Rl2.out.below b47)
 have E := i' (chain E.out b47)
 have Rj1 := i' r47
 clear r47
 clear b47
 have TOT := i' (chain TOT.out E.out)
 clear Rl1
 clear Rl2
 clear E
 go_wp2_with fail
 refine (H_pp1p1.out _).mono ?_
 rintro e x48 ⟨v48, rfl, r48, b48⟩
 have E := i' b48
 have Rl1 := i' r48
 clear r48
 clear b48
 go_wp2_with fail
 refine (H_gcd2.out _ _ Rl1.out).mono ?_
 rintro e x49 ⟨v49, rfl, r49, b49⟩
 have Rl1 := i' (Rl1.out.below b49)
 have E := i' (chain E.out b49)
 have Rl3 := i' r49
 clear r49
 clear b49
 have TOT := i' (chain TOT.out E.out)
 have Rj1 := i' (Rj1.out.below E.out)
 clear Rl1
 clear E
 go_wp2_with fail
 refine (H_pp2.out _).mono ?_
 rintro e x50 ⟨v50, rfl, r50, b50⟩
 have E := i' b50
 have Rl1 := i' r50
 clear r50
 clear b50
 go_wp2_with fail
 refine (H_pp4.out _).mono ?_
 rintro e x51 ⟨v51, rfl, r51, b51⟩
 have Rl1 := i' (Rl1.out.below b51)
 have E := i' (chain E.out b51)
 have Rl2 := i' r51
 clear r51
 clear b51
 go_wp2_with fail
 refine (H_gcd3.out _ _ _ Rl1.out Rl2.out).mono ?_
 rintro e x52 ⟨v52, rfl, r52, b52⟩
 have Rl1 := i' (Rl1.out.below b52)
 have Rl2 := i' (Rl2.out.below b52)
 have E := i' (chain E.out b52)
 have Rone := i' r52
 clear r52
 clear b52
 have TOT := i' (chain TOT.out E.out)
 have Rj1 := i' (Rj1.out.below E.out)
 have Rl3 := i' (Rl3.out.below E.out)
 clear Rl1
 clear Rl2
 clear E
 go_wp2_with fail
 refine (H_isp1p1.out _ _ Rj1.out).mono ?_
 rintro e x53 ⟨rfl, b53⟩
 have E := i' b53
 clear b53
 go_wp2_with fail
 refine (H_isp1p1.out _ _ (Rl3.out.below E.out)).mono ?_
 rintro e x54 ⟨rfl, b54⟩
 have E := i' (chain E.out b54)
 clear b54
 go_wp2_with fail
 refine (H_isp1.out _ _ (Rone.out.below E.out)).mono ?_
 rintro e x55 ⟨rfl, b55⟩
 have E := i' (chain E.out b55)
 clear b55
 have TOT := i' (chain TOT.out E.out)
 have Rj1 := i' (Rj1.out.below E.out)
 have Rl3 := i' (Rl3.out.below E.out)
 have Rone := i' (Rone.out.below E.out)
 clear E
 go_wp2
 go_ret
 exact ⟨rfl, TOT.out⟩
end Go.Proofs.YtepddegphdlbeaaGreat
namespace Go.Proofs.YtepddegphdlbeaaGreat
open Go.ChangeShapes Go.WideShapes Go.ChangeAt Go.RowKit Go.Joins
open Go.ChangeMaps (open_string shut_string)
theorem Tryz.own : ownKnob Tryz.prog.godebug = none := by kernel_rfl
theorem Tryz.cellsWide : Tryz.prog.cellsOf 44 = 2 := by kernel_rfl
end Go.Proofs.YtepddegphdlbeaaGreat
namespace Go.Proofs.YtepddegphdlbeaaGreat
open Go.ChangeShapes Go.WideShapes Go.ChangeAt Go.RowKit Go.Joins Go.Deep
open Go.ChangeMaps (open_string shut_string)
theorem k'm8 {α : Type} [Inhabited α] {m : Nat} {P : Nat → α → Prop} (h : ∀ i, i < m → ∃ x, P i x) : ∃ f : Nat → α, ∀ i, i < m → P i (f i) :=
 ⟨fun i => if hi : i < m then (h i hi).choose else default, fun i hi => by show P i (dite _ _ _); rw [dif_pos hi]; exact (h i hi).choose_spec⟩
theorem k'm9 {H : Type} {enc : TypeId × Value → H} {W : World} {b0 : Nat} {r : Reach} {v : Value} {d : DataW H} {p : List MemPlace}
 (hv : Value.okWide Tryz.prog W r b0 23 v) (h : DataW.Trod enc Tryz.prog W 0 (fun _ => true) true 23 v d p) :
 ∃ L : List (Bool × ByteArray), Rw W v L ∧ Lim L ∧ ∀ W', Below W.heap.size W W' → DataW.Trod enc Tryz.prog W' 0 (fun b => decide (b < W.heap.size)) true 23 v d p := by
 have hu := Tryz.underlying23
 have he := Tryz.underlying44
 have c2 : Tryz.prog.cellsOf 44 = 2 := Tryz.cellsWide
 have cb : Tryz.prog.cellsOf 4 = 1 := by kernel_rfl
 have cs : Tryz.prog.cellsOf 9 = 1 := by kernel_rfl
 obtain ⟨a0, len0, cap0, rfl⟩ := okWide_slice hu hv
 obtain ⟨fuel, hf⟩ := h
 rcases open_slice_pairs hu he c2 rfl rfl cb cs hf with ⟨hcs, hx⟩ | ⟨a, len, cap, m, n, V0, V1, D0, D1, P0, P1, hcs, hb, hl, hm, hmm, hx, hall⟩
 ·simp [Value.cells] at hcs
  obtain ⟨rfl, rfl, rfl⟩ := hcs
  simp only [Prod.mk.injEq] at hx
  obtain ⟨rfl, rfl⟩ := hx
  exact ⟨[], Rw.nil W, fun x hx => (nomatch hx), fun W' _ => shut_slice_nil hu⟩
 ·simp [Value.cells] at hcs
  obtain ⟨rfl, rfl, rfl⟩ := hcs
  simp only [if_true] at hmm
  subst hmm
  simp only [Prod.mk.injEq] at hx
  obtain ⟨rfl, rfl⟩ := hx
  rcases Nat.eq_zero_or_pos m with h0 | h0
  ·subst h0
   have hl0 : len0 = 0 := by omega
   subst hl0
   refine ⟨[], ⟨some a, 0, 0, 0, rfl, Nat.le_refl _, hm, fun h => absurd rfl h, fun k h => absurd h (by simp)⟩, fun x hx => (nomatch hx), fun W' _ => ?_⟩
   have hno : ∀ i, i < 0 → False := fun i hi => absurd hi (Nat.not_lt_zero _)
   cases hsp : decide (a.block < W.heap.size) with
   | true =>
    obtain ⟨n, key⟩ := shut_slice_whole_cells (enc := enc) (w := W') (base := 0) (spare := fun b => decide (b < W.heap.size)) (held := true) (a := a) (len := 0) (cap := 0) hu (Nat.zero_le _) (Nat.le_refl _) hm hsp (fun i => .agg [D0 i, D1 i]) (fun i => P0 i ++ P1 i) (fun i hi => (hno i hi).elim)
    exact ⟨n, by simpa [Value.cells, MemPlace.row] using key⟩
   | false =>
    obtain ⟨n, key⟩ := shut_slice_cells (enc := enc) (w := W') (base := 0) (spare := fun b => decide (b < W.heap.size)) (held := true) (a := a) (len := 0) (cap := 0) hu (Nat.zero_le _) (Nat.le_refl _) hm hsp (fun i => .agg [D0 i, D1 i]) (fun i => P0 i ++ P1 i) (fun i hi => (hno i hi).elim)
    exact ⟨n, by simpa [Value.cells, MemPlace.row] using key⟩
  ·obtain ⟨ab, ao, spot⟩ := a
   have hspot : spot = none := by simpa [Addr.add] using World.cell?_spot (hall 0 h0).1
   subst hspot
   have hboth : ∀ i, i < m → ∃ q : Bool × ByteArray, V0 i = .bool q.1 ∧ V1 i = .string q.2 ∧ D0 i = .lit (.bool q.1) ∧ D1 i = .lit (.string q.2.data.toList) ∧ P0 i = [] ∧ P1 i = [] ∧ q.2.size ≤ maxLen := fun i hi => by
    obtain ⟨x, e0, e1⟩ := DataW.trod_bool Tryz.underlying4 (hall i hi).2.2.1
    obtain ⟨s, e2, e3, hs⟩ := DataW.trod_string Tryz.underlying9 (hall i hi).2.2.2
    simp at e0 e2
    simp only [Prod.mk.injEq] at e1 e3
    exact ⟨(x, s), e0, e2, e1.1, e3.1, e1.2, e3.2, hs⟩
   obtain ⟨q, hq⟩ := k'm8 hboth
   have hlt : ab < W.heap.size := by
    have := World.block_lt_of_cell? W _ (hall 0 h0).1
    simpa [Addr.add] using this
   refine ⟨(List.range len0).map q, ⟨some ⟨ab, ao, none⟩, ab, ao, m, by simp, by simpa using hl, hm, fun _ => rfl, fun k hk => ?_⟩, fun x hx => ?_, fun W' hb' => ?_⟩
   ·have hk' : k < len0 := by simpa using hk
    have h1 := (hall k (by omega)).1
    have h2 := (hall k (by omega)).2.1
    rw [(hq k (by omega)).1] at h1
    rw [(hq k (by omega)).2.1] at h2
    rw [add_plain] at h1 h2
    simp only [List.getElem_map, List.getElem_range]
    exact ⟨h1, by simpa [Nat.add_assoc] using h2⟩
   ·obtain ⟨i, hi, rfl⟩ := List.mem_map.1 hx
    have hi' := List.mem_range.1 hi
    have := (hq i (by omega)).2.2.2.2.2.2
    unfold maxLen at this
    omega
   ·have key := shut_slice_pairs_whole (enc := enc) (w := W') (base := 0) (spare := fun b => decide (b < W.heap.size)) (held := true) hu he c2 rfl rfl cb cs (b := ab) (off := ao) (len := len0) (cap := m) (Nat.zero_le _) hl hm (by simpa using hlt)
     V0 V1 D0 D1 P0 P1
     (fun i hi => by have h1 := (hall i hi).1; rw [add_plain] at h1; exact k'd hb' h1)
     (fun i hi => by have h1 := (hall i hi).2.1; rw [add_plain] at h1; exact k'd hb' (by simpa [Nat.add_assoc] using h1))
     (fun i hi => by
      obtain ⟨e1, e2, e3, e4, e5, e6, e7⟩ := hq i hi
      exact ⟨1, by rw [e1, e3, e5]; simp [DataW.trod, Tryz.underlying4]⟩)
     (fun i hi => by
      obtain ⟨e1, e2, e3, e4, e5, e6, e7⟩ := hq i hi
      exact ⟨1, by rw [e2, e4, e6]; simp [DataW.trod, Tryz.underlying9, e7]⟩)
    obtain ⟨n, key⟩ := key
    exact ⟨n, by simpa [Value.cells] using key⟩
end Go.Proofs.YtepddegphdlbeaaGreat
