/- PolySums gives true for all pairs of polynomials (P2.2), and leaves its arguments as they were. No condition. -/
import Derived.Test.YtepddegphdlbeaaGreatB0
import Derived.Test.YtepddegphdlbeaaGreatG12
import Derived.Test.YtepddegphdlbeaaGreatG9
import Derived.Test.YtepddegphdlbeaaGreatG8
import Derived.Test.YtepddegphdlbeaaGreatG7
import Derived.Test.YtepddegphdlbeaaGreatG6
import Derived.Test.YtepddegphdlbeaaGreatG4
import Derived.Test.YtepddegphdlbeaaGreatG3
import Derived.Test.YtepddegphdlbeaaGreatG2
import Derived.Test.YtepddegphdlbeaaGreatG1
import Derived.Test.YtepddegphdlbeaaGreatG0
import Derived.Test.YtepddegphdlbeaaGreatProg
import Derived.WalkKit
import Derived.WalkSpells
import Derived.WalkLawsBesides
import Derived.Lib.Hide
import Derived.Deep.QuietTactic
import Derived.BigQuiet
import Derived.Shelf.Small.Bits
import Derived.Shelf.Small.Wraps
import Derived.Shelf.Strconv.Itoa0
import Derived.Shelf.Bits.Mul64
import Derived.Ground.Names2Prog
import Derived.Shelf.Slices.SearchI
import Derived.Shelf.Spec.BitsCarry
import Derived.Deep.LoopGhost
import Derived.Deep.RegionHeld3
import Derived.Deep.DeepCutAuto
import Derived.Test.YtepddegphdlbeaaGreatG5
import Derived.Laws.AppendOwnNone
import Derived.Below
import Derived.Test.YtepddegphdlbeaaGreatG11
import Derived.Test.YtepddegphdlbeaaGreatG10
import Derived.RangeFuncNested
import Derived.RangeFuncBound
import Derived.RangeFuncCalls
import Derived.RangeFuncLeaves
import Derived.Shelf.Abstract
import Derived.Shelf.RegionOpen
import Derived.OwnWalkIn
import Derived.TacticsInMore
import Derived.LoopNIn
import Derived.LoopIn
import Derived.OrdersIn
import Derived.Deep.RegionHeld
import Derived.Maps.AppendAt
import Derived.Lib.SliceRun
import Derived.IntWalk
import Derived.Test.YtepddegphdlbeaaGreatG16
import Derived.Test.YtepddegphdlbeaaGreatG15
import Derived.Test.YtepddegphdlbeaaGreatG13
import Derived.Laws.StructEq
import Derived.Test.YtepddegphdlbeaaGreatG14
import Derived.Test.YtepddegphdlbeaaGreatRows
import Derived.ProofKit
import Derived.OpenShut
import Derived.ShutString
import Derived.ChangeOld
import Derived.Lib.SmallJoins
import Derived.Deep.SlicePairs
set_option maxRecDepth 100000
set_option maxHeartbeats 16000000
set_option linter.all false
namespace Go.Proofs.YtepddegphdlbeaaGreat
open Go.RowKit
theorem k'lu (p q Ta Ts Tm : List Int) (v1 v2 : Value) (w : World) (n m : Nat) (hn : p.length = n) (hm : q.length = m) (h1 : Rp w v1 p) (h2 : Rp w v2 q) (hn0 : n = 0)
 (HS : Calls Tryz.prog 11 #[.slice (some ⟨w.heap.size, 0, none⟩) 2 2] (w.alloc (.cells #[v1, v2] 23)) (BPost true w))
 (HV : ∀ w', Below w.heap.size w w' → Calls Tryz.prog 19 #[.slice (some ⟨w'.heap.size, 0, none⟩) 2 2] (w'.alloc (.cells #[v1, v2] 23)) (BPost true w'))
 (HA : ∀ w', Below w.heap.size w w' → Calls Tryz.prog 25 #[v1, v2] w' (ResP Ta w'))
 (HB : ∀ w', Below w.heap.size w w' → Calls Tryz.prog 26 #[v1, v2] w' (ResP Ts w'))
 (HM : ∀ w', Below w.heap.size w w' → Calls Tryz.prog 27 #[v1, v2] w' (ResP Tm w'))
 (HF1 : ∀ w', Below w.heap.size w w' → Calls Tryz.prog 21 #[v1] w' (RPPost p w'))
 (HF2 : ∀ w', Below w.heap.size w w' → Calls Tryz.prog 21 #[v2] w' (RPPost q w'))
 (HRA : ∀ w' a b, RP w' a p → RP w' b q → Calls Tryz.prog 29 #[a, b] w' (RPPost Ta w'))
 (HRB : ∀ w' a b, RP w' a p → RP w' b q → Calls Tryz.prog 30 #[a, b] w' (RPPost Ts w'))
 (HRM : ∀ w' a b, RP w' a p → RP w' b q → Calls Tryz.prog 28 #[a, b] w' (RPPost Tm w'))
 (HE : ∀ T, T = Ta ∨ T = Ts ∨ T = Tm → ∀ w' v x, Rp w' v T → RP w' x T → Calls Tryz.prog 24 #[v, .int .i64 0, x] w' (BPost true w')) :
 Calls Tryz.prog 4 #[v1, v2] w (Ret (.bool true) w) := by
 have HK := i' k'l8
 have EA := i' (HE Ta (Or.inl rfl))
 have EB := i' (HE Ts (Or.inr (Or.inl rfl)))
 have EM := i' (HE Tm (Or.inr (Or.inr rfl)))
 have HS := i' HS
 have HV := i' HV
 have HA := i' HA
 have HB := i' HB
 have HM := i' HM
 have HF1 := i' HF1
 have HF2 := i' HF2
 have HRA := i' HRA
 have HRB := i' HRB
 have HRM := i' HRM
 have HO1 : Hid (∀ w' v, RP w' v p → ∃ a c, v = .slice a n c) := fun w' v h => by obtain ⟨a, b, o, c, h, -⟩ := h; exact ⟨a, c, by rw [h, hn]⟩
 have HO2 : Hid (∀ w' v, RP w' v q → ∃ a c, v = .slice a m c) := fun w' v h => by obtain ⟨a, b, o, c, h, -⟩ := h; exact ⟨a, c, by rw [h, hm]⟩
 obtain ⟨p1, a1, o1, c1, rfl, -, -, -, -⟩ := h1.open_
 obtain ⟨p2, a2, o2, c2, rfl, -, -, -, -⟩ := h2.open_
 clear HE h1 h2
 rw [hn, hm] at *
 clear hn hm
 subst hn0
 unfold BPost at HS HV EA EB EM
 unfold ResP at *
 unfold RPPost at *
 unfold Ret at *
 go_enter Tryz.func4, Tryz.ntmps4
 go_wp2_with fail
 refine (HS.out).mono ?_
 rintro e x1 ⟨rfl, b1⟩
 have E := i' b1
 clear b1
 go_wp2_with fail
 refine (HA.out _ E.out).mono ?_
 rintro e x2 ⟨y2, rfl, r2, b2⟩
 have E := i' (chain E.out b2)
 have RA := i' r2
 clear r2
 clear b2
 go_wp2_with fail
 refine (HB.out _ E.out).mono ?_
 rintro e x3 ⟨y3, rfl, r3, b3⟩
 have RA := i' (RA.out.below b3)
 have E := i' (chain E.out b3)
 have RB := i' r3
 clear r3
 clear b3
 go_wp2_with fail
 refine (HM.out _ E.out).mono ?_
 rintro e x4 ⟨y4, rfl, r4, b4⟩
 have RA := i' (RA.out.below b4)
 have RB := i' (RB.out.below b4)
 have E := i' (chain E.out b4)
 have RM := i' r4
 clear r4
 clear b4
 go_wp2_with fail
 refine (HV.out _ E.out).mono ?_
 rintro e x5 ⟨rfl, b5⟩
 have RA := i' (RA.out.below b5)
 have RB := i' (RB.out.below b5)
 have RM := i' (RM.out.below b5)
 have E := i' (chain E.out b5)
 clear b5
 go_wp2_with fail
 refine (HF1.out _ E.out).mono ?_
 rintro e x6 ⟨y6, rfl, r6, b6⟩
 have RA := i' (RA.out.below b6)
 have RB := i' (RB.out.below b6)
 have RM := i' (RM.out.below b6)
 have E := i' (chain E.out b6)
 have RX := i' r6
 obtain ⟨RXa, RXc, hRX⟩ := HO1.out _ _ r6
 subst hRX
 clear r6
 clear b6
 go_wp2_with fail
 refine (HF2.out _ E.out).mono ?_
 rintro e x7 ⟨y7, rfl, r7, b7⟩
 have RA := i' (RA.out.below b7)
 have RB := i' (RB.out.below b7)
 have RM := i' (RM.out.below b7)
 have RX := i' (RX.out.below b7)
 have E := i' (chain E.out b7)
 have RY := i' r7
 obtain ⟨RYa, RYc, hRY⟩ := HO2.out _ _ r7
 subst hRY
 clear r7
 clear b7
 go_wp2_with fail
 refine (HRM.out _ _ _ RX.out RY.out).mono ?_
 rintro e x8 ⟨y8, rfl, r8, b8⟩
 have RA := i' (RA.out.below b8)
 have RB := i' (RB.out.below b8)
 have RM := i' (RM.out.below b8)
 have RX := i' (RX.out.below b8)
 have RY := i' (RY.out.below b8)
 have E := i' (chain E.out b8)
 have ZM := i' r8
 clear r8
 clear b8
 go_wp2_with fail
 refine (EM.out _ _ _ RM.out ZM.out).mono ?_
 rintro e x9 ⟨rfl, b9⟩
 have RA := i' (RA.out.below b9)
 have RB := i' (RB.out.below b9)
 have RM := i' (RM.out.below b9)
 have RX := i' (RX.out.below b9)
 have RY := i' (RY.out.below b9)
 have ZM := i' (ZM.out.below b9)
 have E := i' (chain E.out b9)
 clear b9
 go_wp2_with fail
 refine (HRA.out _ _ _ RX.out RY.out).mono ?_
 rintro e x10 ⟨y10, rfl, r10, b10⟩
 have RA := i' (RA.out.below b10)
 have RB := i' (RB.out.below b10)
 have RM := i' (RM.out.below b10)
 have RX := i' (RX.out.below b10)
 have RY := i' (RY.out.below b10)
 have ZM := i' (ZM.out.below b10)
 have E := i' (chain E.out b10)
 have ZA := i' r10
 clear r10
 clear b10
 go_wp2_with fail
 refine (EA.out _ _ _ RA.out ZA.out).mono ?_
 rintro e x11 ⟨rfl, b11⟩
 have RA := i' (RA.out.below b11)
 have RB := i' (RB.out.below b11)
 have RM := i' (RM.out.below b11)
 have RX := i' (RX.out.below b11)
 have RY := i' (RY.out.below b11)
 have ZM := i' (ZM.out.below b11)
 have ZA := i' (ZA.out.below b11)
 have E := i' (chain E.out b11)
 clear b11
 go_wp2_with fail
 refine (HRB.out _ _ _ RX.out RY.out).mono ?_
 rintro e x12 ⟨y12, rfl, r12, b12⟩
 have RA := i' (RA.out.below b12)
 have RB := i' (RB.out.below b12)
 have RM := i' (RM.out.below b12)
 have RX := i' (RX.out.below b12)
 have RY := i' (RY.out.below b12)
 have ZM := i' (ZM.out.below b12)
 have ZA := i' (ZA.out.below b12)
 have E := i' (chain E.out b12)
 have ZB := i' r12
 clear r12
 clear b12
 go_wp2_with fail
 refine (EB.out _ _ _ RB.out ZB.out).mono ?_
 rintro e x13 ⟨rfl, b13⟩
 have RA := i' (RA.out.below b13)
 have RB := i' (RB.out.below b13)
 have RM := i' (RM.out.below b13)
 have RX := i' (RX.out.below b13)
 have RY := i' (RY.out.below b13)
 have ZM := i' (ZM.out.below b13)
 have ZA := i' (ZA.out.below b13)
 have ZB := i' (ZB.out.below b13)
 have E := i' (chain E.out b13)
 clear b13
 go_wp2_with fail
 refine (HK.out _).mono ?_
 rintro e x14 ⟨rfl, b14⟩
 have RA := i' (RA.out.below b14)
 have RB := i' (RB.out.below b14)
 have RM := i' (RM.out.below b14)
 have RX := i' (RX.out.below b14)
 have RY := i' (RY.out.below b14)
 have ZM := i' (ZM.out.below b14)
 have ZA := i' (ZA.out.below b14)
 have ZB := i' (ZB.out.below b14)
 have E := i' (chain E.out b14)
 clear b14
 go_wp2
 go_ret
 exact ⟨rfl, E.out⟩
theorem k'lv (p q Ta Ts Tm : List Int) (v1 v2 : Value) (w : World) (n m : Nat) (hn : p.length = n) (hm : q.length = m) (h1 : Rp w v1 p) (h2 : Rp w v2 q) (hn0 : 0 < n) (hm0 : m = 0)
 (HS : Calls Tryz.prog 11 #[.slice (some ⟨w.heap.size, 0, none⟩) 2 2] (w.alloc (.cells #[v1, v2] 23)) (BPost true w))
 (HV : ∀ w', Below w.heap.size w w' → Calls Tryz.prog 19 #[.slice (some ⟨w'.heap.size, 0, none⟩) 2 2] (w'.alloc (.cells #[v1, v2] 23)) (BPost true w'))
 (HA : ∀ w', Below w.heap.size w w' → Calls Tryz.prog 25 #[v1, v2] w' (ResP Ta w'))
 (HB : ∀ w', Below w.heap.size w w' → Calls Tryz.prog 26 #[v1, v2] w' (ResP Ts w'))
 (HM : ∀ w', Below w.heap.size w w' → Calls Tryz.prog 27 #[v1, v2] w' (ResP Tm w'))
 (HF1 : ∀ w', Below w.heap.size w w' → Calls Tryz.prog 21 #[v1] w' (RPPost p w'))
 (HF2 : ∀ w', Below w.heap.size w w' → Calls Tryz.prog 21 #[v2] w' (RPPost q w'))
 (HRA : ∀ w' a b, RP w' a p → RP w' b q → Calls Tryz.prog 29 #[a, b] w' (RPPost Ta w'))
 (HRB : ∀ w' a b, RP w' a p → RP w' b q → Calls Tryz.prog 30 #[a, b] w' (RPPost Ts w'))
 (HRM : ∀ w' a b, RP w' a p → RP w' b q → Calls Tryz.prog 28 #[a, b] w' (RPPost Tm w'))
 (HE : ∀ T, T = Ta ∨ T = Ts ∨ T = Tm → ∀ w' v x, Rp w' v T → RP w' x T → Calls Tryz.prog 24 #[v, .int .i64 0, x] w' (BPost true w')) :
 Calls Tryz.prog 4 #[v1, v2] w (Ret (.bool true) w) := by
 have HK := i' k'l8
 have EA := i' (HE Ta (Or.inl rfl))
 have EB := i' (HE Ts (Or.inr (Or.inl rfl)))
 have EM := i' (HE Tm (Or.inr (Or.inr rfl)))
 have HS := i' HS
 have HV := i' HV
 have HA := i' HA
 have HB := i' HB
 have HM := i' HM
 have HF1 := i' HF1
 have HF2 := i' HF2
 have HRA := i' HRA
 have HRB := i' HRB
 have HRM := i' HRM
 have HO1 : Hid (∀ w' v, RP w' v p → ∃ a c, v = .slice a n c) := fun w' v h => by obtain ⟨a, b, o, c, h, -⟩ := h; exact ⟨a, c, by rw [h, hn]⟩
 have HO2 : Hid (∀ w' v, RP w' v q → ∃ a c, v = .slice a m c) := fun w' v h => by obtain ⟨a, b, o, c, h, -⟩ := h; exact ⟨a, c, by rw [h, hm]⟩
 obtain ⟨p1, a1, o1, c1, rfl, -, -, -, -⟩ := h1.open_
 obtain ⟨p2, a2, o2, c2, rfl, -, -, -, -⟩ := h2.open_
 clear HE h1 h2
 rw [hn, hm] at *
 clear hn hm
 subst hm0
 have f1 : (0 : Int) < (n : Int) := by omega
 clear hn0
 unfold BPost at HS HV EA EB EM
 unfold ResP at *
 unfold RPPost at *
 unfold Ret at *
 go_enter Tryz.func4, Tryz.ntmps4
 go_wp2_with fail
 refine (HS.out).mono ?_
 rintro e x1 ⟨rfl, b1⟩
 have E := i' b1
 clear b1
 go_wp2_with fail
 refine (HA.out _ E.out).mono ?_
 rintro e x2 ⟨y2, rfl, r2, b2⟩
 have E := i' (chain E.out b2)
 have RA := i' r2
 clear r2
 clear b2
 go_wp2_with fail
 refine (HB.out _ E.out).mono ?_
 rintro e x3 ⟨y3, rfl, r3, b3⟩
 have RA := i' (RA.out.below b3)
 have E := i' (chain E.out b3)
 have RB := i' r3
 clear r3
 clear b3
 go_wp2_with fail
 refine (HM.out _ E.out).mono ?_
 rintro e x4 ⟨y4, rfl, r4, b4⟩
 have RA := i' (RA.out.below b4)
 have RB := i' (RB.out.below b4)
 have E := i' (chain E.out b4)
 have RM := i' r4
 clear r4
 clear b4
 go_wp2_with fail
 refine (HV.out _ E.out).mono ?_
 rintro e x5 ⟨rfl, b5⟩
 have RA := i' (RA.out.below b5)
 have RB := i' (RB.out.below b5)
 have RM := i' (RM.out.below b5)
 have E := i' (chain E.out b5)
 clear b5
 go_wp2_with fail
 refine (HF1.out _ E.out).mono ?_
 rintro e x6 ⟨y6, rfl, r6, b6⟩
 have RA := i' (RA.out.below b6)
 have RB := i' (RB.out.below b6)
 have RM := i' (RM.out.below b6)
 have E := i' (chain E.out b6)
 have RX := i' r6
 obtain ⟨RXa, RXc, hRX⟩ := HO1.out _ _ r6
 subst hRX
 clear r6
 clear b6
 go_wp2_with fail
 refine (HF2.out _ E.out).mono ?_
 rintro e x7 ⟨y7, rfl, r7, b7⟩
 have RA := i' (RA.out.below b7)
 have RB := i' (RB.out.below b7)
 have RM := i' (RM.out.below b7)
 have RX := i' (RX.out.below b7)
 have E := i' (chain E.out b7)
 have RY := i' r7
 obtain ⟨RYa, RYc, hRY⟩ := HO2.out _ _ r7
 subst hRY
 clear r7
 clear b7
 go_wp2_with fail
 refine (HRM.out _ _ _ RX.out RY.out).mono ?_
 rintro e x8 ⟨y8, rfl, r8, b8⟩
 have RA := i' (RA.out.below b8)
 have RB := i' (RB.out.below b8)
 have RM := i' (RM.out.below b8)
 have RX := i' (RX.out.below b8)
 have RY := i' (RY.out.below b8)
 have E := i' (chain E.out b8)
 have ZM := i' r8
 clear r8
 clear b8
 go_wp2_with fail
 refine (EM.out _ _ _ RM.out ZM.out).mono ?_
 rintro e x9 ⟨rfl, b9⟩
 have RA := i' (RA.out.below b9)
 have RB := i' (RB.out.below b9)
 have RM := i' (RM.out.below b9)
 have RX := i' (RX.out.below b9)
 have RY := i' (RY.out.below b9)
 have ZM := i' (ZM.out.below b9)
 have E := i' (chain E.out b9)
 clear b9
 go_wp2_with fail
 refine (HRA.out _ _ _ RX.out RY.out).mono ?_
 rintro e x10 ⟨y10, rfl, r10, b10⟩
 have RA := i' (RA.out.below b10)
 have RB := i' (RB.out.below b10)
 have RM := i' (RM.out.below b10)
 have RX := i' (RX.out.below b10)
 have RY := i' (RY.out.below b10)
 have ZM := i' (ZM.out.below b10)
 have E := i' (chain E.out b10)
 have ZA := i' r10
 clear r10
 clear b10
 go_wp2_with fail
 refine (EA.out _ _ _ RA.out ZA.out).mono ?_
 rintro e x11 ⟨rfl, b11⟩
 have RA := i' (RA.out.below b11)
 have RB := i' (RB.out.below b11)
 have RM := i' (RM.out.below b11)
 have RX := i' (RX.out.below b11)
 have RY := i' (RY.out.below b11)
 have ZM := i' (ZM.out.below b11)
 have ZA := i' (ZA.out.below b11)
 have E := i' (chain E.out b11)
 clear b11
 go_wp2_with fail
 refine (HRB.out _ _ _ RX.out RY.out).mono ?_
 rintro e x12 ⟨y12, rfl, r12, b12⟩
 have RA := i' (RA.out.below b12)
 have RB := i' (RB.out.below b12)
 have RM := i' (RM.out.below b12)
 have RX := i' (RX.out.below b12)
 have RY := i' (RY.out.below b12)
 have ZM := i' (ZM.out.below b12)
 have ZA := i' (ZA.out.below b12)
 have E := i' (chain E.out b12)
 have ZB := i' r12
 clear r12
 clear b12
 go_wp2_with fail
 refine (EB.out _ _ _ RB.out ZB.out).mono ?_
 rintro e x13 ⟨rfl, b13⟩
 have RA := i' (RA.out.below b13)
 have RB := i' (RB.out.below b13)
 have RM := i' (RM.out.below b13)
 have RX := i' (RX.out.below b13)
 have RY := i' (RY.out.below b13)
 have ZM := i' (ZM.out.below b13)
 have ZA := i' (ZA.out.below b13)
 have ZB := i' (ZB.out.below b13)
 have E := i' (chain E.out b13)
 clear b13
 go_wp2_with fail
 refine (HK.out _).mono ?_
 rintro e x14 ⟨rfl, b14⟩
 have RA := i' (RA.out.below b14)
 have RB := i' (RB.out.below b14)
 have RM := i' (RM.out.below b14)
 have RX := i' (RX.out.below b14)
 have RY := i' (RY.out.below b14)
 have ZM := i' (ZM.out.below b14)
 have ZA := i' (ZA.out.below b14)
 have ZB := i' (ZB.out.below b14)
 have E := i' (chain E.out b14)
 clear b14
 go_wp2
 go_ret
 exact ⟨rfl, E.out⟩
theorem k'lw (p q Ta Ts Tm : List Int) (v1 v2 : Value) (w : World) (n m : Nat) (hn : p.length = n) (hm : q.length = m) (h1 : Rp w v1 p) (h2 : Rp w v2 q) (hn0 : 0 < n) (hm0 : 0 < m) (hs : n + m ≤ 26)
 (HS : Calls Tryz.prog 11 #[.slice (some ⟨w.heap.size, 0, none⟩) 2 2] (w.alloc (.cells #[v1, v2] 23)) (BPost true w))
 (HV : ∀ w', Below w.heap.size w w' → Calls Tryz.prog 19 #[.slice (some ⟨w'.heap.size, 0, none⟩) 2 2] (w'.alloc (.cells #[v1, v2] 23)) (BPost true w'))
 (HA : ∀ w', Below w.heap.size w w' → Calls Tryz.prog 25 #[v1, v2] w' (ResP Ta w'))
 (HB : ∀ w', Below w.heap.size w w' → Calls Tryz.prog 26 #[v1, v2] w' (ResP Ts w'))
 (HM : ∀ w', Below w.heap.size w w' → Calls Tryz.prog 27 #[v1, v2] w' (ResP Tm w'))
 (HF1 : ∀ w', Below w.heap.size w w' → Calls Tryz.prog 21 #[v1] w' (RPPost p w'))
 (HF2 : ∀ w', Below w.heap.size w w' → Calls Tryz.prog 21 #[v2] w' (RPPost q w'))
 (HRA : ∀ w' a b, RP w' a p → RP w' b q → Calls Tryz.prog 29 #[a, b] w' (RPPost Ta w'))
 (HRB : ∀ w' a b, RP w' a p → RP w' b q → Calls Tryz.prog 30 #[a, b] w' (RPPost Ts w'))
 (HRM : ∀ w' a b, RP w' a p → RP w' b q → Calls Tryz.prog 28 #[a, b] w' (RPPost Tm w'))
 (HE : ∀ T, T = Ta ∨ T = Ts ∨ T = Tm → ∀ w' v x, Rp w' v T → RP w' x T → Calls Tryz.prog 24 #[v, .int .i64 0, x] w' (BPost true w')) :
 Calls Tryz.prog 4 #[v1, v2] w (Ret (.bool true) w) := by
 have HK := i' k'l8
 have EA := i' (HE Ta (Or.inl rfl))
 have EB := i' (HE Ts (Or.inr (Or.inl rfl)))
 have EM := i' (HE Tm (Or.inr (Or.inr rfl)))
 have HS := i' HS
 have HV := i' HV
 have HA := i' HA
 have HB := i' HB
 have HM := i' HM
 have HF1 := i' HF1
 have HF2 := i' HF2
 have HRA := i' HRA
 have HRB := i' HRB
 have HRM := i' HRM
 have HO1 : Hid (∀ w' v, RP w' v p → ∃ a c, v = .slice a n c) := fun w' v h => by obtain ⟨a, b, o, c, h, -⟩ := h; exact ⟨a, c, by rw [h, hn]⟩
 have HO2 : Hid (∀ w' v, RP w' v q → ∃ a c, v = .slice a m c) := fun w' v h => by obtain ⟨a, b, o, c, h, -⟩ := h; exact ⟨a, c, by rw [h, hm]⟩
 obtain ⟨p1, a1, o1, c1, rfl, -, -, -, -⟩ := h1.open_
 obtain ⟨p2, a2, o2, c2, rfl, -, -, -, -⟩ := h2.open_
 clear HE h1 h2
 rw [hn, hm] at *
 clear hn hm
 have f1 : (0 : Int) < (n : Int) := by omega
 have f2 : (0 : Int) < (m : Int) := by omega
 obtain ⟨s1, hs1⟩ : ∃ s : Int, s = (n : Int) + (m : Int) := ⟨_, rfl⟩
 obtain ⟨s2, hs2⟩ : ∃ s : Int, s = s1 - 2 := ⟨_, rfl⟩
 have k1 : IntKind.i64.wrap ((n : Int) + (m : Int)) = s1 := by rw [← hs1]; exact IntWalk.i64_in _ (by omega)
 have k2 : IntKind.i64.wrap (s1 - 2) = s2 := by rw [← hs2]; exact IntWalk.i64_in _ (by omega)
 have f3 : ¬ (24 : Int) < s2 := by omega
 clear hn0 hm0 hs hs1 hs2
 unfold BPost at HS HV EA EB EM
 unfold ResP at *
 unfold RPPost at *
 unfold Ret at *
 go_enter Tryz.func4, Tryz.ntmps4
 go_wp2_with fail
 refine (HS.out).mono ?_
 rintro e x1 ⟨rfl, b1⟩
 have E := i' b1
 clear b1
 go_wp2_with fail
 refine (HA.out _ E.out).mono ?_
 rintro e x2 ⟨y2, rfl, r2, b2⟩
 have E := i' (chain E.out b2)
 have RA := i' r2
 clear r2
 clear b2
 go_wp2_with fail
 refine (HB.out _ E.out).mono ?_
 rintro e x3 ⟨y3, rfl, r3, b3⟩
 have RA := i' (RA.out.below b3)
 have E := i' (chain E.out b3)
 have RB := i' r3
 clear r3
 clear b3
 go_wp2_with fail
 refine (HM.out _ E.out).mono ?_
 rintro e x4 ⟨y4, rfl, r4, b4⟩
 have RA := i' (RA.out.below b4)
 have RB := i' (RB.out.below b4)
 have E := i' (chain E.out b4)
 have RM := i' r4
 clear r4
 clear b4
 go_wp2_with fail
 refine (HV.out _ E.out).mono ?_
 rintro e x5 ⟨rfl, b5⟩
 have RA := i' (RA.out.below b5)
 have RB := i' (RB.out.below b5)
 have RM := i' (RM.out.below b5)
 have E := i' (chain E.out b5)
 clear b5
 go_wp2_with fail
 refine (HF1.out _ E.out).mono ?_
 rintro e x6 ⟨y6, rfl, r6, b6⟩
 have RA := i' (RA.out.below b6)
 have RB := i' (RB.out.below b6)
 have RM := i' (RM.out.below b6)
 have E := i' (chain E.out b6)
 have RX := i' r6
 obtain ⟨RXa, RXc, hRX⟩ := HO1.out _ _ r6
 subst hRX
 clear r6
 clear b6
 go_wp2_with fail
 refine (HF2.out _ E.out).mono ?_
 rintro e x7 ⟨y7, rfl, r7, b7⟩
 have RA := i' (RA.out.below b7)
 have RB := i' (RB.out.below b7)
 have RM := i' (RM.out.below b7)
 have RX := i' (RX.out.below b7)
 have E := i' (chain E.out b7)
 have RY := i' r7
 obtain ⟨RYa, RYc, hRY⟩ := HO2.out _ _ r7
 subst hRY
 clear r7
 clear b7
 go_wp2_with fail
 refine (HRM.out _ _ _ RX.out RY.out).mono ?_
 rintro e x8 ⟨y8, rfl, r8, b8⟩
 have RA := i' (RA.out.below b8)
 have RB := i' (RB.out.below b8)
 have RM := i' (RM.out.below b8)
 have RX := i' (RX.out.below b8)
 have RY := i' (RY.out.below b8)
 have E := i' (chain E.out b8)
 have ZM := i' r8
 clear r8
 clear b8
 go_wp2_with fail
 refine (EM.out _ _ _ RM.out ZM.out).mono ?_
 rintro e x9 ⟨rfl, b9⟩
 have RA := i' (RA.out.below b9)
 have RB := i' (RB.out.below b9)
 have RM := i' (RM.out.below b9)
 have RX := i' (RX.out.below b9)
 have RY := i' (RY.out.below b9)
 have ZM := i' (ZM.out.below b9)
 have E := i' (chain E.out b9)
 clear b9
 go_wp2_with fail
 refine (HRA.out _ _ _ RX.out RY.out).mono ?_
 rintro e x10 ⟨y10, rfl, r10, b10⟩
 have RA := i' (RA.out.below b10)
 have RB := i' (RB.out.below b10)
 have RM := i' (RM.out.below b10)
 have RX := i' (RX.out.below b10)
 have RY := i' (RY.out.below b10)
 have ZM := i' (ZM.out.below b10)
 have E := i' (chain E.out b10)
 have ZA := i' r10
 clear r10
 clear b10
 go_wp2_with fail
 refine (EA.out _ _ _ RA.out ZA.out).mono ?_
 rintro e x11 ⟨rfl, b11⟩
 have RA := i' (RA.out.below b11)
 have RB := i' (RB.out.below b11)
 have RM := i' (RM.out.below b11)
 have RX := i' (RX.out.below b11)
 have RY := i' (RY.out.below b11)
 have ZM := i' (ZM.out.below b11)
 have ZA := i' (ZA.out.below b11)
 have E := i' (chain E.out b11)
 clear b11
 go_wp2_with fail
 refine (HRB.out _ _ _ RX.out RY.out).mono ?_
 rintro e x12 ⟨y12, rfl, r12, b12⟩
 have RA := i' (RA.out.below b12)
 have RB := i' (RB.out.below b12)
 have RM := i' (RM.out.below b12)
 have RX := i' (RX.out.below b12)
 have RY := i' (RY.out.below b12)
 have ZM := i' (ZM.out.below b12)
 have ZA := i' (ZA.out.below b12)
 have E := i' (chain E.out b12)
 have ZB := i' r12
 clear r12
 clear b12
 go_wp2_with fail
 refine (EB.out _ _ _ RB.out ZB.out).mono ?_
 rintro e x13 ⟨rfl, b13⟩
 have RA := i' (RA.out.below b13)
 have RB := i' (RB.out.below b13)
 have RM := i' (RM.out.below b13)
 have RX := i' (RX.out.below b13)
 have RY := i' (RY.out.below b13)
 have ZM := i' (ZM.out.below b13)
 have ZA := i' (ZA.out.below b13)
 have ZB := i' (ZB.out.below b13)
 have E := i' (chain E.out b13)
 clear b13
 go_wp2_with fail
 refine (HK.out _).mono ?_
 rintro e x14 ⟨rfl, b14⟩
 have RA := i' (RA.out.below b14)
 have RB := i' (RB.out.below b14)
 have RM := i' (RM.out.below b14)
 have RX := i' (RX.out.below b14)
 have RY := i' (RY.out.below b14)
 have ZM := i' (ZM.out.below b14)
 have ZA := i' (ZA.out.below b14)
 have ZB := i' (ZB.out.below b14)
 have E := i' (chain E.out b14)
 clear b14
 go_wp2
 go_ret
 exact ⟨rfl, E.out⟩
theorem k'lx (p q Ta Ts Tm : List Int) (v1 v2 : Value) (w : World) (n m : Nat) (hn : p.length = n) (hm : q.length = m) (h1 : Rp w v1 p) (h2 : Rp w v2 q) (hn0 : 0 < n) (hm0 : 0 < m) (hs : 26 < n + m) (hb : n + m ≤ 60)
 (HS : Calls Tryz.prog 11 #[.slice (some ⟨w.heap.size, 0, none⟩) 2 2] (w.alloc (.cells #[v1, v2] 23)) (BPost true w))
 (HV : ∀ w', Below w.heap.size w w' → Calls Tryz.prog 19 #[.slice (some ⟨w'.heap.size, 0, none⟩) 2 2] (w'.alloc (.cells #[v1, v2] 23)) (BPost true w'))
 (HA : ∀ w', Below w.heap.size w w' → Calls Tryz.prog 25 #[v1, v2] w' (ResP Ta w'))
 (HB : ∀ w', Below w.heap.size w w' → Calls Tryz.prog 26 #[v1, v2] w' (ResP Ts w'))
 (HM : ∀ w', Below w.heap.size w w' → Calls Tryz.prog 27 #[v1, v2] w' (ResE 7 w'))
 (HF1 : ∀ w', Below w.heap.size w w' → Calls Tryz.prog 21 #[v1] w' (RPPost p w'))
 (HF2 : ∀ w', Below w.heap.size w w' → Calls Tryz.prog 21 #[v2] w' (RPPost q w'))
 (HRA : ∀ w' a b, RP w' a p → RP w' b q → Calls Tryz.prog 29 #[a, b] w' (RPPost Ta w'))
 (HRB : ∀ w' a b, RP w' a p → RP w' b q → Calls Tryz.prog 30 #[a, b] w' (RPPost Ts w'))
 (HE : ∀ T, T = Ta ∨ T = Ts ∨ T = Tm → ∀ w' v x, Rp w' v T → RP w' x T → Calls Tryz.prog 24 #[v, .int .i64 0, x] w' (BPost true w')) :
 Calls Tryz.prog 4 #[v1, v2] w (Ret (.bool true) w) := by
 have HK := i' k'l8
 have EA := i' (HE Ta (Or.inl rfl))
 have EB := i' (HE Ts (Or.inr (Or.inl rfl)))
 have EM := i' (HE Tm (Or.inr (Or.inr rfl)))
 have HS := i' HS
 have HV := i' HV
 have HA := i' HA
 have HB := i' HB
 have HM := i' HM
 have HF1 := i' HF1
 have HF2 := i' HF2
 have HRA := i' HRA
 have HRB := i' HRB
 have HO1 : Hid (∀ w' v, RP w' v p → ∃ a c, v = .slice a n c) := fun w' v h => by obtain ⟨a, b, o, c, h, -⟩ := h; exact ⟨a, c, by rw [h, hn]⟩
 have HO2 : Hid (∀ w' v, RP w' v q → ∃ a c, v = .slice a m c) := fun w' v h => by obtain ⟨a, b, o, c, h, -⟩ := h; exact ⟨a, c, by rw [h, hm]⟩
 obtain ⟨p1, a1, o1, c1, rfl, -, -, -, -⟩ := h1.open_
 obtain ⟨p2, a2, o2, c2, rfl, -, -, -, -⟩ := h2.open_
 clear HE h1 h2
 rw [hn, hm] at *
 clear hn hm
 have f1 : (0 : Int) < (n : Int) := by omega
 have f2 : (0 : Int) < (m : Int) := by omega
 obtain ⟨s1, hs1⟩ : ∃ s : Int, s = (n : Int) + (m : Int) := ⟨_, rfl⟩
 obtain ⟨s2, hs2⟩ : ∃ s : Int, s = s1 - 2 := ⟨_, rfl⟩
 have k1 : IntKind.i64.wrap ((n : Int) + (m : Int)) = s1 := by rw [← hs1]; exact IntWalk.i64_in _ (by omega)
 have k2 : IntKind.i64.wrap (s1 - 2) = s2 := by rw [← hs2]; exact IntWalk.i64_in _ (by omega)
 have f3 : (24 : Int) < s2 := by omega
 clear hn0 hm0 hs hs1 hs2 hb
 unfold BPost at HS HV EA EB EM
 unfold ResP ResE at *
 unfold RPPost at *
 unfold Ret at *
 go_enter Tryz.func4, Tryz.ntmps4
 go_wp2_with fail
 refine (HS.out).mono ?_
 rintro e x1 ⟨rfl, b1⟩
 have E := i' b1
 clear b1
 go_wp2_with fail
 refine (HA.out _ E.out).mono ?_
 rintro e x2 ⟨y2, rfl, r2, b2⟩
 have E := i' (chain E.out b2)
 have RA := i' r2
 clear r2
 clear b2
 go_wp2_with fail
 refine (HB.out _ E.out).mono ?_
 rintro e x3 ⟨y3, rfl, r3, b3⟩
 have RA := i' (RA.out.below b3)
 have E := i' (chain E.out b3)
 have RB := i' r3
 clear r3
 clear b3
 go_wp2_with fail
 refine (HM.out _ E.out).mono ?_
 rintro e x4 ⟨rfl, b4⟩
 have RA := i' (RA.out.below b4)
 have RB := i' (RB.out.below b4)
 have E := i' (chain E.out b4)
 clear b4
 go_wp2_with fail
 refine (HV.out _ E.out).mono ?_
 rintro e x5 ⟨rfl, b5⟩
 have RA := i' (RA.out.below b5)
 have RB := i' (RB.out.below b5)
 have E := i' (chain E.out b5)
 clear b5
 go_wp2_with fail
 refine (HF1.out _ E.out).mono ?_
 rintro e x6 ⟨y6, rfl, r6, b6⟩
 have RA := i' (RA.out.below b6)
 have RB := i' (RB.out.below b6)
 have E := i' (chain E.out b6)
 have RX := i' r6
 obtain ⟨RXa, RXc, hRX⟩ := HO1.out _ _ r6
 subst hRX
 clear r6
 clear b6
 go_wp2_with fail
 refine (HF2.out _ E.out).mono ?_
 rintro e x7 ⟨y7, rfl, r7, b7⟩
 have RA := i' (RA.out.below b7)
 have RB := i' (RB.out.below b7)
 have RX := i' (RX.out.below b7)
 have E := i' (chain E.out b7)
 have RY := i' r7
 obtain ⟨RYa, RYc, hRY⟩ := HO2.out _ _ r7
 subst hRY
 clear r7
 clear b7
 go_wp2_with fail
 refine (HRA.out _ _ _ RX.out RY.out).mono ?_
 rintro e x8 ⟨y8, rfl, r8, b8⟩
 have RA := i' (RA.out.below b8)
 have RB := i' (RB.out.below b8)
 have RX := i' (RX.out.below b8)
 have RY := i' (RY.out.below b8)
 have E := i' (chain E.out b8)
 have ZA := i' r8
 clear r8
 clear b8
 go_wp2_with fail
 refine (EA.out _ _ _ RA.out ZA.out).mono ?_
 rintro e x9 ⟨rfl, b9⟩
 have RA := i' (RA.out.below b9)
 have RB := i' (RB.out.below b9)
 have RX := i' (RX.out.below b9)
 have RY := i' (RY.out.below b9)
 have ZA := i' (ZA.out.below b9)
 have E := i' (chain E.out b9)
 clear b9
 go_wp2_with fail
 refine (HRB.out _ _ _ RX.out RY.out).mono ?_
 rintro e x10 ⟨y10, rfl, r10, b10⟩
 have RA := i' (RA.out.below b10)
 have RB := i' (RB.out.below b10)
 have RX := i' (RX.out.below b10)
 have RY := i' (RY.out.below b10)
 have ZA := i' (ZA.out.below b10)
 have E := i' (chain E.out b10)
 have ZB := i' r10
 clear r10
 clear b10
 go_wp2_with fail
 refine (EB.out _ _ _ RB.out ZB.out).mono ?_
 rintro e x11 ⟨rfl, b11⟩
 have RA := i' (RA.out.below b11)
 have RB := i' (RB.out.below b11)
 have RX := i' (RX.out.below b11)
 have RY := i' (RY.out.below b11)
 have ZA := i' (ZA.out.below b11)
 have ZB := i' (ZB.out.below b11)
 have E := i' (chain E.out b11)
 clear b11
 go_wp2_with fail
 refine (HK.out _).mono ?_
 rintro e x12 ⟨rfl, b12⟩
 have RA := i' (RA.out.below b12)
 have RB := i' (RB.out.below b12)
 have RX := i' (RX.out.below b12)
 have RY := i' (RY.out.below b12)
 have ZA := i' (ZA.out.below b12)
 have ZB := i' (ZB.out.below b12)
 have E := i' (chain E.out b12)
 clear b12
 go_wp2
 go_ret
 exact ⟨rfl, E.out⟩
theorem mul_nil (p : List Int) : Pl.trim (Pl.mul p []) = [] := by
 have key : ∀ (p : List Int) k, Pl.cf (Pl.mul p []) k = 0 := by
  intro p
  induction p with
  | nil => intro k; exact Pl.cf_nil k
  | cons a p ih =>
   intro k
   rw [Pl.mul, Pl.cf_add, Pl.cf_scl, Pl.cf_nil]
   cases k with
   | zero => rw [Pl.cf_cons_zero]; omega
   | succ k => rw [Pl.cf_cons_succ, ih]; omega
 exact Pl.nrm_ext (Pl.nrm_trim _) Pl.nrm_nil fun k => by rw [Pl.cf_trim, key, Pl.cf_nil]
theorem k'ly {n : Nat} {p q : List Int} (h1 : Sz n p) (h2 : Sz n q) : Sz (n + 1) (Pl.add p q) := by
 have := h1.add h2
 rwa [Nat.max_self] at this
theorem k'lz {n : Nat} {p q : List Int} (h1 : Sz n p) (h2 : Sz n q) : Sz (n + 1) (Pl.sub p q) := (k'ly h1 h2.neg).trim
theorem k'm0 {z : Int} {n : Nat} (h : z.natAbs < D9 ^ n) (hn : n ≤ 2000) : z.natAbs < Top := (k'i3 h rfl).top (by omega)
theorem k'm1 {p q : List Int} {v1 v2 : Value} {w : World} (h1 : Rp w v1 p) (h2 : Rp w v2 q) (hp : VP p) (hq : VP q) {n : Nat} (hn : n ≤ 1000) (s1 : Sz n p) (s2 : Sz n q) : Calls Tryz.prog 25 #[v1, v2] w (ResP (Pl.trim (Pl.add p q)) w) := by
 refine (k'ga p q v1 v2 w h1 h2 hp hq).mono ?_
 rintro e w' (⟨-, h⟩ | ⟨⟨k, hk⟩, -⟩)
 ·rwa [k'i7] at h
 ·refine absurd ?_ hk
  rw [← Pl.cf_add]
  exact k'm0 (k'ly s1 s2 k) (by omega)
theorem k'm2 {p q : List Int} {v1 v2 : Value} {w : World} (h1 : Rp w v1 p) (h2 : Rp w v2 q) (hp : VP p) (hq : VP q) {n : Nat} (hn : n ≤ 1000) (s1 : Sz n p) (s2 : Sz n q) : Calls Tryz.prog 26 #[v1, v2] w (ResP (Pl.sub p q) w) := by
 refine (k'ge p q v1 v2 w h1 h2 hp hq).mono ?_
 rintro e w' (⟨-, h⟩ | ⟨⟨k, hk⟩, -⟩)
 ·rwa [k'i8] at h
 ·refine absurd ?_ hk
  rw [← Pl.cf_sub]
  exact k'm0 (k'lz s1 s2 k) (by omega)
theorem k'm3 (p q : List Int) (v1 v2 : Value) (w : World) (h1 : Rp w v1 p) (h2 : Rp w v2 q) (hp : VP p) (hq : VP q) (g1 : shP (zl p) = true) (g2 : shP (zl q) = true) (z1 : Lim (zl p)) (z2 : Lim (zl q)) :
 Calls Tryz.prog 4 #[v1, v2] w (Ret (.bool true) w) := by
 have s1 := k'i5 g1
 have s2 := k'i5 g2
 obtain ⟨N, hN⟩ : ∃ N : Nat, N = 16 := ⟨_, rfl⟩
 rw [← hN] at s1 s2
 have l1 := k'dw g1 hp.len
 have l2 := k'dw g2 hq.len
 have HS := k'l9 h1 h2 z1 z2 true (by rw [g1, g2]; rfl)
 have HV := fun w' (hb : Below w.heap.size w w') => k'la (h1.below hb) (h2.below hb) (k'd7 hp.top) (k'd7 hq.top) true (by rw [hp.ok, hq.ok]; rfl)
 have HA := fun w' (hb : Below w.heap.size w w') => k'm1 (h1.below hb) (h2.below hb) hp hq (n := N) (by omega) s1 s2
 have HB := fun w' (hb : Below w.heap.size w w') => k'm2 (h1.below hb) (h2.below hb) hp hq (n := N) (by omega) s1 s2
 have HF1 := fun w' (hb : Below w.heap.size w w') => k'dk p v1 w' (h1.below hb) (by omega) hp.top
 have HF2 := fun w' (hb : Below w.heap.size w w') => k'dk q v2 w' (h2.below hb) (by omega) hq.top
 have HRA := fun w' a b (ha : RP w' a p) (hb : RP w' b q) => k'hv N (by omega) p q a b w' ha hb (by omega) (by omega) s1 s2
 have HRB := fun w' a b (ha : RP w' a p) (hb : RP w' b q) => k'hy N (by omega) p q a b w' ha hb (by omega) (by omega) s1 s2
 have HRM := fun w' a b (ha : RP w' a p) (hb : RP w' b q) => k'i2 N N (by omega) p q a b w' ha hb (by omega) (by omega) s1 s2
 have la : (Pl.trim (Pl.add p q)).length ≤ 25 := Nat.le_trans (Pl.trim_length _) (by rw [Pl.add_length]; omega)
 have lb : (Pl.sub p q).length ≤ 25 := Nat.le_trans (Pl.trim_length _) (by rw [Pl.add_length, Pl.scl_length]; omega)
 have HE : ∀ T, T = Pl.trim (Pl.add p q) ∨ T = Pl.sub p q ∨ T = [] → ∀ w' v x, Rp w' v T → RP w' x T → Calls Tryz.prog 24 #[v, .int .i64 0, x] w' (BPost true w') := by
  rintro T (rfl | rfl | rfl) w' v x hv hx
  ·exact k'jj _ v x w' hv hx la ((k'ly s1 s2).trim.top (by omega)) ((k'ly s1 s2).trim.len9 (by omega))
  ·exact k'jj _ v x w' hv hx lb ((k'lz s1 s2).top (by omega)) ((k'lz s1 s2).len9 (by omega))
  ·exact k'jj _ v x w' hv hx (by simp) (fun a ha => nomatch ha) (fun a ha => nomatch ha)
 by_cases hp0 : p = []
 ·refine k'lu p q _ _ [] v1 v2 w p.length q.length rfl rfl h1 h2 (by rw [hp0]; rfl) HS HV HA HB (fun w' hb => k'gy p q v1 v2 w' (h1.below hb) (h2.below hb) hp hq (Or.inl hp0)) HF1 HF2 HRA HRB (fun w' a b ha hb => ?_) HE
  have h := HRM w' a b ha hb
  rwa [show Pl.trim (Pl.mul p q) = [] by rw [hp0]; rfl] at h
 ·by_cases hq0 : q = []
  ·refine k'lv p q _ _ [] v1 v2 w p.length q.length rfl rfl h1 h2 (List.length_pos_iff.2 hp0) (by rw [hq0]; rfl) HS HV HA HB (fun w' hb => k'gy p q v1 v2 w' (h1.below hb) (h2.below hb) hp hq (Or.inr hq0)) HF1 HF2 HRA HRB (fun w' a b ha hb => ?_) HE
   have h := HRM w' a b ha hb
   rwa [show Pl.trim (Pl.mul p q) = [] by rw [hq0]; exact mul_nil p] at h
  ·have n1 := List.length_pos_iff.2 hp0
   have n2 := List.length_pos_iff.2 hq0
   have em : Pl.trim (Pl.mul p q) = Pl.mul p q := Pl.trim_nrm (k'ia hp.nrm hq.nrm hp0 hq0)
   by_cases hl : p.length + q.length ≤ 26
   ·have lm : (Pl.mul p q).length ≤ 25 := by rw [Pl.mul_length p q hp0 hq0]; omega
    have sm := s1.mul s2 (by omega)
    refine k'lw p q _ _ (Pl.mul p q) v1 v2 w p.length q.length rfl rfl h1 h2 n1 n2 hl HS HV HA HB (fun w' hb => k'gz p q v1 v2 w' (h1.below hb) (h2.below hb) hp hq (k'ie g1 g2 hp hq hl) hp0 hq0) HF1 HF2 HRA HRB (fun w' a b ha hb => ?_) ?_
    ·have h := HRM w' a b ha hb
     rwa [em] at h
    ·rintro T (h | h | rfl)
     ·exact HE T (Or.inl h)
     ·exact HE T (Or.inr (Or.inl h))
     ·exact fun w' v x hv hx => k'jj _ v x w' hv hx lm (sm.top (by omega)) (sm.len9 (by omega))
   ·refine k'lx p q _ _ [] v1 v2 w p.length q.length rfl rfl h1 h2 n1 n2 (by omega) (by omega) HS HV HA HB (fun w' hb => k'gv (zl p) (zl q) v1 v2 7 w' (h1.below hb) (h2.below hb) (k'd7 hp.top) (k'd7 hq.top) (k'if hp hq hp0 hq0 (by omega)) (by decide)) HF1 HF2 HRA HRB HE
theorem k'm4 (L1 L2 : List (Bool × ByteArray)) (v1 v2 : Value) (w : World) (h1 : Rw w v1 L1) (h2 : Rw w v2 L2) (z1 : Lim L1) (z2 : Lim L2) :
 Calls Tryz.prog 4 #[v1, v2] w (Ret (.bool true) w) := by
 cases hs : (shP L1 && shP L2) with
 | false => exact k'lb L1 L2 v1 v2 w h1 h2 z1 z2 hs
 | true =>
  cases hv : (vldP L1 && vldP L2) with
  | false => exact k'lc L1 L2 v1 v2 w h1 h2 z1 z2 hs hv
  | true =>
   rw [Bool.and_eq_true] at hs hv
   obtain ⟨p, hp, rfl⟩ := VP.of hv.1
   obtain ⟨q, hq, rfl⟩ := VP.of hv.2
   exact k'm3 p q v1 v2 w h1 h2 hp hq hs.1 hs.2 z1 z2
end Go.Proofs.YtepddegphdlbeaaGreat
namespace Go.Proofs.YtepddegphdlbeaaGreat
open Go.ChangeShapes Go.WideShapes Go.ChangeAt Go.RowKit Go.Joins
open Go.ChangeMaps (open_string shut_string)
theorem k'mc (os : Os) (started : os.Started) (H : Type) (enc : TypeId × Value → H) :
 ReturnsInHanded {} Tryz.checked os 4 .any (Rows.polySumsSpec.pre6 enc Tryz.prog Tryz.f4 Rows.polySumsRow.domain false) (Rows.polySumsSpec.post enc Tryz.prog Tryz.f4 false true false false) := by
 refine returnsInHanded_of_change (C := Tryz.checked) Tryz.own started (by kernel_rfl) Tryz.func4
  (ChangeSpec.witness6 (enc := enc) (C := Tryz.checked) false ⟨#[], #[.slice none 0 0, .slice none 0 0], []⟩ 8 (by kernel_rfl) (by kernel_rfl) (by kernel_rfl) (by kernel_rfl)) ?_
 intro W base args ds gs before hval0 hW hcnd _
 have hval : ∀ (j : Nat) t v, Tryz.f4.params[j]? = some t → args[j]? = some v → Value.okWide Tryz.prog W .any base t v := hval0
 have hW' := hW
 obtain ⟨p, q, hA0, hV, rfl, hfz, hnd⟩ := hW
 have hA : DataW.TrodAll enc Tryz.prog W 0 (fun _ => true) true Tryz.f4.params.toList args.toList ds p := hA0
 rw [Tryz.params4] at hA hval
 obtain ⟨v0, v1, d0, d1, p0, p1, rfl, rfl, rfl, h0, h1⟩ := trodAll_two hA
 obtain ⟨rfl, rfl⟩ := trodVars_none hV
 obtain ⟨L0, r0, z0, t0⟩ := k'm9 (hval 0 23 v0 rfl rfl) h0
 obtain ⟨L1, r1, z1, t1⟩ := k'm9 (hval 1 23 v1 rfl rfl) h1
 clear hA0 hval0
 refine (k'm4 L0 L1 v0 v1 W r0 r1 z0 z1).mono fun e W' ⟨he, bel⟩ => ?_
 subst he
 exact ⟨_, rfl, _, _, _, [], _, [], hW', trodAll_mk1 (shut_bool Tryz.underlying4 _), trodAll_mk2 (t0 W' bel) (t1 W' bel), rfl, bel.frame _, fun h => by cases h⟩
theorem psums_holds : Rows.PolySumsSaid :=
 OpenClaim.holds_of_wide 4 Tryz.f4 rfl rfl rfl rfl rfl rfl rfl ⟨rfl, rfl, rfl, rfl, rfl⟩ rfl rfl rfl rfl rfl (by kernel_rfl) Tryz.func4 (by kernel_rfl)
  (of_decide_eq_true (by kernel_rfl)) (by unfold Func.isWrapper; first | (rw [if_pos (by decide +kernel)]; kernel_rfl) | (rw [if_neg (by decide +kernel)]; exact ⟨rfl, rfl⟩))
  (fun os started H enc _ => k'mc os started H enc)
end Go.Proofs.YtepddegphdlbeaaGreat
