/- PolyValid gives true for all polynomials and lists of ints (P2.1), and leaves its arguments as they were. No condition. -/
import Derived.Test.YtepddegphdlbeaaGreatG9
import Derived.Test.YtepddegphdlbeaaGreatG8
import Derived.Test.YtepddegphdlbeaaGreatG7
import Derived.Test.YtepddegphdlbeaaGreatG6
import Derived.Test.YtepddegphdlbeaaGreatG4
import Derived.Test.YtepddegphdlbeaaGreatG3
import Derived.Test.YtepddegphdlbeaaGreatG2
import Derived.Test.YtepddegphdlbeaaGreatG1
import Derived.Test.YtepddegphdlbeaaGreatG0
import Derived.Test.YtepddegphdlbeaaGreatProg
import Derived.WalkKit
import Derived.WalkSpells
import Derived.WalkLawsBesides
import Derived.Lib.Hide
import Derived.Deep.QuietTactic
import Derived.BigQuiet
import Derived.Shelf.Small.Bits
import Derived.Shelf.Small.Wraps
import Derived.Shelf.Strconv.Itoa0
import Derived.Shelf.Bits.Mul64
import Derived.Ground.Names2Prog
import Derived.Shelf.Slices.SearchI
import Derived.Shelf.Spec.BitsCarry
import Derived.Deep.LoopGhost
import Derived.Deep.RegionHeld3
import Derived.Deep.DeepCutAuto
import Derived.Test.YtepddegphdlbeaaGreatG5
import Derived.Laws.AppendOwnNone
import Derived.Below
import Derived.Test.YtepddegphdlbeaaGreatG11
import Derived.Test.YtepddegphdlbeaaGreatG10
import Derived.RangeFuncNested
import Derived.RangeFuncBound
import Derived.RangeFuncCalls
import Derived.RangeFuncLeaves
import Derived.Shelf.Abstract
import Derived.Shelf.RegionOpen
import Derived.OwnWalkIn
import Derived.TacticsInMore
import Derived.LoopNIn
import Derived.LoopIn
import Derived.OrdersIn
import Derived.Deep.RegionHeld
import Derived.Maps.AppendAt
import Derived.Lib.SliceRun
import Derived.IntWalk
import Derived.Test.YtepddegphdlbeaaGreatG12
import Derived.Laws.StructEq
import Derived.Test.YtepddegphdlbeaaGreatG13
import Derived.Test.YtepddegphdlbeaaGreatG16
import Derived.Test.YtepddegphdlbeaaGreatG15
import Derived.Test.YtepddegphdlbeaaGreatG14
import Derived.ProofKit
import Derived.OpenShut
import Derived.ShutString
import Derived.ChangeOld
import Derived.Lib.SmallJoins
import Derived.Deep.SlicePairs
import Derived.ChangeSlices
import Derived.Carry
import Derived.Test.YtepddegphdlbeaaGreatRows
set_option maxRecDepth 100000
set_option maxHeartbeats 16000000
set_option linter.all false
namespace Go.Proofs.YtepddegphdlbeaaGreat
open Go.RowKit
theorem k'dk (p : List Int) (v : Value) (w : World) (h : Rp w v p) (hl : p.length ≤ 1000) (ht : ∀ a ∈ p, a.natAbs < Top) : Calls Tryz.prog 21 #[v] w (RPPost p w) :=
 (k'dj p v w h hl ht).mono fun _ _ ⟨u, h1, h2, h3⟩ => ⟨u, h1, h2.rp, h3⟩
theorem k'dn (w : World) {v : Value} {L : List (Bool × ByteArray)} (h : Rw w v L) : Rl (w.alloc (.cells #[v] 23)) (.slice (some ⟨w.heap.size, 0, none⟩) 1 1) [L] :=
 ⟨w.heap.size, 0, 1, rfl, fun k hk => by
  obtain rfl : k = 0 := by simp at hk; omega
  exact ⟨v, by simp [go_sem], h.below ((Below.refl _ _).alloc (Nat.le_refl _) _)⟩⟩
theorem k'do (w : World) {v1 v2 : Value} {L1 L2 : List (Bool × ByteArray)} (h1 : Rw w v1 L1) (h2 : Rw w v2 L2) : Rl (w.alloc (.cells #[v1, v2] 23)) (.slice (some ⟨w.heap.size, 0, none⟩) 2 2) [L1, L2] :=
 ⟨w.heap.size, 0, 2, rfl, fun k hk => by
  match k, hk with
  | 0, _ => exact ⟨v1, by simp [go_sem], h1.below ((Below.refl _ _).alloc (Nat.le_refl _) _)⟩
  | 1, _ => exact ⟨v2, by simp [go_sem], h2.below ((Below.refl _ _).alloc (Nat.le_refl _) _)⟩
  | j + 2, h => simp at h; omega⟩
theorem k'gf (L : List (Bool × ByteArray)) (v : Value) (w : World) (h : Rw w v L) (z : Small L) (he : vldP L = false) :
 Calls Tryz.prog 13 #[v] w (Ret (.tuple #[.int .i64 0, .int .i64 2]) w) := by
 have HV := i' (k'd6 L v w h z)
 rw [he] at HV
 clear h z he
 go_enter Tryz.func13, Tryz.ntmps13
 go_wp2_with fail
 refine HV.out.mono ?_
 rintro e w1 ⟨rfl, b1⟩
 have B1 := i' b1
 clear b1
 go_wp2
 go_ret2
 exact ⟨rfl, B1.out⟩
theorem k'gh (L : List (Bool × ByteArray)) (v : Value) (w : World) (h : Rw w v L) (z : Small L) (he : vldP L = false) :
 Calls Tryz.prog 14 #[v] w (Ret (.tuple #[.int .i64 0, .int .i64 2]) w) := by
 have HV := i' (k'd6 L v w h z)
 rw [he] at HV
 clear h z he
 go_enter Tryz.func14, Tryz.ntmps14
 go_wp2_with fail
 refine HV.out.mono ?_
 rintro e w1 ⟨rfl, b1⟩
 have B1 := i' b1
 clear b1
 go_wp2
 go_ret2
 exact ⟨rfl, B1.out⟩
theorem k'ij (p : List Int) (v : Value) (w : World) (h : RP w v p) (ht : ∀ a ∈ p, a.natAbs < Top) (hd : ∀ a ∈ p, (Nm.dg D9 a.natAbs).length ≤ 1000000) : Calls Tryz.prog 20 #[v] w (IPost (glb (zl p)) w) := by
 have hlen := h.len
 obtain ⟨a, b, off, cap, rfl, -, -, h4, h5⟩ := h
 have HF := i' (fun k (hk : k < p.length) u w (h : Rz w u (p[k]'hk)) => k'99 p[k] u w h (hd _ (List.getElem_mem hk)) (Nat.le_trans (k'5t (ht _ (List.getElem_mem hk))) (by decide)))
 have HL := i' (fun k (hk : k < p.length) => show glb ((zl p).take (k + 1)) = max (glb ((zl p).take k)) (lenB (zs p[k])) by
  rw [List.take_succ_eq_append_getElem (by rw [k'cc]; exact hk), k'db, k'cd p k hk]
  simp only
  unfold lenV
  rw [if_pos (k'5s (ht _ (List.getElem_mem hk)))])
 obtain ⟨f, hf⟩ : ∃ f : Nat → Int, f = fun k => glb ((zl p).take k) := ⟨_, rfl⟩
 have HF0 : ∀ k, glb ((zl p).take k) = f k := fun k => by rw [hf]
 have H0 : Hid (f 0 = 0) := by show _ = _; rw [hf]; rfl
 have HE : Hid (f p.length = glb (zl p)) := by show _ = _; rw [hf]; simp only; rw [List.take_of_length_le (by rw [k'cc]; exact Nat.le_refl _)]
 simp only [HF0] at HL
 generalize glb (zl p) = res at *
 have H4 := i' h4
 have H5 := i' h5
 clear h4 h5 ht hd HF0 hf
 obtain ⟨n, hn⟩ : ∃ n, n = p.length := ⟨_, rfl⟩
 rw [← hn] at HE hlen ⊢
 have HN := i' hn
 clear hn
 go_enter Tryz.func20, Tryz.ntmps20
 go_wp2
 go_loopw [3, 4] (fun nv iv wr => ∃ (wz : World) (k : Nat), wz = wr ∧ k ≤ n ∧ nv = .int .i64 (f k) ∧ iv = .int .i64 (k : Int) ∧ Hid (Below w.heap.size w wz))
  (fun _ iv _ => n - (intOf iv).toNat)
 case atStart => exact ⟨w, 0, rfl, Nat.zero_le _, by rw [H0.out], rfl, Below.refl _ _⟩
 case round =>
  obtain ⟨wz, k, rfl, hk, rfl, rfl, hbl⟩ := hrel
  have hk0 : (0 : Int) ≤ (k : Int) := by omega
  by_cases hlt : k < n
  ·have hkp : k < p.length := by have h5 : n = p.length := HN.out; omega
   have hkk : (k : Int) < (n : Int) := by omega
   obtain rfl := H4.out (by intro e; rw [e] at hkp; exact absurd hkp (Nat.not_lt_zero _))
   obtain ⟨u, g0, g1, g2⟩ := H5.out k hkp
   have HFk := i' (fun w' (hb : Below w.heap.size w w') => HF.out k hkp u w' (g2.below hb))
   have HLk := i' (HL.out k hkp)
   have c0 := keep1 hbl.out g0
   have c1 := keep1 hbl.out g1
   have G0 := i' (And.intro g0 g1)
   obtain ⟨pu, bu, ou, cu, rfl, -⟩ := g2
   unfold iV at HFk
   generalize (Nm.dg D9 (p[k]).natAbs).length = lu at *
   generalize p[k] = z at *
   generalize lenB (zs z) = t at *
   generalize f k = m at *
   clear hkp g0 g1
   by_cases hgt : m < t
   ·have HM : Hid (f (k + 1) = t) := by show _ = _; rw [HLk.out]; omega
    go_wp2_with fail
    refine (HFk.out _ hbl.out).mono ?_
    rintro e w5 ⟨rfl, b5⟩
    have HB5 := i' (chain hbl.out b5)
    clear b5 c0 c1
    have c0 := keep1 HB5.out G0.out.1
    have c1 := keep1 HB5.out G0.out.2
    go_wp2_with fail
    refine (HFk.out _ HB5.out).mono ?_
    rintro e w6 ⟨rfl, b6⟩
    have HB6 := i' (chain HB5.out b6)
    clear b6 c0 c1
    go_wp2
    go_roundw
    case rel => exact ⟨_, k + 1, rfl, by omega, by rw [HM.out], by go_num, HB6.out⟩
    case measure => simp [intOf]; omega
   ·have HM : Hid (f (k + 1) = m) := by show _ = _; rw [HLk.out]; omega
    go_wp2_with fail
    refine (HFk.out _ hbl.out).mono ?_
    rintro e w5 ⟨rfl, b5⟩
    have HB5 := i' (chain hbl.out b5)
    clear b5 c0 c1
    go_wp2
    go_roundw
    case rel => exact ⟨_, k + 1, rfl, by omega, by rw [HM.out], by go_num, HB5.out⟩
    case measure => simp [intOf]; omega
  ·obtain rfl : k = n := by omega
   rw [HE.out]
   go_wp2
   go_ret
   exact ⟨rfl, hbl.out⟩
theorem k'im (p : List Int) (v : Value) (w : World) (h : RP w v p) (hl : p.length ≤ 25) (ht : ∀ a ∈ p, a.natAbs < Top) (hd : ∀ a ∈ p, (Nm.dg D9 a.natAbs).length ≤ 1000000) :
 Calls Tryz.prog 76 #[v] w (ResP p w) := by
 have HB := i' (k'ij p v w h ht hd)
 have HT := i' (fun w' (hb : Below w.heap.size w w') => k'ih p v w' (h.below hb) (by omega) hd)
 have hb1 := k'fb (zl p)
 obtain ⟨a, b, off, cap, rfl, -, -, -, -⟩ := h
 generalize glb (zl p) = g at *
 generalize hn : p.length = n at *
 have hn0 : (n : Int) ≤ 25 := by omega
 have hg1 : g ≤ 65536 := hb1.2
 clear hn ht hd hb1
 go_enter Tryz.func76, Tryz.ntmps76
 go_wp2_with fail
 refine HB.out.mono ?_
 rintro e w5 ⟨rfl, b5⟩
 have HB5 := i' b5
 clear b5
 go_wp2_with fail
 refine (HT.out _ HB5.out).mono ?_
 rintro e w6 ⟨v6, rfl, r6, b6⟩
 have HB6 := i' (chain HB5.out b6)
 have HR6 := i' r6
 clear b6 r6
 go_wp2
 go_ret2
 exact ⟨_, rfl, HR6.out, HB6.out⟩
theorem k'io (L1 L2 : List (Bool × ByteArray)) (v1 v2 : Value) (w : World) (h1 : Rw w v1 L1) (h2 : Rw w v2 L2) :
 Calls Tryz.prog 71 #[v1, v2] w (BPost (decide (L1 = L2)) w) := by
 have hl1 := h1.len
 have hl2 := h2.len
 obtain ⟨p1, b1, o1, c1, rfl, -, -, h14, h15⟩ := h1
 obtain ⟨p2, b2, o2, c2, rfl, -, -, h24, h25⟩ := h2
 obtain ⟨r, hr⟩ : ∃ r, r = decide (L1 = L2) := ⟨_, rfl⟩
 rw [← hr]
 have HNe : Hid (∀ k (hk1 : k < L1.length) (hk2 : k < L2.length), L1[k] ≠ L2[k] → r = false) := by
  intro k hk1 hk2 hne
  rw [hr, decide_eq_false_iff_not]
  intro e
  subst e
  exact hne rfl
 have HEq : Hid (L1.length = L2.length → (∀ k (hk1 : k < L1.length) (hk2 : k < L2.length), L1[k] = L2[k]) → r = true) := by
  intro hl h
  rw [hr, decide_eq_true_eq]
  exact List.ext_getElem hl fun k a b => h k a b
 have HLn : Hid (L1.length ≠ L2.length → r = false) := by
  intro hl
  rw [hr, decide_eq_false_iff_not]
  intro e
  exact hl (by rw [e])
 have H14 := i' h14
 have H24 := i' h24
 have H15 := i' h15
 have H25 := i' h25
 clear hr h14 h24 h15 h25
 obtain ⟨n1, hn1⟩ : ∃ n, n = L1.length := ⟨_, rfl⟩
 obtain ⟨n2, hn2⟩ : ∃ n, n = L2.length := ⟨_, rfl⟩
 rw [← hn1, ← hn2] at HLn ⊢
 rw [← hn1] at hl1
 rw [← hn2] at hl2
 have HN1 := i' hn1
 have HN2 := i' hn2
 clear hn1 hn2
 by_cases hne : n1 = n2
 ·subst hne
  have HEq := i' (HEq.out (HN1.out.symm.trans HN2.out))
  clear HLn
  go_enter Tryz.func71, Tryz.ntmps71
  go_wp2
  go_loopw [5, 13] (fun _ iv wr => ∃ (wz : World) (k : Nat), wz = wr ∧ k ≤ n1 ∧ iv = .int .i64 (k : Int) ∧ Hid (∀ j (h1 : j < L1.length) (h2 : j < L2.length), j < k → L1[j] = L2[j]) ∧ Hid (Below w.heap.size w wz))
   (fun _ iv _ => n1 - (intOf iv).toNat)
  case atStart => exact ⟨w, 0, rfl, Nat.zero_le _, rfl, fun j _ _ hj => absurd hj (Nat.not_lt_zero _), Below.refl _ _⟩
  case round =>
   obtain ⟨wz, k, rfl, hk, rfl, hall, hbl⟩ := hrel
   by_cases hlt : k < n1
   ·have hk1 : k < L1.length := by have h5 : n1 = L1.length := HN1.out; omega
    have hk2 : k < L2.length := by have h5 : n1 = L2.length := HN2.out; omega
    obtain ⟨a, s, hL1⟩ : ∃ a s, L1[k] = (a, s) := ⟨_, _, rfl⟩
    obtain ⟨b, t, hL2⟩ : ∃ b t, L2[k] = (b, t) := ⟨_, _, rfl⟩
    obtain rfl := H14.out (by intro e; rw [e] at hk1; exact absurd hk1 (Nat.not_lt_zero _))
    obtain rfl := H24.out (by intro e; rw [e] at hk2; exact absurd hk2 (Nat.not_lt_zero _))
    have c0 := keep1 hbl.out (H15.out k hk1).1
    have c1 := keep1 hbl.out (H15.out k hk1).2
    have d0 := keep1 hbl.out (H25.out k hk2).1
    have d1 := keep1 hbl.out (H25.out k hk2).2
    rw [hL1] at c0 c1
    rw [hL2] at d0 d1
    simp only at c0 c1 d0 d1
    have HF : Hid (¬ (a = b ∧ s = t) → r = false) := fun h => HNe.out k hk1 hk2 (by rw [hL1, hL2]; intro e; injection e with e1 e2; exact h ⟨e1, e2⟩)
    have HR : Hid (a = b ∧ s = t → ∀ j (h1 : j < L1.length) (h2 : j < L2.length), j < k + 1 → L1[j] = L2[j]) := by
     rintro ⟨rfl, rfl⟩ j h1 h2 hj
     rcases Nat.lt_or_ge j k with g | g
     ·exact hall.out j h1 h2 g
     ·obtain rfl : j = k := by omega
      rw [hL1, hL2]
    have hkk : (k : Int) < (n1 : Int) := by omega
    have hk0 : (0 : Int) ≤ (k : Int) := by omega
    clear hL1 hL2 hall hk1 hk2
    by_cases hab : (a == b && s.toList == t.toList) = true
    ·have qN : ∀ w, (binOp .neq 44 (.agg #[.bool a, .string s]) (.agg #[.bool b, .string t])).run Tryz.prog w = .ok (.bool false) w := fun w => by rw [k'in, hab]; rfl
     have HR2 : Hid (∀ j (h1 : j < L1.length) (h2 : j < L2.length), j < k + 1 → L1[j] = L2[j]) := HR.out (by
      rw [Bool.and_eq_true, beq_iff_eq, beq_iff_eq] at hab
      have h6 : s.data.toList = t.data.toList := by rw [← ByteArray.toList_eq, ← ByteArray.toList_eq]; exact hab.2
      exact ⟨hab.1, ByteArray.ext (Array.ext' h6)⟩)
     clear hab HR HF
     go_upto_region 6 with (fail)
     go_quiet (fail)
     go_wp2
     go_roundw
     case rel => exact ⟨_, k + 1, rfl, by omega, by go_num, HR2.out, k'2f hbl.out _⟩
     case measure => simp [intOf]; omega
    ·have qN : ∀ w, (binOp .neq 44 (.agg #[.bool a, .string s]) (.agg #[.bool b, .string t])).run Tryz.prog w = .ok (.bool true) w := fun w => by rw [k'in, Bool.not_eq_true _ |>.mp hab]; rfl
     have HF2 : Hid (r = false) := HF.out (by
      rintro ⟨rfl, rfl⟩
      exact hab (by simp))
     clear hab HR HF
     go_upto_region 6 with (fail)
     go_quiet (fail)
     go_wp2
     go_ret
     exact ⟨by rw [HF2.out]; rfl, k'2f hbl.out _⟩
   ·have HT : Hid (r = true) := HEq.out (fun j h1 h2 => hall.out j h1 h2 (by have h5 : n1 = L1.length := HN1.out; omega))
    obtain rfl : k = n1 := by omega
    clear hall
    go_wp2
    go_ret
    exact ⟨by rw [HT.out]; rfl, hbl.out⟩
 ·have HF := i' (HLn.out hne)
  have hne2 : ((n1 : Int) == (n2 : Int)) = false := by simp; omega
  clear HLn
  go_enter Tryz.func71, Tryz.ntmps71
  go_wp2
  go_ret
  exact ⟨by rw [HF.out]; rfl, Below.refl _ _⟩
theorem k'ip (L1 L2 : List (Bool × ByteArray)) (v1 v2 : Value) (w : World) (h1 : Rw w v1 L1) (h2 : Rw w v2 L2) :
 Calls Tryz.prog 17 #[v1, v2] w (BPost (decide (L1 = L2)) w) := by
 have HS := i' (k'io L1 L2 v1 v2 w h1 h2)
 clear h1 h2
 generalize decide (L1 = L2) = r at *
 go_enter Tryz.func17, Tryz.ntmps17
 go_wp2_with fail
 refine HS.out.mono ?_
 rintro e w1 ⟨rfl, b1⟩
 have B1 := i' b1
 clear b1
 go_wp2
 go_ret
 exact ⟨rfl, B1.out⟩
theorem k'jj (p : List Int) (v vx : Value) (w : World) (hv : Rp w v p) (h : RP w vx p) (hl : p.length ≤ 25) (ht : ∀ a ∈ p, a.natAbs < Top) (hd : ∀ a ∈ p, (Nm.dg D9 a.natAbs).length ≤ 1000000) : Calls Tryz.prog 24 #[v, .int .i64 0, vx] w (BPost true w) := by
 have HO := i' (k'im p vx w h hl ht hd)
 have HS := i' (fun v2 w' (hb : Below w.heap.size w w') (h2 : Rp w' v2 p) => k'iq (zl p) (zl p) v v2 w' (hv.below hb) h2)
 rw [k'jh] at HS
 obtain ⟨a, b, off, cap, rfl, -, -, -, -⟩ := h
 obtain ⟨a1, b1, o1, c1, rfl, -, -, -, -⟩ := hv.open_
 generalize hTl : p.length = tl at *
 clear ht hd hv hTl
 go_enter Tryz.func24, Tryz.ntmps24
 go_wp2_with fail
 refine HO.out.mono ?_
 rintro e w1 ⟨v1, rfl, r1, b1⟩
 have R1 := i' r1
 have B1 := i' b1
 clear r1 b1
 go_wp2_with fail
 refine (HS.out _ _ B1.out R1.out).mono ?_
 rintro e w2 ⟨rfl, b2⟩
 have B2 := i' (chain B1.out b2)
 clear b2
 go_wp2
 go_ret
 exact ⟨rfl, B2.out⟩
theorem k'l9 {L1 L2 : List (Bool × ByteArray)} {v1 v2 : Value} {w : World} (h1 : Rw w v1 L1) (h2 : Rw w v2 L2) (z1 : Lim L1) (z2 : Lim L2) (r : Bool) (hr : (shP L1 && shP L2) = r) :
 Calls Tryz.prog 11 #[.slice (some ⟨w.heap.size, 0, none⟩) 2 2] (w.alloc (.cells #[v1, v2] 23)) (BPost r w) := by
 have h := k'ds [L1, L2] _ _ (k'do w h1 h2) (by intro L hL; simp at hL; rcases hL with rfl | rfl <;> assumption) (by simp)
 have e : [L1, L2].all shP = r := by rw [← hr]; simp
 rw [e] at h
 exact h.mono fun e w' ⟨h1, h2⟩ => ⟨h1, chain (k'56 _ _) h2⟩
theorem k'lg {L : List (Bool × ByteArray)} {v : Value} {w : World} (h : Rw w v L) (z : Small L) (r : Bool) (hr : vldP L = r) :
 Calls Tryz.prog 19 #[.slice (some ⟨w.heap.size, 0, none⟩) 1 1] (w.alloc (.cells #[v] 23)) (BPost r w) := by
 have h := k'dr [L] _ _ (k'dn w h) (by intro L' hL; simp at hL; subst hL; exact z) (by simp)
 have e : [L].all vldP = r := by rw [← hr]; simp
 rw [e] at h
 exact h.mono fun e w' ⟨h1, h2⟩ => ⟨h1, chain (k'56 _ _) h2⟩
theorem k'lk (L1 L2 : List (Bool × ByteArray)) (L3 : List Int) (v1 v2 v3 : Value) (w : World) (h1 : Rw w v1 L1) (h2 : Rw w v2 L2) (h3 : Rn w v3 L3)
 (HS : ∀ w', Below w.heap.size w w' → Calls Tryz.prog 11 #[.slice (some ⟨w'.heap.size, 0, none⟩) 2 2] (w'.alloc (.cells #[v1, v2] 23)) (BPost false w')) :
 Calls Tryz.prog 3 #[v1, v2, v3] w (Ret (.bool true) w) := by
 have HK := i' k'l8
 have E : Hid (Below w.heap.size w w) := Below.refl _ _
 have HS := i' HS
 obtain ⟨p1, a1, o1, c1, rfl, -, -, -, -⟩ := h1
 obtain ⟨p2, a2, o2, c2, rfl, -, -, -, -⟩ := h2
 obtain ⟨p3, a3, o3, c3, rfl, -, -⟩ := h3
 generalize L1.length = n1 at *
 generalize L2.length = n2 at *
 generalize L3.length = n3 at *
 unfold BPost at *
 unfold Ret at *
 go_enter Tryz.func3, Tryz.ntmps3
 go_wp2_with fail
 refine (HS.out _ E.out).mono ?_
 rintro e x1 ⟨rfl, b1⟩
 have E := i' (chain E.out b1)
 clear b1
 go_wp2_with fail
 refine (HK.out _).mono ?_
 rintro e x2 ⟨rfl, b2⟩
 have E := i' (chain E.out b2)
 clear b2
 go_wp2
 go_ret
 exact ⟨rfl, E.out⟩
theorem k'll (L1 L2 : List (Bool × ByteArray)) (L3 : List Int) (v1 v2 v3 : Value) (w : World) (h1 : Rw w v1 L1) (h2 : Rw w v2 L2) (h3 : Rn w v3 L3) (h40 : 40 < L3.length)
 (HS : ∀ w', Below w.heap.size w w' → Calls Tryz.prog 11 #[.slice (some ⟨w'.heap.size, 0, none⟩) 2 2] (w'.alloc (.cells #[v1, v2] 23)) (BPost true w')) :
 Calls Tryz.prog 3 #[v1, v2, v3] w (Ret (.bool true) w) := by
 have HK := i' k'l8
 have E : Hid (Below w.heap.size w w) := Below.refl _ _
 have HS := i' HS
 have f1 : (40 : Int) < (L3.length : Int) := by omega
 obtain ⟨p1, a1, o1, c1, rfl, -, -, -, -⟩ := h1
 obtain ⟨p2, a2, o2, c2, rfl, -, -, -, -⟩ := h2
 obtain ⟨p3, a3, o3, c3, rfl, -, -⟩ := h3
 generalize L1.length = n1 at *
 generalize L2.length = n2 at *
 generalize L3.length = n3 at *
 clear h40
 unfold BPost at *
 unfold Ret at *
 go_enter Tryz.func3, Tryz.ntmps3
 go_wp2_with fail
 refine (HS.out _ E.out).mono ?_
 rintro e x1 ⟨rfl, b1⟩
 have E := i' (chain E.out b1)
 clear b1
 go_wp2_with fail
 refine (HK.out _).mono ?_
 rintro e x2 ⟨rfl, b2⟩
 have E := i' (chain E.out b2)
 clear b2
 go_wp2
 go_ret
 exact ⟨rfl, E.out⟩
theorem k'lm (L1 L2 : List (Bool × ByteArray)) (L3 : List Int) (v1 v2 v3 : Value) (w : World) (h1 : Rw w v1 L1) (h2 : Rw w v2 L2) (h3 : Rn w v3 L3) (h40 : L3.length ≤ 40) (T : List Int) (ht : T.length ≤ 25)
 (HS : ∀ w', Below w.heap.size w w' → Calls Tryz.prog 11 #[.slice (some ⟨w'.heap.size, 0, none⟩) 2 2] (w'.alloc (.cells #[v1, v2] 23)) (BPost true w'))
 (HD : ∀ w', Below w.heap.size w w' → Calls Tryz.prog 13 #[v1] w' (Ret (.tuple #[.int .i64 0, .int .i64 2]) w'))
 (HB : ∀ w', Below w.heap.size w w' → Calls Tryz.prog 14 #[v1] w' (Ret (.tuple #[.int .i64 0, .int .i64 2]) w'))
 (HV : ∀ w', Below w.heap.size w w' → Calls Tryz.prog 15 #[v1] w' (BPost false w'))
 (HRV : ∀ w', Below w.heap.size w w' → Calls Tryz.prog 16 #[v1] w' (BPost false w'))
 (HE1 : ∀ w', Below w.heap.size w w' → Calls Tryz.prog 17 #[v1, v2] w' (BPost true w'))
 (HE2 : ∀ w', Below w.heap.size w w' → Calls Tryz.prog 18 #[v1, v2] w' (BPost true w'))
 (HE3 : ∀ w', Below w.heap.size w w' → Calls Tryz.prog 17 #[v1, v1] w' (BPost true w'))
 (HVL : ∀ w', Below w.heap.size w w' → Calls Tryz.prog 19 #[.slice (some ⟨w'.heap.size, 0, none⟩) 1 1] (w'.alloc (.cells #[v1] 23)) (BPost false w'))
 (HO : ∀ w', Below w.heap.size w w' → Calls Tryz.prog 22 #[v3] w' (ResP T w'))
 (HN : ∀ w', Below w.heap.size w w' → Calls Tryz.prog 23 #[v3] w' (RPPost T w'))
 (HE : ∀ w' v x, Rp w' v T → RP w' x T → Calls Tryz.prog 24 #[v, .int .i64 0, x] w' (BPost true w')) :
 Calls Tryz.prog 3 #[v1, v2, v3] w (Ret (.bool true) w) := by
 have HK := i' k'l8
 have E : Hid (Below w.heap.size w w) := Below.refl _ _
 have HS := i' HS
 have HD := i' HD
 have HB := i' HB
 have HV := i' HV
 have HRV := i' HRV
 have HE1 := i' HE1
 have HE2 := i' HE2
 have HE3 := i' HE3
 have HVL := i' HVL
 have HO := i' HO
 have HN := i' HN
 have HE := i' HE
 have f1 : ¬ (40 : Int) < (L3.length : Int) := by omega
 have HOT : Hid (∀ w' v, RP w' v T → ∃ a c, v = .slice a T.length c) := fun w' v h => by obtain ⟨a, b, o, c, h, -⟩ := h; exact ⟨a, c, h⟩
 have f2 : ¬ (25 : Int) < (T.length : Int) := by omega
 generalize T.length = tn at *
 obtain ⟨p1, a1, o1, c1, rfl, -, -, -, -⟩ := h1
 obtain ⟨p2, a2, o2, c2, rfl, -, -, -, -⟩ := h2
 obtain ⟨p3, a3, o3, c3, rfl, -, -⟩ := h3
 generalize L1.length = n1 at *
 generalize L2.length = n2 at *
 generalize L3.length = n3 at *
 clear h40 ht
 unfold ResP at HO
 unfold RPPost at *
 unfold BPost at *
 unfold Ret at *
 go_enter Tryz.func3, Tryz.ntmps3
 go_wp2_with fail
 refine (HS.out _ E.out).mono ?_
 rintro e x1 ⟨rfl, b1⟩
 have E := i' (chain E.out b1)
 clear b1
 go_wp2_with fail
 refine (HD.out _ E.out).mono ?_
 rintro e x2 ⟨rfl, b2⟩
 have E := i' (chain E.out b2)
 clear b2
 go_wp2_with fail
 refine (HB.out _ E.out).mono ?_
 rintro e x3 ⟨rfl, b3⟩
 have E := i' (chain E.out b3)
 clear b3
 go_wp2_with fail
 refine (HV.out _ E.out).mono ?_
 rintro e x4 ⟨rfl, b4⟩
 have E := i' (chain E.out b4)
 clear b4
 go_wp2_with fail
 refine (HRV.out _ E.out).mono ?_
 rintro e x5 ⟨rfl, b5⟩
 have E := i' (chain E.out b5)
 clear b5
 go_wp2_with fail
 refine (HE1.out _ E.out).mono ?_
 rintro e x6 ⟨rfl, b6⟩
 have E := i' (chain E.out b6)
 clear b6
 go_wp2_with fail
 refine (HE2.out _ E.out).mono ?_
 rintro e x7 ⟨rfl, b7⟩
 have E := i' (chain E.out b7)
 clear b7
 go_wp2_with fail
 refine (HE3.out _ E.out).mono ?_
 rintro e x8 ⟨rfl, b8⟩
 have E := i' (chain E.out b8)
 clear b8
 go_wp2_with fail
 refine (HVL.out _ E.out).mono ?_
 rintro e x9 ⟨rfl, b9⟩
 have E := i' (chain E.out b9)
 clear b9
 go_wp2_with fail
 refine (HO.out _ E.out).mono ?_
 rintro e x10 ⟨y10, rfl, r10, b10⟩
 have E := i' (chain E.out b10)
 have RO := i' r10
 clear r10
 clear b10
 go_wp2_with fail
 refine (HN.out _ E.out).mono ?_
 rintro e x11 ⟨y11, rfl, r11, b11⟩
 have RO := i' (RO.out.below b11)
 have E := i' (chain E.out b11)
 have RT := i' r11
 obtain ⟨RTa, RTc, hRT⟩ := HOT.out _ _ r11
 subst hRT
 clear r11
 clear b11
 go_wp2_with fail
 refine (HE.out _ _ _ RO.out RT.out).mono ?_
 rintro e x12 ⟨rfl, b12⟩
 have RO := i' (RO.out.below b12)
 have RT := i' (RT.out.below b12)
 have E := i' (chain E.out b12)
 clear b12
 go_wp2_with fail
 refine (HK.out _).mono ?_
 rintro e x13 ⟨rfl, b13⟩
 have RO := i' (RO.out.below b13)
 have RT := i' (RT.out.below b13)
 have E := i' (chain E.out b13)
 clear b13
 go_wp2
 go_ret
 exact ⟨rfl, E.out⟩
theorem k'ln (L1 L2 : List (Bool × ByteArray)) (L3 : List Int) (v1 v2 v3 : Value) (w : World) (h1 : Rw w v1 L1) (h2 : Rw w v2 L2) (h3 : Rn w v3 L3) (h40 : L3.length ≤ 40) (T : List Int) (ht : T.length ≤ 25)
 (HS : ∀ w', Below w.heap.size w w' → Calls Tryz.prog 11 #[.slice (some ⟨w'.heap.size, 0, none⟩) 2 2] (w'.alloc (.cells #[v1, v2] 23)) (BPost true w'))
 (HD : ∀ w', Below w.heap.size w w' → Calls Tryz.prog 13 #[v1] w' (Ret (.tuple #[.int .i64 0, .int .i64 2]) w'))
 (HB : ∀ w', Below w.heap.size w w' → Calls Tryz.prog 14 #[v1] w' (Ret (.tuple #[.int .i64 0, .int .i64 2]) w'))
 (HV : ∀ w', Below w.heap.size w w' → Calls Tryz.prog 15 #[v1] w' (BPost false w'))
 (HRV : ∀ w', Below w.heap.size w w' → Calls Tryz.prog 16 #[v1] w' (BPost false w'))
 (HE1 : ∀ w', Below w.heap.size w w' → Calls Tryz.prog 17 #[v1, v2] w' (BPost false w'))
 (HE2 : ∀ w', Below w.heap.size w w' → Calls Tryz.prog 18 #[v1, v2] w' (BPost false w'))
 (HE3 : ∀ w', Below w.heap.size w w' → Calls Tryz.prog 17 #[v1, v1] w' (BPost true w'))
 (HVL : ∀ w', Below w.heap.size w w' → Calls Tryz.prog 19 #[.slice (some ⟨w'.heap.size, 0, none⟩) 1 1] (w'.alloc (.cells #[v1] 23)) (BPost false w'))
 (HO : ∀ w', Below w.heap.size w w' → Calls Tryz.prog 22 #[v3] w' (ResP T w'))
 (HN : ∀ w', Below w.heap.size w w' → Calls Tryz.prog 23 #[v3] w' (RPPost T w'))
 (HE : ∀ w' v x, Rp w' v T → RP w' x T → Calls Tryz.prog 24 #[v, .int .i64 0, x] w' (BPost true w')) :
 Calls Tryz.prog 3 #[v1, v2, v3] w (Ret (.bool true) w) := by
 have HK := i' k'l8
 have E : Hid (Below w.heap.size w w) := Below.refl _ _
 have HS := i' HS
 have HD := i' HD
 have HB := i' HB
 have HV := i' HV
 have HRV := i' HRV
 have HE1 := i' HE1
 have HE2 := i' HE2
 have HE3 := i' HE3
 have HVL := i' HVL
 have HO := i' HO
 have HN := i' HN
 have HE := i' HE
 have f1 : ¬ (40 : Int) < (L3.length : Int) := by omega
 have HOT : Hid (∀ w' v, RP w' v T → ∃ a c, v = .slice a T.length c) := fun w' v h => by obtain ⟨a, b, o, c, h, -⟩ := h; exact ⟨a, c, h⟩
 have f2 : ¬ (25 : Int) < (T.length : Int) := by omega
 generalize T.length = tn at *
 obtain ⟨p1, a1, o1, c1, rfl, -, -, -, -⟩ := h1
 obtain ⟨p2, a2, o2, c2, rfl, -, -, -, -⟩ := h2
 obtain ⟨p3, a3, o3, c3, rfl, -, -⟩ := h3
 generalize L1.length = n1 at *
 generalize L2.length = n2 at *
 generalize L3.length = n3 at *
 clear h40 ht
 unfold ResP at HO
 unfold RPPost at *
 unfold BPost at *
 unfold Ret at *
 go_enter Tryz.func3, Tryz.ntmps3
 go_wp2_with fail
 refine (HS.out _ E.out).mono ?_
 rintro e x1 ⟨rfl, b1⟩
 have E := i' (chain E.out b1)
 clear b1
 go_wp2_with fail
 refine (HD.out _ E.out).mono ?_
 rintro e x2 ⟨rfl, b2⟩
 have E := i' (chain E.out b2)
 clear b2
 go_wp2_with fail
 refine (HB.out _ E.out).mono ?_
 rintro e x3 ⟨rfl, b3⟩
 have E := i' (chain E.out b3)
 clear b3
 go_wp2_with fail
 refine (HV.out _ E.out).mono ?_
 rintro e x4 ⟨rfl, b4⟩
 have E := i' (chain E.out b4)
 clear b4
 go_wp2_with fail
 refine (HRV.out _ E.out).mono ?_
 rintro e x5 ⟨rfl, b5⟩
 have E := i' (chain E.out b5)
 clear b5
 go_wp2_with fail
 refine (HE1.out _ E.out).mono ?_
 rintro e x6 ⟨rfl, b6⟩
 have E := i' (chain E.out b6)
 clear b6
 go_wp2_with fail
 refine (HE2.out _ E.out).mono ?_
 rintro e x7 ⟨rfl, b7⟩
 have E := i' (chain E.out b7)
 clear b7
 go_wp2_with fail
 refine (HE3.out _ E.out).mono ?_
 rintro e x8 ⟨rfl, b8⟩
 have E := i' (chain E.out b8)
 clear b8
 go_wp2_with fail
 refine (HVL.out _ E.out).mono ?_
 rintro e x9 ⟨rfl, b9⟩
 have E := i' (chain E.out b9)
 clear b9
 go_wp2_with fail
 refine (HO.out _ E.out).mono ?_
 rintro e x10 ⟨y10, rfl, r10, b10⟩
 have E := i' (chain E.out b10)
 have RO := i' r10
 clear r10
 clear b10
 go_wp2_with fail
 refine (HN.out _ E.out).mono ?_
 rintro e x11 ⟨y11, rfl, r11, b11⟩
 have RO := i' (RO.out.below b11)
 have E := i' (chain E.out b11)
 have RT := i' r11
 obtain ⟨RTa, RTc, hRT⟩ := HOT.out _ _ r11
 subst hRT
 clear r11
 clear b11
 go_wp2_with fail
 refine (HE.out _ _ _ RO.out RT.out).mono ?_
 rintro e x12 ⟨rfl, b12⟩
 have RO := i' (RO.out.below b12)
 have RT := i' (RT.out.below b12)
 have E := i' (chain E.out b12)
 clear b12
 go_wp2_with fail
 refine (HK.out _).mono ?_
 rintro e x13 ⟨rfl, b13⟩
 have RO := i' (RO.out.below b13)
 have RT := i' (RT.out.below b13)
 have E := i' (chain E.out b13)
 clear b13
 go_wp2
 go_ret
 exact ⟨rfl, E.out⟩
theorem k'lo (L1 L2 : List (Bool × ByteArray)) (L3 : List Int) (v1 v2 v3 : Value) (w : World) (h1 : Rw w v1 L1) (h2 : Rw w v2 L2) (h3 : Rn w v3 L3) (h40 : L3.length ≤ 40) (T : List Int) (ht : 25 < T.length)
 (HS : ∀ w', Below w.heap.size w w' → Calls Tryz.prog 11 #[.slice (some ⟨w'.heap.size, 0, none⟩) 2 2] (w'.alloc (.cells #[v1, v2] 23)) (BPost true w'))
 (HD : ∀ w', Below w.heap.size w w' → Calls Tryz.prog 13 #[v1] w' (Ret (.tuple #[.int .i64 0, .int .i64 2]) w'))
 (HB : ∀ w', Below w.heap.size w w' → Calls Tryz.prog 14 #[v1] w' (Ret (.tuple #[.int .i64 0, .int .i64 2]) w'))
 (HV : ∀ w', Below w.heap.size w w' → Calls Tryz.prog 15 #[v1] w' (BPost false w'))
 (HRV : ∀ w', Below w.heap.size w w' → Calls Tryz.prog 16 #[v1] w' (BPost false w'))
 (HE1 : ∀ w', Below w.heap.size w w' → Calls Tryz.prog 17 #[v1, v2] w' (BPost true w'))
 (HE2 : ∀ w', Below w.heap.size w w' → Calls Tryz.prog 18 #[v1, v2] w' (BPost true w'))
 (HE3 : ∀ w', Below w.heap.size w w' → Calls Tryz.prog 17 #[v1, v1] w' (BPost true w'))
 (HVL : ∀ w', Below w.heap.size w w' → Calls Tryz.prog 19 #[.slice (some ⟨w'.heap.size, 0, none⟩) 1 1] (w'.alloc (.cells #[v1] 23)) (BPost false w'))
 (HO : ∀ w', Below w.heap.size w w' → Calls Tryz.prog 22 #[v3] w' (ResE 7 w'))
 (HN : ∀ w', Below w.heap.size w w' → Calls Tryz.prog 23 #[v3] w' (RPPost T w')) :
 Calls Tryz.prog 3 #[v1, v2, v3] w (Ret (.bool true) w) := by
 have HK := i' k'l8
 have E : Hid (Below w.heap.size w w) := Below.refl _ _
 have HS := i' HS
 have HD := i' HD
 have HB := i' HB
 have HV := i' HV
 have HRV := i' HRV
 have HE1 := i' HE1
 have HE2 := i' HE2
 have HE3 := i' HE3
 have HVL := i' HVL
 have HO := i' HO
 have HN := i' HN
 have f1 : ¬ (40 : Int) < (L3.length : Int) := by omega
 have HOT : Hid (∀ w' v, RP w' v T → ∃ a c, v = .slice a T.length c) := fun w' v h => by obtain ⟨a, b, o, c, h, -⟩ := h; exact ⟨a, c, h⟩
 have f2 : (25 : Int) < (T.length : Int) := by omega
 generalize T.length = tn at *
 obtain ⟨p1, a1, o1, c1, rfl, -, -, -, -⟩ := h1
 obtain ⟨p2, a2, o2, c2, rfl, -, -, -, -⟩ := h2
 obtain ⟨p3, a3, o3, c3, rfl, -, -⟩ := h3
 generalize L1.length = n1 at *
 generalize L2.length = n2 at *
 generalize L3.length = n3 at *
 clear h40 ht
 unfold ResE at HO
 unfold RPPost at *
 unfold BPost at *
 unfold Ret at *
 go_enter Tryz.func3, Tryz.ntmps3
 go_wp2_with fail
 refine (HS.out _ E.out).mono ?_
 rintro e x1 ⟨rfl, b1⟩
 have E := i' (chain E.out b1)
 clear b1
 go_wp2_with fail
 refine (HD.out _ E.out).mono ?_
 rintro e x2 ⟨rfl, b2⟩
 have E := i' (chain E.out b2)
 clear b2
 go_wp2_with fail
 refine (HB.out _ E.out).mono ?_
 rintro e x3 ⟨rfl, b3⟩
 have E := i' (chain E.out b3)
 clear b3
 go_wp2_with fail
 refine (HV.out _ E.out).mono ?_
 rintro e x4 ⟨rfl, b4⟩
 have E := i' (chain E.out b4)
 clear b4
 go_wp2_with fail
 refine (HRV.out _ E.out).mono ?_
 rintro e x5 ⟨rfl, b5⟩
 have E := i' (chain E.out b5)
 clear b5
 go_wp2_with fail
 refine (HE1.out _ E.out).mono ?_
 rintro e x6 ⟨rfl, b6⟩
 have E := i' (chain E.out b6)
 clear b6
 go_wp2_with fail
 refine (HE2.out _ E.out).mono ?_
 rintro e x7 ⟨rfl, b7⟩
 have E := i' (chain E.out b7)
 clear b7
 go_wp2_with fail
 refine (HE3.out _ E.out).mono ?_
 rintro e x8 ⟨rfl, b8⟩
 have E := i' (chain E.out b8)
 clear b8
 go_wp2_with fail
 refine (HVL.out _ E.out).mono ?_
 rintro e x9 ⟨rfl, b9⟩
 have E := i' (chain E.out b9)
 clear b9
 go_wp2_with fail
 refine (HO.out _ E.out).mono ?_
 rintro e x10 ⟨rfl, b10⟩
 have E := i' (chain E.out b10)
 clear b10
 go_wp2_with fail
 refine (HN.out _ E.out).mono ?_
 rintro e x11 ⟨y11, rfl, r11, b11⟩
 have E := i' (chain E.out b11)
 have RT := i' r11
 obtain ⟨RTa, RTc, hRT⟩ := HOT.out _ _ r11
 subst hRT
 clear r11
 clear b11
 go_wp2_with fail
 refine (HK.out _).mono ?_
 rintro e x12 ⟨rfl, b12⟩
 have RT := i' (RT.out.below b12)
 have E := i' (chain E.out b12)
 clear b12
 go_wp2
 go_ret
 exact ⟨rfl, E.out⟩
theorem k'lp (L1 L2 : List (Bool × ByteArray)) (L3 : List Int) (v1 v2 v3 : Value) (w : World) (h1 : Rw w v1 L1) (h2 : Rw w v2 L2) (h3 : Rn w v3 L3) (h40 : L3.length ≤ 40) (T : List Int) (ht : 25 < T.length)
 (HS : ∀ w', Below w.heap.size w w' → Calls Tryz.prog 11 #[.slice (some ⟨w'.heap.size, 0, none⟩) 2 2] (w'.alloc (.cells #[v1, v2] 23)) (BPost true w'))
 (HD : ∀ w', Below w.heap.size w w' → Calls Tryz.prog 13 #[v1] w' (Ret (.tuple #[.int .i64 0, .int .i64 2]) w'))
 (HB : ∀ w', Below w.heap.size w w' → Calls Tryz.prog 14 #[v1] w' (Ret (.tuple #[.int .i64 0, .int .i64 2]) w'))
 (HV : ∀ w', Below w.heap.size w w' → Calls Tryz.prog 15 #[v1] w' (BPost false w'))
 (HRV : ∀ w', Below w.heap.size w w' → Calls Tryz.prog 16 #[v1] w' (BPost false w'))
 (HE1 : ∀ w', Below w.heap.size w w' → Calls Tryz.prog 17 #[v1, v2] w' (BPost false w'))
 (HE2 : ∀ w', Below w.heap.size w w' → Calls Tryz.prog 18 #[v1, v2] w' (BPost false w'))
 (HE3 : ∀ w', Below w.heap.size w w' → Calls Tryz.prog 17 #[v1, v1] w' (BPost true w'))
 (HVL : ∀ w', Below w.heap.size w w' → Calls Tryz.prog 19 #[.slice (some ⟨w'.heap.size, 0, none⟩) 1 1] (w'.alloc (.cells #[v1] 23)) (BPost false w'))
 (HO : ∀ w', Below w.heap.size w w' → Calls Tryz.prog 22 #[v3] w' (ResE 7 w'))
 (HN : ∀ w', Below w.heap.size w w' → Calls Tryz.prog 23 #[v3] w' (RPPost T w')) :
 Calls Tryz.prog 3 #[v1, v2, v3] w (Ret (.bool true) w) := by
 have HK := i' k'l8
 have E : Hid (Below w.heap.size w w) := Below.refl _ _
 have HS := i' HS
 have HD := i' HD
 have HB := i' HB
 have HV := i' HV
 have HRV := i' HRV
 have HE1 := i' HE1
 have HE2 := i' HE2
 have HE3 := i' HE3
 have HVL := i' HVL
 have HO := i' HO
 have HN := i' HN
 have f1 : ¬ (40 : Int) < (L3.length : Int) := by omega
 have HOT : Hid (∀ w' v, RP w' v T → ∃ a c, v = .slice a T.length c) := fun w' v h => by obtain ⟨a, b, o, c, h, -⟩ := h; exact ⟨a, c, h⟩
 have f2 : (25 : Int) < (T.length : Int) := by omega
 generalize T.length = tn at *
 obtain ⟨p1, a1, o1, c1, rfl, -, -, -, -⟩ := h1
 obtain ⟨p2, a2, o2, c2, rfl, -, -, -, -⟩ := h2
 obtain ⟨p3, a3, o3, c3, rfl, -, -⟩ := h3
 generalize L1.length = n1 at *
 generalize L2.length = n2 at *
 generalize L3.length = n3 at *
 clear h40 ht
 unfold ResE at HO
 unfold RPPost at *
 unfold BPost at *
 unfold Ret at *
 go_enter Tryz.func3, Tryz.ntmps3
 go_wp2_with fail
 refine (HS.out _ E.out).mono ?_
 rintro e x1 ⟨rfl, b1⟩
 have E := i' (chain E.out b1)
 clear b1
 go_wp2_with fail
 refine (HD.out _ E.out).mono ?_
 rintro e x2 ⟨rfl, b2⟩
 have E := i' (chain E.out b2)
 clear b2
 go_wp2_with fail
 refine (HB.out _ E.out).mono ?_
 rintro e x3 ⟨rfl, b3⟩
 have E := i' (chain E.out b3)
 clear b3
 go_wp2_with fail
 refine (HV.out _ E.out).mono ?_
 rintro e x4 ⟨rfl, b4⟩
 have E := i' (chain E.out b4)
 clear b4
 go_wp2_with fail
 refine (HRV.out _ E.out).mono ?_
 rintro e x5 ⟨rfl, b5⟩
 have E := i' (chain E.out b5)
 clear b5
 go_wp2_with fail
 refine (HE1.out _ E.out).mono ?_
 rintro e x6 ⟨rfl, b6⟩
 have E := i' (chain E.out b6)
 clear b6
 go_wp2_with fail
 refine (HE2.out _ E.out).mono ?_
 rintro e x7 ⟨rfl, b7⟩
 have E := i' (chain E.out b7)
 clear b7
 go_wp2_with fail
 refine (HE3.out _ E.out).mono ?_
 rintro e x8 ⟨rfl, b8⟩
 have E := i' (chain E.out b8)
 clear b8
 go_wp2_with fail
 refine (HVL.out _ E.out).mono ?_
 rintro e x9 ⟨rfl, b9⟩
 have E := i' (chain E.out b9)
 clear b9
 go_wp2_with fail
 refine (HO.out _ E.out).mono ?_
 rintro e x10 ⟨rfl, b10⟩
 have E := i' (chain E.out b10)
 clear b10
 go_wp2_with fail
 refine (HN.out _ E.out).mono ?_
 rintro e x11 ⟨y11, rfl, r11, b11⟩
 have E := i' (chain E.out b11)
 have RT := i' r11
 obtain ⟨RTa, RTc, hRT⟩ := HOT.out _ _ r11
 subst hRT
 clear r11
 clear b11
 go_wp2_with fail
 refine (HK.out _).mono ?_
 rintro e x12 ⟨rfl, b12⟩
 have RT := i' (RT.out.below b12)
 have E := i' (chain E.out b12)
 clear b12
 go_wp2
 go_ret
 exact ⟨rfl, E.out⟩
theorem k'lq (L1 L2 : List (Bool × ByteArray)) (L3 : List Int) (v1 v2 v3 : Value) (w : World) (h1 : Rw w v1 L1) (h2 : Rw w v2 L2) (h3 : Rn w v3 L3) (h40 : L3.length ≤ 40) (T : List Int) (ht : T.length ≤ 25) (p : List Int) (m g : Int) (hm : (L1.length : Int) - 1 = m) (h25 : L1.length ≤ 25)
 (HS : ∀ w', Below w.heap.size w w' → Calls Tryz.prog 11 #[.slice (some ⟨w'.heap.size, 0, none⟩) 2 2] (w'.alloc (.cells #[v1, v2] 23)) (BPost true w'))
 (HD : ∀ w', Below w.heap.size w w' → Calls Tryz.prog 13 #[v1] w' (Ret (.tuple #[.int .i64 m, .int .i64 0]) w'))
 (HB : ∀ w', Below w.heap.size w w' → Calls Tryz.prog 14 #[v1] w' (Ret (.tuple #[.int .i64 g, .int .i64 0]) w'))
 (HV : ∀ w', Below w.heap.size w w' → Calls Tryz.prog 15 #[v1] w' (BPost true w'))
 (HRV : ∀ w', Below w.heap.size w w' → Calls Tryz.prog 16 #[v1] w' (BPost true w'))
 (HE1 : ∀ w', Below w.heap.size w w' → Calls Tryz.prog 17 #[v1, v2] w' (BPost true w'))
 (HE2 : ∀ w', Below w.heap.size w w' → Calls Tryz.prog 18 #[v1, v2] w' (BPost true w'))
 (HE3 : ∀ w', Below w.heap.size w w' → Calls Tryz.prog 17 #[v1, v1] w' (BPost true w'))
 (HVL : ∀ w', Below w.heap.size w w' → Calls Tryz.prog 19 #[.slice (some ⟨w'.heap.size, 0, none⟩) 1 1] (w'.alloc (.cells #[v1] 23)) (BPost true w'))
 (HF : ∀ w', Below w.heap.size w w' → Calls Tryz.prog 21 #[v1] w' (RPPost p w'))
 (HRB : ∀ w' x, RP w' x p → Calls Tryz.prog 20 #[x] w' (IPost g w'))
 (HO : ∀ w', Below w.heap.size w w' → Calls Tryz.prog 22 #[v3] w' (ResP T w'))
 (HN : ∀ w', Below w.heap.size w w' → Calls Tryz.prog 23 #[v3] w' (RPPost T w'))
 (HE : ∀ w' v x, Rp w' v T → RP w' x T → Calls Tryz.prog 24 #[v, .int .i64 0, x] w' (BPost true w')) :
 Calls Tryz.prog 3 #[v1, v2, v3] w (Ret (.bool true) w) := by
 have HK := i' k'l8
 have E : Hid (Below w.heap.size w w) := Below.refl _ _
 have HS := i' HS
 have HD := i' HD
 have HB := i' HB
 have HV := i' HV
 have HRV := i' HRV
 have HE1 := i' HE1
 have HE2 := i' HE2
 have HE3 := i' HE3
 have HVL := i' HVL
 have HF := i' HF
 have HRB := i' HRB
 have HO := i' HO
 have HN := i' HN
 have HE := i' HE
 have f1 : ¬ (40 : Int) < (L3.length : Int) := by omega
 have HOT : Hid (∀ w' v, RP w' v T → ∃ a c, v = .slice a T.length c) := fun w' v h => by obtain ⟨a, b, o, c, h, -⟩ := h; exact ⟨a, c, h⟩
 have f2 : ¬ (25 : Int) < (T.length : Int) := by omega
 generalize T.length = tn at *
 have f3 : IntKind.i64.wrap ((L1.length : Int) - 1) = m := by rw [hm]; exact IntWalk.i64_in _ (by omega)
 obtain ⟨p1, a1, o1, c1, rfl, -, -, -, -⟩ := h1
 obtain ⟨p2, a2, o2, c2, rfl, -, -, -, -⟩ := h2
 obtain ⟨p3, a3, o3, c3, rfl, -, -⟩ := h3
 generalize L1.length = n1 at *
 generalize L2.length = n2 at *
 generalize L3.length = n3 at *
 clear h40 ht hm h25
 unfold ResP at HO
 unfold RPPost at *
 unfold IPost at *
 unfold BPost at *
 unfold Ret at *
 go_enter Tryz.func3, Tryz.ntmps3
 go_wp2_with fail
 refine (HS.out _ E.out).mono ?_
 rintro e x1 ⟨rfl, b1⟩
 have E := i' (chain E.out b1)
 clear b1
 go_wp2_with fail
 refine (HD.out _ E.out).mono ?_
 rintro e x2 ⟨rfl, b2⟩
 have E := i' (chain E.out b2)
 clear b2
 go_wp2_with fail
 refine (HB.out _ E.out).mono ?_
 rintro e x3 ⟨rfl, b3⟩
 have E := i' (chain E.out b3)
 clear b3
 go_wp2_with fail
 refine (HV.out _ E.out).mono ?_
 rintro e x4 ⟨rfl, b4⟩
 have E := i' (chain E.out b4)
 clear b4
 go_wp2_with fail
 refine (HRV.out _ E.out).mono ?_
 rintro e x5 ⟨rfl, b5⟩
 have E := i' (chain E.out b5)
 clear b5
 go_wp2_with fail
 refine (HE1.out _ E.out).mono ?_
 rintro e x6 ⟨rfl, b6⟩
 have E := i' (chain E.out b6)
 clear b6
 go_wp2_with fail
 refine (HE2.out _ E.out).mono ?_
 rintro e x7 ⟨rfl, b7⟩
 have E := i' (chain E.out b7)
 clear b7
 go_wp2_with fail
 refine (HE3.out _ E.out).mono ?_
 rintro e x8 ⟨rfl, b8⟩
 have E := i' (chain E.out b8)
 clear b8
 go_wp2_with fail
 refine (HVL.out _ E.out).mono ?_
 rintro e x9 ⟨rfl, b9⟩
 have E := i' (chain E.out b9)
 clear b9
 go_wp2_with fail
 refine (HF.out _ E.out).mono ?_
 rintro e x10 ⟨y10, rfl, r10, b10⟩
 have E := i' (chain E.out b10)
 have RX := i' r10
 clear r10
 clear b10
 go_wp2_with fail
 refine (HRB.out _ _ RX.out).mono ?_
 rintro e x11 ⟨rfl, b11⟩
 have RX := i' (RX.out.below b11)
 have E := i' (chain E.out b11)
 clear b11
 go_wp2_with fail
 refine (HO.out _ E.out).mono ?_
 rintro e x12 ⟨y12, rfl, r12, b12⟩
 have RX := i' (RX.out.below b12)
 have E := i' (chain E.out b12)
 have RO := i' r12
 clear r12
 clear b12
 go_wp2_with fail
 refine (HN.out _ E.out).mono ?_
 rintro e x13 ⟨y13, rfl, r13, b13⟩
 have RX := i' (RX.out.below b13)
 have RO := i' (RO.out.below b13)
 have E := i' (chain E.out b13)
 have RT := i' r13
 obtain ⟨RTa, RTc, hRT⟩ := HOT.out _ _ r13
 subst hRT
 clear r13
 clear b13
 go_wp2_with fail
 refine (HE.out _ _ _ RO.out RT.out).mono ?_
 rintro e x14 ⟨rfl, b14⟩
 have RX := i' (RX.out.below b14)
 have RO := i' (RO.out.below b14)
 have RT := i' (RT.out.below b14)
 have E := i' (chain E.out b14)
 clear b14
 go_wp2_with fail
 refine (HK.out _).mono ?_
 rintro e x15 ⟨rfl, b15⟩
 have RX := i' (RX.out.below b15)
 have RO := i' (RO.out.below b15)
 have RT := i' (RT.out.below b15)
 have E := i' (chain E.out b15)
 clear b15
 go_wp2
 go_ret
 exact ⟨rfl, E.out⟩
theorem k'lr (L1 L2 : List (Bool × ByteArray)) (L3 : List Int) (v1 v2 v3 : Value) (w : World) (h1 : Rw w v1 L1) (h2 : Rw w v2 L2) (h3 : Rn w v3 L3) (h40 : L3.length ≤ 40) (T : List Int) (ht : T.length ≤ 25) (p : List Int) (m g : Int) (hm : (L1.length : Int) - 1 = m) (h25 : L1.length ≤ 25)
 (HS : ∀ w', Below w.heap.size w w' → Calls Tryz.prog 11 #[.slice (some ⟨w'.heap.size, 0, none⟩) 2 2] (w'.alloc (.cells #[v1, v2] 23)) (BPost true w'))
 (HD : ∀ w', Below w.heap.size w w' → Calls Tryz.prog 13 #[v1] w' (Ret (.tuple #[.int .i64 m, .int .i64 0]) w'))
 (HB : ∀ w', Below w.heap.size w w' → Calls Tryz.prog 14 #[v1] w' (Ret (.tuple #[.int .i64 g, .int .i64 0]) w'))
 (HV : ∀ w', Below w.heap.size w w' → Calls Tryz.prog 15 #[v1] w' (BPost true w'))
 (HRV : ∀ w', Below w.heap.size w w' → Calls Tryz.prog 16 #[v1] w' (BPost true w'))
 (HE1 : ∀ w', Below w.heap.size w w' → Calls Tryz.prog 17 #[v1, v2] w' (BPost false w'))
 (HE2 : ∀ w', Below w.heap.size w w' → Calls Tryz.prog 18 #[v1, v2] w' (BPost false w'))
 (HE3 : ∀ w', Below w.heap.size w w' → Calls Tryz.prog 17 #[v1, v1] w' (BPost true w'))
 (HVL : ∀ w', Below w.heap.size w w' → Calls Tryz.prog 19 #[.slice (some ⟨w'.heap.size, 0, none⟩) 1 1] (w'.alloc (.cells #[v1] 23)) (BPost true w'))
 (HF : ∀ w', Below w.heap.size w w' → Calls Tryz.prog 21 #[v1] w' (RPPost p w'))
 (HRB : ∀ w' x, RP w' x p → Calls Tryz.prog 20 #[x] w' (IPost g w'))
 (HO : ∀ w', Below w.heap.size w w' → Calls Tryz.prog 22 #[v3] w' (ResP T w'))
 (HN : ∀ w', Below w.heap.size w w' → Calls Tryz.prog 23 #[v3] w' (RPPost T w'))
 (HE : ∀ w' v x, Rp w' v T → RP w' x T → Calls Tryz.prog 24 #[v, .int .i64 0, x] w' (BPost true w')) :
 Calls Tryz.prog 3 #[v1, v2, v3] w (Ret (.bool true) w) := by
 have HK := i' k'l8
 have E : Hid (Below w.heap.size w w) := Below.refl _ _
 have HS := i' HS
 have HD := i' HD
 have HB := i' HB
 have HV := i' HV
 have HRV := i' HRV
 have HE1 := i' HE1
 have HE2 := i' HE2
 have HE3 := i' HE3
 have HVL := i' HVL
 have HF := i' HF
 have HRB := i' HRB
 have HO := i' HO
 have HN := i' HN
 have HE := i' HE
 have f1 : ¬ (40 : Int) < (L3.length : Int) := by omega
 have HOT : Hid (∀ w' v, RP w' v T → ∃ a c, v = .slice a T.length c) := fun w' v h => by obtain ⟨a, b, o, c, h, -⟩ := h; exact ⟨a, c, h⟩
 have f2 : ¬ (25 : Int) < (T.length : Int) := by omega
 generalize T.length = tn at *
 have f3 : IntKind.i64.wrap ((L1.length : Int) - 1) = m := by rw [hm]; exact IntWalk.i64_in _ (by omega)
 obtain ⟨p1, a1, o1, c1, rfl, -, -, -, -⟩ := h1
 obtain ⟨p2, a2, o2, c2, rfl, -, -, -, -⟩ := h2
 obtain ⟨p3, a3, o3, c3, rfl, -, -⟩ := h3
 generalize L1.length = n1 at *
 generalize L2.length = n2 at *
 generalize L3.length = n3 at *
 clear h40 ht hm h25
 unfold ResP at HO
 unfold RPPost at *
 unfold IPost at *
 unfold BPost at *
 unfold Ret at *
 go_enter Tryz.func3, Tryz.ntmps3
 go_wp2_with fail
 refine (HS.out _ E.out).mono ?_
 rintro e x1 ⟨rfl, b1⟩
 have E := i' (chain E.out b1)
 clear b1
 go_wp2_with fail
 refine (HD.out _ E.out).mono ?_
 rintro e x2 ⟨rfl, b2⟩
 have E := i' (chain E.out b2)
 clear b2
 go_wp2_with fail
 refine (HB.out _ E.out).mono ?_
 rintro e x3 ⟨rfl, b3⟩
 have E := i' (chain E.out b3)
 clear b3
 go_wp2_with fail
 refine (HV.out _ E.out).mono ?_
 rintro e x4 ⟨rfl, b4⟩
 have E := i' (chain E.out b4)
 clear b4
 go_wp2_with fail
 refine (HRV.out _ E.out).mono ?_
 rintro e x5 ⟨rfl, b5⟩
 have E := i' (chain E.out b5)
 clear b5
 go_wp2_with fail
 refine (HE1.out _ E.out).mono ?_
 rintro e x6 ⟨rfl, b6⟩
 have E := i' (chain E.out b6)
 clear b6
 go_wp2_with fail
 refine (HE2.out _ E.out).mono ?_
 rintro e x7 ⟨rfl, b7⟩
 have E := i' (chain E.out b7)
 clear b7
 go_wp2_with fail
 refine (HE3.out _ E.out).mono ?_
 rintro e x8 ⟨rfl, b8⟩
 have E := i' (chain E.out b8)
 clear b8
 go_wp2_with fail
 refine (HVL.out _ E.out).mono ?_
 rintro e x9 ⟨rfl, b9⟩
 have E := i' (chain E.out b9)
 clear b9
 go_wp2_with fail
 refine (HF.out _ E.out).mono ?_
 rintro e x10 ⟨y10, rfl, r10, b10⟩
 have E := i' (chain E.out b10)
 have RX := i' r10
 clear r10
 clear b10
 go_wp2_with fail
 refine (HRB.out _ _ RX.out).mono ?_
 rintro e x11 ⟨rfl, b11⟩
 have RX := i' (RX.out.below b11)
 have E := i' (chain E.out b11)
 clear b11
 go_wp2_with fail
 refine (HO.out _ E.out).mono ?_
 rintro e x12 ⟨y12, rfl, r12, b12⟩
 have RX := i' (RX.out.below b12)
 have E := i' (chain E.out b12)
 have RO := i' r12
 clear r12
 clear b12
 go_wp2_with fail
 refine (HN.out _ E.out).mono ?_
 rintro e x13 ⟨y13, rfl, r13, b13⟩
 have RX := i' (RX.out.below b13)
 have RO := i' (RO.out.below b13)
 have E := i' (chain E.out b13)
 have RT := i' r13
 obtain ⟨RTa, RTc, hRT⟩ := HOT.out _ _ r13
 subst hRT
 clear r13
 clear b13
 go_wp2_with fail
 refine (HE.out _ _ _ RO.out RT.out).mono ?_
 rintro e x14 ⟨rfl, b14⟩
 have RX := i' (RX.out.below b14)
 have RO := i' (RO.out.below b14)
 have RT := i' (RT.out.below b14)
 have E := i' (chain E.out b14)
 clear b14
 go_wp2_with fail
 refine (HK.out _).mono ?_
 rintro e x15 ⟨rfl, b15⟩
 have RX := i' (RX.out.below b15)
 have RO := i' (RO.out.below b15)
 have RT := i' (RT.out.below b15)
 have E := i' (chain E.out b15)
 clear b15
 go_wp2
 go_ret
 exact ⟨rfl, E.out⟩
theorem k'ls (L1 L2 : List (Bool × ByteArray)) (L3 : List Int) (v1 v2 v3 : Value) (w : World) (h1 : Rw w v1 L1) (h2 : Rw w v2 L2) (h3 : Rn w v3 L3) (h40 : L3.length ≤ 40) (T : List Int) (ht : 25 < T.length) (p : List Int) (m g : Int) (hm : (L1.length : Int) - 1 = m) (h25 : L1.length ≤ 25)
 (HS : ∀ w', Below w.heap.size w w' → Calls Tryz.prog 11 #[.slice (some ⟨w'.heap.size, 0, none⟩) 2 2] (w'.alloc (.cells #[v1, v2] 23)) (BPost true w'))
 (HD : ∀ w', Below w.heap.size w w' → Calls Tryz.prog 13 #[v1] w' (Ret (.tuple #[.int .i64 m, .int .i64 0]) w'))
 (HB : ∀ w', Below w.heap.size w w' → Calls Tryz.prog 14 #[v1] w' (Ret (.tuple #[.int .i64 g, .int .i64 0]) w'))
 (HV : ∀ w', Below w.heap.size w w' → Calls Tryz.prog 15 #[v1] w' (BPost true w'))
 (HRV : ∀ w', Below w.heap.size w w' → Calls Tryz.prog 16 #[v1] w' (BPost true w'))
 (HE1 : ∀ w', Below w.heap.size w w' → Calls Tryz.prog 17 #[v1, v2] w' (BPost true w'))
 (HE2 : ∀ w', Below w.heap.size w w' → Calls Tryz.prog 18 #[v1, v2] w' (BPost true w'))
 (HE3 : ∀ w', Below w.heap.size w w' → Calls Tryz.prog 17 #[v1, v1] w' (BPost true w'))
 (HVL : ∀ w', Below w.heap.size w w' → Calls Tryz.prog 19 #[.slice (some ⟨w'.heap.size, 0, none⟩) 1 1] (w'.alloc (.cells #[v1] 23)) (BPost true w'))
 (HF : ∀ w', Below w.heap.size w w' → Calls Tryz.prog 21 #[v1] w' (RPPost p w'))
 (HRB : ∀ w' x, RP w' x p → Calls Tryz.prog 20 #[x] w' (IPost g w'))
 (HO : ∀ w', Below w.heap.size w w' → Calls Tryz.prog 22 #[v3] w' (ResE 7 w'))
 (HN : ∀ w', Below w.heap.size w w' → Calls Tryz.prog 23 #[v3] w' (RPPost T w')) :
 Calls Tryz.prog 3 #[v1, v2, v3] w (Ret (.bool true) w) := by
 have HK := i' k'l8
 have E : Hid (Below w.heap.size w w) := Below.refl _ _
 have HS := i' HS
 have HD := i' HD
 have HB := i' HB
 have HV := i' HV
 have HRV := i' HRV
 have HE1 := i' HE1
 have HE2 := i' HE2
 have HE3 := i' HE3
 have HVL := i' HVL
 have HF := i' HF
 have HRB := i' HRB
 have HO := i' HO
 have HN := i' HN
 have f1 : ¬ (40 : Int) < (L3.length : Int) := by omega
 have HOT : Hid (∀ w' v, RP w' v T → ∃ a c, v = .slice a T.length c) := fun w' v h => by obtain ⟨a, b, o, c, h, -⟩ := h; exact ⟨a, c, h⟩
 have f2 : (25 : Int) < (T.length : Int) := by omega
 generalize T.length = tn at *
 have f3 : IntKind.i64.wrap ((L1.length : Int) - 1) = m := by rw [hm]; exact IntWalk.i64_in _ (by omega)
 obtain ⟨p1, a1, o1, c1, rfl, -, -, -, -⟩ := h1
 obtain ⟨p2, a2, o2, c2, rfl, -, -, -, -⟩ := h2
 obtain ⟨p3, a3, o3, c3, rfl, -, -⟩ := h3
 generalize L1.length = n1 at *
 generalize L2.length = n2 at *
 generalize L3.length = n3 at *
 clear h40 ht hm h25
 unfold ResE at HO
 unfold RPPost at *
 unfold IPost at *
 unfold BPost at *
 unfold Ret at *
 go_enter Tryz.func3, Tryz.ntmps3
 go_wp2_with fail
 refine (HS.out _ E.out).mono ?_
 rintro e x1 ⟨rfl, b1⟩
 have E := i' (chain E.out b1)
 clear b1
 go_wp2_with fail
 refine (HD.out _ E.out).mono ?_
 rintro e x2 ⟨rfl, b2⟩
 have E := i' (chain E.out b2)
 clear b2
 go_wp2_with fail
 refine (HB.out _ E.out).mono ?_
 rintro e x3 ⟨rfl, b3⟩
 have E := i' (chain E.out b3)
 clear b3
 go_wp2_with fail
 refine (HV.out _ E.out).mono ?_
 rintro e x4 ⟨rfl, b4⟩
 have E := i' (chain E.out b4)
 clear b4
 go_wp2_with fail
 refine (HRV.out _ E.out).mono ?_
 rintro e x5 ⟨rfl, b5⟩
 have E := i' (chain E.out b5)
 clear b5
 go_wp2_with fail
 refine (HE1.out _ E.out).mono ?_
 rintro e x6 ⟨rfl, b6⟩
 have E := i' (chain E.out b6)
 clear b6
 go_wp2_with fail
 refine (HE2.out _ E.out).mono ?_
 rintro e x7 ⟨rfl, b7⟩
 have E := i' (chain E.out b7)
 clear b7
 go_wp2_with fail
 refine (HE3.out _ E.out).mono ?_
 rintro e x8 ⟨rfl, b8⟩
 have E := i' (chain E.out b8)
 clear b8
 go_wp2_with fail
 refine (HVL.out _ E.out).mono ?_
 rintro e x9 ⟨rfl, b9⟩
 have E := i' (chain E.out b9)
 clear b9
 go_wp2_with fail
 refine (HF.out _ E.out).mono ?_
 rintro e x10 ⟨y10, rfl, r10, b10⟩
 have E := i' (chain E.out b10)
 have RX := i' r10
 clear r10
 clear b10
 go_wp2_with fail
 refine (HRB.out _ _ RX.out).mono ?_
 rintro e x11 ⟨rfl, b11⟩
 have RX := i' (RX.out.below b11)
 have E := i' (chain E.out b11)
 clear b11
 go_wp2_with fail
 refine (HO.out _ E.out).mono ?_
 rintro e x12 ⟨rfl, b12⟩
 have RX := i' (RX.out.below b12)
 have E := i' (chain E.out b12)
 clear b12
 go_wp2_with fail
 refine (HN.out _ E.out).mono ?_
 rintro e x13 ⟨y13, rfl, r13, b13⟩
 have RX := i' (RX.out.below b13)
 have E := i' (chain E.out b13)
 have RT := i' r13
 obtain ⟨RTa, RTc, hRT⟩ := HOT.out _ _ r13
 subst hRT
 clear r13
 clear b13
 go_wp2_with fail
 refine (HK.out _).mono ?_
 rintro e x14 ⟨rfl, b14⟩
 have RX := i' (RX.out.below b14)
 have RT := i' (RT.out.below b14)
 have E := i' (chain E.out b14)
 clear b14
 go_wp2
 go_ret
 exact ⟨rfl, E.out⟩
theorem k'lt (L1 L2 : List (Bool × ByteArray)) (L3 : List Int) (v1 v2 v3 : Value) (w : World) (h1 : Rw w v1 L1) (h2 : Rw w v2 L2) (h3 : Rn w v3 L3) (h40 : L3.length ≤ 40) (T : List Int) (ht : 25 < T.length) (p : List Int) (m g : Int) (hm : (L1.length : Int) - 1 = m) (h25 : L1.length ≤ 25)
 (HS : ∀ w', Below w.heap.size w w' → Calls Tryz.prog 11 #[.slice (some ⟨w'.heap.size, 0, none⟩) 2 2] (w'.alloc (.cells #[v1, v2] 23)) (BPost true w'))
 (HD : ∀ w', Below w.heap.size w w' → Calls Tryz.prog 13 #[v1] w' (Ret (.tuple #[.int .i64 m, .int .i64 0]) w'))
 (HB : ∀ w', Below w.heap.size w w' → Calls Tryz.prog 14 #[v1] w' (Ret (.tuple #[.int .i64 g, .int .i64 0]) w'))
 (HV : ∀ w', Below w.heap.size w w' → Calls Tryz.prog 15 #[v1] w' (BPost true w'))
 (HRV : ∀ w', Below w.heap.size w w' → Calls Tryz.prog 16 #[v1] w' (BPost true w'))
 (HE1 : ∀ w', Below w.heap.size w w' → Calls Tryz.prog 17 #[v1, v2] w' (BPost false w'))
 (HE2 : ∀ w', Below w.heap.size w w' → Calls Tryz.prog 18 #[v1, v2] w' (BPost false w'))
 (HE3 : ∀ w', Below w.heap.size w w' → Calls Tryz.prog 17 #[v1, v1] w' (BPost true w'))
 (HVL : ∀ w', Below w.heap.size w w' → Calls Tryz.prog 19 #[.slice (some ⟨w'.heap.size, 0, none⟩) 1 1] (w'.alloc (.cells #[v1] 23)) (BPost true w'))
 (HF : ∀ w', Below w.heap.size w w' → Calls Tryz.prog 21 #[v1] w' (RPPost p w'))
 (HRB : ∀ w' x, RP w' x p → Calls Tryz.prog 20 #[x] w' (IPost g w'))
 (HO : ∀ w', Below w.heap.size w w' → Calls Tryz.prog 22 #[v3] w' (ResE 7 w'))
 (HN : ∀ w', Below w.heap.size w w' → Calls Tryz.prog 23 #[v3] w' (RPPost T w')) :
 Calls Tryz.prog 3 #[v1, v2, v3] w (Ret (.bool true) w) := by
 have HK := i' k'l8
 have E : Hid (Below w.heap.size w w) := Below.refl _ _
 have HS := i' HS
 have HD := i' HD
 have HB := i' HB
 have HV := i' HV
 have HRV := i' HRV
 have HE1 := i' HE1
 have HE2 := i' HE2
 have HE3 := i' HE3
 have HVL := i' HVL
 have HF := i' HF
 have HRB := i' HRB
 have HO := i' HO
 have HN := i' HN
 have f1 : ¬ (40 : Int) < (L3.length : Int) := by omega
 have HOT : Hid (∀ w' v, RP w' v T → ∃ a c, v = .slice a T.length c) := fun w' v h => by obtain ⟨a, b, o, c, h, -⟩ := h; exact ⟨a, c, h⟩
 have f2 : (25 : Int) < (T.length : Int) := by omega
 generalize T.length = tn at *
 have f3 : IntKind.i64.wrap ((L1.length : Int) - 1) = m := by rw [hm]; exact IntWalk.i64_in _ (by omega)
 obtain ⟨p1, a1, o1, c1, rfl, -, -, -, -⟩ := h1
 obtain ⟨p2, a2, o2, c2, rfl, -, -, -, -⟩ := h2
 obtain ⟨p3, a3, o3, c3, rfl, -, -⟩ := h3
 generalize L1.length = n1 at *
 generalize L2.length = n2 at *
 generalize L3.length = n3 at *
 clear h40 ht hm h25
 unfold ResE at HO
 unfold RPPost at *
 unfold IPost at *
 unfold BPost at *
 unfold Ret at *
 go_enter Tryz.func3, Tryz.ntmps3
 go_wp2_with fail
 refine (HS.out _ E.out).mono ?_
 rintro e x1 ⟨rfl, b1⟩
 have E := i' (chain E.out b1)
 clear b1
 go_wp2_with fail
 refine (HD.out _ E.out).mono ?_
 rintro e x2 ⟨rfl, b2⟩
 have E := i' (chain E.out b2)
 clear b2
 go_wp2_with fail
 refine (HB.out _ E.out).mono ?_
 rintro e x3 ⟨rfl, b3⟩
 have E := i' (chain E.out b3)
 clear b3
 go_wp2_with fail
 refine (HV.out _ E.out).mono ?_
 rintro e x4 ⟨rfl, b4⟩
 have E := i' (chain E.out b4)
 clear b4
 go_wp2_with fail
 refine (HRV.out _ E.out).mono ?_
 rintro e x5 ⟨rfl, b5⟩
 have E := i' (chain E.out b5)
 clear b5
 go_wp2_with fail
 refine (HE1.out _ E.out).mono ?_
 rintro e x6 ⟨rfl, b6⟩
 have E := i' (chain E.out b6)
 clear b6
 go_wp2_with fail
 refine (HE2.out _ E.out).mono ?_
 rintro e x7 ⟨rfl, b7⟩
 have E := i' (chain E.out b7)
 clear b7
 go_wp2_with fail
 refine (HE3.out _ E.out).mono ?_
 rintro e x8 ⟨rfl, b8⟩
 have E := i' (chain E.out b8)
 clear b8
 go_wp2_with fail
 refine (HVL.out _ E.out).mono ?_
 rintro e x9 ⟨rfl, b9⟩
 have E := i' (chain E.out b9)
 clear b9
 go_wp2_with fail
 refine (HF.out _ E.out).mono ?_
 rintro e x10 ⟨y10, rfl, r10, b10⟩
 have E := i' (chain E.out b10)
 have RX := i' r10
 clear r10
 clear b10
 go_wp2_with fail
 refine (HRB.out _ _ RX.out).mono ?_
 rintro e x11 ⟨rfl, b11⟩
 have RX := i' (RX.out.below b11)
 have E := i' (chain E.out b11)
 clear b11
 go_wp2_with fail
 refine (HO.out _ E.out).mono ?_
 rintro e x12 ⟨rfl, b12⟩
 have RX := i' (RX.out.below b12)
 have E := i' (chain E.out b12)
 clear b12
 go_wp2_with fail
 refine (HN.out _ E.out).mono ?_
 rintro e x13 ⟨y13, rfl, r13, b13⟩
 have RX := i' (RX.out.below b13)
 have E := i' (chain E.out b13)
 have RT := i' r13
 obtain ⟨RTa, RTc, hRT⟩ := HOT.out _ _ r13
 subst hRT
 clear r13
 clear b13
 go_wp2_with fail
 refine (HK.out _).mono ?_
 rintro e x14 ⟨rfl, b14⟩
 have RX := i' (RX.out.below b14)
 have RT := i' (RT.out.below b14)
 have E := i' (chain E.out b14)
 clear b14
 go_wp2
 go_ret
 exact ⟨rfl, E.out⟩
theorem k'm5 (L1 L2 : List (Bool × ByteArray)) (L3 : List Int) (v1 v2 v3 : Value) (w : World) (h1 : Rw w v1 L1) (h2 : Rw w v2 L2) (h3 : Rn w v3 L3) (z1 : Lim L1) (z2 : Lim L2)
 (h64 : ∀ a ∈ L3, -9223372036854775808 ≤ a ∧ a ≤ 9223372036854775807) :
 Calls Tryz.prog 3 #[v1, v2, v3] w (Ret (.bool true) w) := by
 cases hs : (shP L1 && shP L2) with
 | false => exact k'lk L1 L2 L3 v1 v2 v3 w h1 h2 h3 (fun w' hb => k'l9 (h1.below hb) (h2.below hb) z1 z2 _ hs)
 | true =>
  have HS := fun w' (hb : Below w.heap.size w w') => k'l9 (h1.below hb) (h2.below hb) z1 z2 _ hs
  have hs2 := hs
  rw [Bool.and_eq_true] at hs2
  have sm := k'dt hs2.1
  by_cases h40 : L3.length ≤ 40
  ·have hn : ∀ w', Below w.heap.size w w' → Rn w' v3 L3 := by
    intro w' hb
    obtain ⟨p, b, off, cap, e1, e2, e3⟩ := h3
    exact ⟨p, b, off, cap, e1, e2, fun k h => k'd hb (e3 k h)⟩
   have HN := fun w' (hb : Below w.heap.size w w') => k'ik L3 v3 w' (hn w' hb) (by omega) h64
   have HO := fun w' (hb : Below w.heap.size w w') => k'ii L3 v3 w' (hn w' hb) (by omega) h64
   have HV := fun w' (hb : Below w.heap.size w w') => k'd6 L1 v1 w' (h1.below hb) sm
   have HRV := fun w' (hb : Below w.heap.size w w') => k'dm L1 v1 w' (h1.below hb) sm
   have HVL := fun w' (hb : Below w.heap.size w w') => k'lg (h1.below hb) sm _ rfl
   have HE1 := fun w' (hb : Below w.heap.size w w') => k'ip L1 L2 v1 v2 w' (h1.below hb) (h2.below hb)
   have HE2 := fun w' (hb : Below w.heap.size w w') => k'iq L1 L2 v1 v2 w' (h1.below hb) (h2.below hb)
   have HE3 := fun w' (hb : Below w.heap.size w w') => k'ip L1 L1 v1 v1 w' (h1.below hb) (h1.below hb)
   rw [show decide (L1 = L1) = true by simp] at HE3
   have HE : (Pl.trim L3).length ≤ 25 → ∀ w' v x, Rp w' v (Pl.trim L3) → RP w' x (Pl.trim L3) → Calls Tryz.prog 24 #[v, .int .i64 0, x] w' (BPost true w') :=
    fun hT w' v x hv hx => k'jj _ v x w' hv hx hT (fun a ha => k'je (h64 a (k'jg ha))) (fun a ha => k'jf (h64 a (k'jg ha)))
   have HOf : (Pl.trim L3).length ≤ 25 → ∀ w', Below w.heap.size w w' → Calls Tryz.prog 22 #[v3] w' (ResP (Pl.trim L3) w') :=
    fun hT w' hb => (HO w' hb).mono fun e w'' hr => by simpa only [hT, if_true] using hr
   have HOu : ¬ (Pl.trim L3).length ≤ 25 → ∀ w', Below w.heap.size w w' → Calls Tryz.prog 22 #[v3] w' (ResE 7 w') :=
    fun hT w' hb => (HO w' hb).mono fun e w'' hr => by simpa only [hT, if_false] using hr
   generalize hr : decide (L1 = L2) = r at HE1 HE2
   clear hr
   cases hv : vldP L1 with
   | false =>
    rw [hv] at HV HRV HVL
    have HD := fun w' (hb : Below w.heap.size w w') => k'gf L1 v1 w' (h1.below hb) sm hv
    have HB := fun w' (hb : Below w.heap.size w w') => k'gh L1 v1 w' (h1.below hb) sm hv
    by_cases hT : (Pl.trim L3).length ≤ 25
    ·cases r
     ·exact k'ln L1 L2 L3 v1 v2 v3 w h1 h2 h3 h40 _ hT HS HD HB HV HRV HE1 HE2 HE3 HVL (HOf hT) HN (HE hT)
     ·exact k'lm L1 L2 L3 v1 v2 v3 w h1 h2 h3 h40 _ hT HS HD HB HV HRV HE1 HE2 HE3 HVL (HOf hT) HN (HE hT)
    ·cases r
     ·exact k'lp L1 L2 L3 v1 v2 v3 w h1 h2 h3 h40 _ (by omega) HS HD HB HV HRV HE1 HE2 HE3 HVL (HOu hT) HN
     ·exact k'lo L1 L2 L3 v1 v2 v3 w h1 h2 h3 h40 _ (by omega) HS HD HB HV HRV HE1 HE2 HE3 HVL (HOu hT) HN
   | true =>
    rw [hv] at HV HRV HVL
    have HD := fun w' (hb : Below w.heap.size w w') => k'gg L1 v1 w' (h1.below hb) sm hv
    have HB := fun w' (hb : Below w.heap.size w w') => k'gi L1 v1 w' (h1.below hb) sm hv
    obtain ⟨p, hp, rfl⟩ := VP.of hv
    have sp := k'i5 hs2.1
    obtain ⟨N, hN⟩ : ∃ N : Nat, N = 16 := ⟨_, rfl⟩
    rw [← hN] at sp
    have l25 := hp.len
    have HF := fun w' (hb : Below w.heap.size w w') => k'dk p v1 w' (h1.below hb) (by omega) hp.top
    have HRB := fun w' x (hx : RP w' x p) => k'ij p x w' hx hp.top (sp.len9 (by omega))
    by_cases hT : (Pl.trim L3).length ≤ 25
    ·cases r
     ·exact k'lr (zl p) L2 L3 v1 v2 v3 w h1 h2 h3 h40 _ hT p _ _ rfl (by rw [k'cc]; exact l25) HS HD HB HV HRV HE1 HE2 HE3 HVL HF HRB (HOf hT) HN (HE hT)
     ·exact k'lq (zl p) L2 L3 v1 v2 v3 w h1 h2 h3 h40 _ hT p _ _ rfl (by rw [k'cc]; exact l25) HS HD HB HV HRV HE1 HE2 HE3 HVL HF HRB (HOf hT) HN (HE hT)
    ·cases r
     ·exact k'lt (zl p) L2 L3 v1 v2 v3 w h1 h2 h3 h40 _ (by omega) p _ _ rfl (by rw [k'cc]; exact l25) HS HD HB HV HRV HE1 HE2 HE3 HVL HF HRB (HOu hT) HN
     ·exact k'ls (zl p) L2 L3 v1 v2 v3 w h1 h2 h3 h40 _ (by omega) p _ _ rfl (by rw [k'cc]; exact l25) HS HD HB HV HRV HE1 HE2 HE3 HVL HF HRB (HOu hT) HN
  ·exact k'll L1 L2 L3 v1 v2 v3 w h1 h2 h3 (by omega) HS
end Go.Proofs.YtepddegphdlbeaaGreat
namespace Go.Proofs.YtepddegphdlbeaaGreat
open Go.ChangeShapes Go.WideShapes Go.ChangeAt Go.RowKit Go.Joins Go.Deep
open Go.ChangeMaps (open_string shut_string)
theorem k'ma {H : Type} {enc : TypeId × Value → H} {W : World} {b0 : Nat} {r : Reach} {v : Value} {d : DataW H} {p : List MemPlace}
 (hv : Value.okWide Tryz.prog W r b0 24 v) (h : DataW.Trod enc Tryz.prog W 0 (fun _ => true) true 24 v d p) :
 ∃ L : List Int, Rn W v L ∧ (∀ a ∈ L, -9223372036854775808 ≤ a ∧ a ≤ 9223372036854775807) ∧ L.length ≤ 9223372036854775807 ∧ ∀ W', Below W.heap.size W W' → DataW.Trod enc Tryz.prog W' 0 (fun b => decide (b < W.heap.size)) true 24 v d p := by
 have hu := Tryz.underlying24
 have he := Tryz.underlying3
 have c1 : Tryz.prog.cellsOf 3 = 1 := by kernel_rfl
 obtain ⟨a0, len0, cap0, rfl⟩ := okWide_slice hu hv
 obtain ⟨fuel, hf⟩ := h
 rcases open_ints hu he c1 hf with ⟨hcs, hx⟩ | ⟨a, len, cap, zs, hcs, _, hl, hm, hz, hx, hcell, hwz⟩
 ·simp [Value.cells] at hcs
  obtain ⟨rfl, rfl, rfl⟩ := hcs
  simp only [Prod.mk.injEq] at hx
  obtain ⟨rfl, rfl⟩ := hx
  exact ⟨[], ⟨none, 0, 0, 0, rfl, fun h => absurd h (by simp), fun k h => absurd h (by simp)⟩, fun a ha => (nomatch ha), by simp, fun W' _ => shut_slice_nil hu⟩
 ·simp [Value.cells] at hcs
  obtain ⟨rfl, rfl, rfl⟩ := hcs
  simp only [if_true] at hz
  simp only [Prod.mk.injEq] at hx
  obtain ⟨rfl, rfl⟩ := hx
  have hlm : len0 ≤ 9223372036854775807 := by unfold maxLen at hm; omega
  have htl : (zs.take len0).length = len0 := by rw [List.length_take]; omega
  have hb : ∀ x ∈ zs.take len0, -9223372036854775808 ≤ x ∧ x ≤ 9223372036854775807 := fun x hx => bounds_i64 (hwz x (List.mem_of_mem_take hx))
  rcases Nat.eq_zero_or_pos zs.length with h0 | h0
  ·have hc0 : cap0 = 0 := by omega
   have hl0 : len0 = 0 := by omega
   subst hc0; subst hl0
   refine ⟨[], ⟨some a, 0, 0, 0, rfl, fun h => absurd h (by simp), fun k h => absurd h (by simp)⟩, fun a ha => (nomatch ha), by simp, fun W' _ => ?_⟩
   have t0 := shut_ints (enc := enc) (w := W') (base := 0) (spare := fun b => decide (b < W.heap.size)) (held := true) (a := a) (len := 0) (cap := 0) (zs := zs) 0 hu he c1 (Nat.zero_le _) (Nat.le_refl _) hm (by simp [h0]) (fun i hi => by omega) hwz
   exact ⟨2, by simpa [Value.cells] using t0⟩
  ·obtain ⟨ab, ao, spot⟩ := a
   have hspot : spot = none := by simpa [Addr.add] using World.cell?_spot (hcell 0 h0)
   subst hspot
   have hlt : ab < W.heap.size := by
    have := World.block_lt_of_cell? W _ (hcell 0 h0)
    simpa [Addr.add] using this
   refine ⟨zs.take len0, ⟨some ⟨ab, ao, none⟩, ab, ao, cap0, by rw [htl], fun _ => rfl, fun k hk => ?_⟩, hb, by omega, fun W' hb' => ?_⟩
   ·have hk' : k < len0 := by omega
    have h1 := hcell k (by omega)
    rw [add_plain] at h1
    rw [h1, List.getElem_take]; simp [List.getD, List.getElem?_eq_getElem (show k < zs.length by omega)]
   ·have t0 := shut_ints (enc := enc) (w := W') (base := 0) (spare := fun b => decide (b < W.heap.size)) (held := true) (a := ⟨ab, ao, none⟩) (len := len0) (cap := cap0) (zs := zs) 0 hu he c1 (Nat.zero_le _) hl hm (by simp [hlt, hz])
     (fun i hi => by have h1 := hcell i hi; rw [add_plain] at h1 ⊢; exact k'd hb' h1) hwz
    exact ⟨2, by simpa [Value.cells] using t0⟩
end Go.Proofs.YtepddegphdlbeaaGreat
namespace Go.Proofs.YtepddegphdlbeaaGreat
open Go.ChangeShapes Go.WideShapes Go.ChangeAt Go.RowKit Go.Joins
open Go.ChangeMaps (open_string shut_string)
theorem k'mb (os : Os) (started : os.Started) (H : Type) (enc : TypeId × Value → H) :
 ReturnsInHanded {} Tryz.checked os 3 .any (Rows.polyValidSpec.pre6 enc Tryz.prog Tryz.f3 Rows.polyValidRow.domain false) (Rows.polyValidSpec.post enc Tryz.prog Tryz.f3 false true false false) := by
 refine returnsInHanded_of_change (C := Tryz.checked) Tryz.own started (by kernel_rfl) Tryz.func3
  (ChangeSpec.witness6 (enc := enc) (C := Tryz.checked) false ⟨#[], #[.slice none 0 0, .slice none 0 0, .slice none 0 0], []⟩ 8 (by kernel_rfl) (by kernel_rfl) (by kernel_rfl) (by kernel_rfl)) ?_
 intro W base args ds gs before hval0 hW hcnd _
 have hval : ∀ (j : Nat) t v, Tryz.f3.params[j]? = some t → args[j]? = some v → Value.okWide Tryz.prog W .any base t v := hval0
 have hW' := hW
 obtain ⟨p, q, hA0, hV, rfl, hfz, hnd⟩ := hW
 have hA : DataW.TrodAll enc Tryz.prog W 0 (fun _ => true) true Tryz.f3.params.toList args.toList ds p := hA0
 rw [Tryz.params3] at hA hval
 obtain ⟨v0, v1, v2, d0, d1, d2, p0, p1, p2, rfl, rfl, rfl, h0, h1, h2⟩ := trodAll_three hA
 obtain ⟨rfl, rfl⟩ := trodVars_none hV
 obtain ⟨L0, r0, z0, t0⟩ := k'm9 (hval 0 23 v0 rfl rfl) h0
 obtain ⟨L1, r1, z1, t1⟩ := k'm9 (hval 1 23 v1 rfl rfl) h1
 obtain ⟨L2, r2, i2, _, t2⟩ := k'ma (hval 2 24 v2 rfl rfl) h2
 clear hA0 hval0
 refine (k'm5 L0 L1 L2 v0 v1 v2 W r0 r1 r2 z0 z1 i2).mono fun e W' ⟨he, bel⟩ => ?_
 subst he
 exact ⟨_, rfl, _, _, _, [], _, [], hW', trodAll_mk1 (shut_bool Tryz.underlying4 _), trodAll_mk3 (t0 W' bel) (t1 W' bel) (t2 W' bel), rfl, bel.frame _, fun h => by cases h⟩
theorem pvalids_holds : Rows.PolyValidSaid :=
 OpenClaim.holds_of_wide 3 Tryz.f3 rfl rfl rfl rfl rfl rfl rfl ⟨rfl, rfl, rfl, rfl, rfl⟩ rfl rfl rfl rfl rfl (by kernel_rfl) Tryz.func3 (by kernel_rfl)
  (of_decide_eq_true (by kernel_rfl)) (by unfold Func.isWrapper; first | (rw [if_pos (by decide +kernel)]; kernel_rfl) | (rw [if_neg (by decide +kernel)]; exact ⟨rfl, rfl⟩))
  (fun os started H enc _ => k'mb os started H enc)
end Go.Proofs.YtepddegphdlbeaaGreat
