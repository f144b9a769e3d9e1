/- What the theorem leans on, part B0. -/
import Derived.Test.YtepddegphdlbeaaGreatG5
import Derived.Test.YtepddegphdlbeaaGreatG4
import Derived.Test.YtepddegphdlbeaaGreatG2
import Derived.Test.YtepddegphdlbeaaGreatG1
import Derived.Test.YtepddegphdlbeaaGreatG0
import Derived.Test.YtepddegphdlbeaaGreatProg
import Derived.WalkKit
import Derived.WalkSpells
import Derived.WalkLawsBesides
import Derived.Lib.Hide
import Derived.Deep.QuietTactic
import Derived.BigQuiet
import Derived.Shelf.Small.Bits
import Derived.Shelf.Small.Wraps
import Derived.Shelf.Strconv.Itoa0
import Derived.Shelf.Bits.Mul64
import Derived.Ground.Names2Prog
import Derived.Shelf.Slices.SearchI
import Derived.Shelf.Spec.BitsCarry
import Derived.Deep.LoopGhost
import Derived.Deep.RegionHeld3
import Derived.Laws.AppendOwnNone
import Derived.Test.YtepddegphdlbeaaGreatG6
import Derived.Test.YtepddegphdlbeaaGreatG3
import Derived.Deep.DeepCutAuto
import Derived.Test.YtepddegphdlbeaaGreatG8
import Derived.Test.YtepddegphdlbeaaGreatG9
import Derived.Test.YtepddegphdlbeaaGreatG7
import Derived.Below
import Derived.Test.YtepddegphdlbeaaGreatG11
import Derived.Test.YtepddegphdlbeaaGreatG10
import Derived.RangeFuncNested
import Derived.RangeFuncBound
import Derived.RangeFuncCalls
import Derived.RangeFuncLeaves
import Derived.Shelf.Abstract
import Derived.Shelf.RegionOpen
import Derived.OwnWalkIn
import Derived.TacticsInMore
import Derived.LoopNIn
import Derived.LoopIn
import Derived.OrdersIn
import Derived.Deep.RegionHeld
import Derived.Maps.AppendAt
import Derived.Lib.SliceRun
import Derived.IntWalk
import Derived.Test.YtepddegphdlbeaaGreatG12
import Derived.Test.YtepddegphdlbeaaGreatG13
import Derived.Laws.StructEq
import Derived.Test.YtepddegphdlbeaaGreatG16
import Derived.Test.YtepddegphdlbeaaGreatG15
import Derived.Test.YtepddegphdlbeaaGreatG14
set_option maxRecDepth 100000
set_option maxHeartbeats 16000000
set_option linter.all false
namespace Go.Proofs.YtepddegphdlbeaaGreat
open Go.RowKit
theorem k'6m (v1 v2 : Value) (m n : Nat) (w : World) (h1 : Ri w v1 (Nm.dg D9 m)) (h2 : Ri w v2 (Nm.dg D9 n)) (l1 : (Nm.dg D9 m).length ≤ 1000000) (l2 : (Nm.dg D9 n).length ≤ 1000000) :
 Calls Tryz.prog 124 #[v1, v2] w (GivesI (m * n) w) := by
 have h := k'6l v1 v2 _ _ w h1 h2 l1 l2 (Nm.dig_dg D92 m) (Nm.dig_dg D92 n)
 rwa [Nm.val_dg D92, Nm.val_dg D92] at h
theorem k'74 (a b : Bool) (v1 v2 : Value) (m n : Nat) (w : World) (h1 : Ri w v1 (Nm.dg D9 m)) (h2 : Ri w v2 (Nm.dg D9 n)) (l1 : (Nm.dg D9 m).length ≤ 1000000) (l2 : (Nm.dg D9 n).length ≤ 1000000) :
 Calls Tryz.prog 83 #[.agg #[.bool a, v1], .agg #[.bool b, v2]] w (MadeI ((!a == b) && m * n != 0) (m * n) w) := by
 have H1 := i' h1
 have H2 := i' h2
 obtain ⟨pa, ba, oa, ca, rfl, hr1⟩ := h1
 obtain ⟨pb, bb, ob, cb, rfl, hr2⟩ := h2
 clear hr1 hr2
 have HT0 := i' (fun v1 v2 w' h1 h2 => k'6m v1 v2 m n w' h1 h2 l1 l2)
 clear l1 l2
 generalize (Nm.dg D9 m).length = ma at *
 generalize (Nm.dg D9 n).length = na at *
 obtain ⟨w0, hw0⟩ : ∃ w0 : World, w0 = ((w.alloc (.cells #[.bool a, .slice pa ma ca] 52)).alloc (.cells #[.bool b, .slice pb na cb] 52)).alloc (.cells #[.bool false, .slice none 0 0] 52) := ⟨_, rfl⟩
 have hb0 : Hid (Below w.heap.size w w0) := by rw [hw0]; exact (((Below.refl _ _).alloc (Nat.le_refl _) _).alloc (by simp) _).alloc (by simp; omega) _
 have k0 : w0.cell? ⟨w.heap.size, 0, none⟩ = some (.bool a) := by rw [hw0]; simp [go_sem]
 have k1 : w0.cell? ⟨w.heap.size, 1, none⟩ = some (.slice pa ma ca) := by rw [hw0]; simp [go_sem]
 have k2 : w0.cell? ⟨w.heap.size + 1, 0, none⟩ = some (.bool b) := by rw [hw0]; simp [go_sem]
 have k3 : w0.cell? ⟨w.heap.size + 1, 1, none⟩ = some (.slice pb na cb) := by rw [hw0]; simp [go_sem]
 have k4 : w0.cell? ⟨w.heap.size + 1 + 1, 0, none⟩ = some (.bool false) := by rw [hw0]; simp [go_sem]
 have k5 : w0.cell? ⟨w.heap.size + 1 + 1, 1, none⟩ = some (.slice none 0 0) := by rw [hw0]; simp [go_sem]
 have k6 : w0.frozen? ⟨w.heap.size + 1 + 1, 0, none⟩ = false := by rw [hw0]; simp [go_sem]
 have k7 : w0.frozen? ⟨w.heap.size + 1 + 1, 1, none⟩ = false := by rw [hw0]; simp [go_sem]
 have HTm := i' (fun w' (hb : Below w0.heap.size w0 w') => HT0.out _ _ w' (H1.out.below (chain hb0.out hb) (Nat.le_refl _)) (H2.out.below (chain hb0.out hb) (Nat.le_refl _)))
 have HMd := i' (fun v w h => k'6q (!a == b) v (m * n) w h)
 have Hw0 := i' hw0
 have n1 : ¬ (w.heap.size = w.heap.size + 1 + 1) := by omega
 have n2 : ¬ (w.heap.size + 1 + 1 = w.heap.size) := by omega
 clear hw0
 go_enter Tryz.func83, Tryz.ntmps83
 go_wp2_with fail
 rw [← Hw0.out]
 go_region_held3 (fun W' => W'.cell? ⟨w.heap.size, 0, none⟩ = some (.bool a) ∧ W'.cell? ⟨w.heap.size, 1, none⟩ = some (.slice pa ma ca) ∧ W'.cell? ⟨w.heap.size + 1, 0, none⟩ = some (.bool b) ∧ W'.cell? ⟨w.heap.size + 1, 1, none⟩ = some (.slice pb na cb)) (go_keep)
  (first
   | (go_at_call 124; (with_reducible refine (HTm.out _ ((Below.refl _ _).drew)).mono ?_); rintro e w1 ⟨vt, rfl, r1, b1⟩; have c1 := chain ((Below.refl _ _).drew) b1; have p0 := keep1 c1 k0; have p1 := keep1 c1 k1; have p2 := keep1 c1 k2; have p3 := keep1 c1 k3; have G1 := i' (And.intro r1 c1); clear r1 b1 c1)
   | (go_at_call 96; (with_reducible refine (HMd.out _ _ G1.out.1).mono ?_); rintro e w2 ⟨vm, rfl, r2, b2⟩; have c2 := chain G1.out.2 b2; have p0 := keep1 c2 k0; have p1 := keep1 c2 k1; have p2 := keep1 c2 k2; have p3 := keep1 c2 k3; have p4 := keep1 c2 k4; have p5 := keep1 c2 k5; have p6 := keepf c2 k4 k6; have p7 := keepf c2 k5 k7; have G2 := i' (And.intro r2 c2); obtain ⟨pm, bm, om, cm, rfl, hrm⟩ := r2; clear hrm b2 c2))
 have HZ := i' (chain hb0.out G2.out.2)
 go_wp2
 exact bodyPost_ret (v := .agg #[.bool ((!a == b) && m * n != 0), .slice pm (Nm.dg D9 (m * n)).length cm]) (by simp [results, Tryz.results83, go_sem, p4, p5]) rfl ⟨_, rfl, G2.out.1.set2 p4 p5 (fun _ => by simp), (HZ.out.setCell (p := ⟨w.heap.size + 1 + 1, 0, none⟩) (by simp; omega) _).setCell (p := ⟨w.heap.size + 1 + 1, 1, none⟩) (by simp; omega) _⟩
theorem k'7b (x y : Int) (v1 v2 : Value) (w : World) (h1 : Rz w v1 x) (h2 : Rz w v2 y) (l1 : (Nm.dg D9 x.natAbs).length ≤ 1000000) (l2 : (Nm.dg D9 y.natAbs).length ≤ 1000000) :
 Calls Tryz.prog 83 #[iV x v1, iV y v2] w (IntPost (x * y) w) := by
 refine (k'74 (decide (x < 0)) (decide (y < 0)) v1 v2 x.natAbs y.natAbs w h1 h2 l1 l2).mono (k'78 ?_)
 rcases Int.natAbs_eq x with ex | ex <;> rcases Int.natAbs_eq y with ey | ey
 all_goals
  generalize x.natAbs = m at *
  generalize y.natAbs = n at *
  subst ex ey
  rcases Nat.eq_zero_or_pos m with h0 | h0 <;> rcases Nat.eq_zero_or_pos n with g0 | g0
 all_goals first
  | (subst h0; simp)
  | (subst g0; simp)
  | (have p1 : ¬ ((m : Int) < 0) := by omega
     have p2 : ¬ ((n : Int) < 0) := by omega
     have p3 : (-(m : Int) < 0) := by omega
     have p4 : (-(n : Int) < 0) := by omega
     simp [p1, p2, p3, p4, h0, g0, Int.mul_neg, Int.neg_mul])
theorem k'9f {a : Bool} {s : ByteArray} (h : vld a s = true) : lenV a s = lenB s := by unfold lenV; rw [h]; simp
end Go.Proofs.YtepddegphdlbeaaGreat
namespace Go.Proofs.YtepddegphdlbeaaGreat
namespace Pl
theorem k'c2 {p : List Int} : trim p = [] ↔ ∀ k, cf p k = 0 := by
 constructor
 ·intro h k; rw [← cf_trim, h, cf_nil]
 ·intro h; exact nrm_ext (nrm_trim p) nrm_nil fun k => by rw [cf_trim, h, cf_nil]
theorem mul_nil (p : List Int) : trim (mul p []) = [] := by
 rw [k'c2]
 induction p with
 | nil => exact cf_nil
 | cons a p ih =>
  intro k
  rw [mul, cf_add, cf_scl, cf_nil]
  cases k with
  | zero => simp [cf_cons_zero]
  | succ k => rw [cf_cons_succ, ih]; simp
theorem k'c7 (p q : List Int) (i k : Nat) (h : p.length ≤ i) : conv p q i k = conv p q p.length k := by
 induction i with
 | zero => have : p.length = 0 := by omega
           rw [this]
 | succ i ih =>
  by_cases e : p.length = i + 1
  ·rw [e]
  ·rw [conv, ih (by omega), cf_ge (by omega)]; simp
end Pl
end Go.Proofs.YtepddegphdlbeaaGreat
namespace Go.Proofs.YtepddegphdlbeaaGreat
open Go.RowKit
theorem k'dk (p : List Int) (v : Value) (w : World) (h : Rp w v p) (hl : p.length ≤ 1000) (ht : ∀ a ∈ p, a.natAbs < Top) : Calls Tryz.prog 21 #[v] w (RPPost p w) :=
 (k'dj p v w h hl ht).mono fun _ _ ⟨u, h1, h2, h3⟩ => ⟨u, h1, h2.rp, h3⟩
theorem k'do (w : World) {v1 v2 : Value} {L1 L2 : List (Bool × ByteArray)} (h1 : Rw w v1 L1) (h2 : Rw w v2 L2) : Rl (w.alloc (.cells #[v1, v2] 23)) (.slice (some ⟨w.heap.size, 0, none⟩) 2 2) [L1, L2] :=
 ⟨w.heap.size, 0, 2, rfl, fun k hk => by
  match k, hk with
  | 0, _ => exact ⟨v1, by simp [go_sem], h1.below ((Below.refl _ _).alloc (Nat.le_refl _) _)⟩
  | 1, _ => exact ⟨v2, by simp [go_sem], h2.below ((Below.refl _ _).alloc (Nat.le_refl _) _)⟩
  | j + 2, h => simp at h; omega⟩
theorem k'dw {p : List Int} (h : shP (zl p) = true) (hp : p.length ≤ 25) : p.length ≤ 14 := by
 unfold shP lenOK at h
 rw [Bool.and_eq_true, decide_eq_true_eq, k'cc] at h
 omega
theorem k'g7 (c : Nat) (L1 L2 : List (Bool × ByteArray)) (v1 v2 : Value) (w : World) (h1 : Rw w v1 L1) (h2 : Rw w v2 L2) (z1 : Small L1) (z2 : Small L2) (he : (vldP L1 && vldP L2) = false) :
 Calls Tryz.prog 77 #[.pointer (some ⟨c, 0, none⟩), v1, v2, .func (.func 78) #[.pointer (some ⟨c, 0, none⟩)] #[]] w (ResE 2 w) := by
 have HV1 := i' (fun w' (hb : Below w.heap.size w w') => k'd6 L1 v1 w' (h1.below hb) z1)
 have HV2 := i' (fun w' (hb : Below w.heap.size w w') => k'd6 L2 v2 w' (h2.below hb) z2)
 clear h1 h2 z1 z2
 generalize vldP L1 = x1 at *
 generalize vldP L2 = x2 at *
 cases x1
 ·clear he HV2
  go_enter Tryz.func77, Tryz.ntmps77
  go_wp2_with fail
  refine (HV1.out _ (Below.refl _ _)).mono ?_
  rintro e w1 ⟨rfl, b1⟩
  have B1 := i' b1
  clear b1
  go_wp2
  go_ret2
  exact ⟨rfl, B1.out⟩
 ·obtain rfl : x2 = false := he
  go_enter Tryz.func77, Tryz.ntmps77
  go_wp2_with fail
  refine (HV1.out _ (Below.refl _ _)).mono ?_
  rintro e w1 ⟨rfl, b1⟩
  have B1 := i' b1
  clear b1
  go_wp2_with fail
  refine (HV2.out _ B1.out).mono ?_
  rintro e w2 ⟨rfl, b2⟩
  have B2 := i' (chain B1.out b2)
  clear b2
  go_wp2
  go_ret2
  exact ⟨rfl, B2.out⟩
theorem k'g8 (c B : Nat) (p q : List Int) (v1 v2 : Value) (w w0 : World) (h1 : Rp w v1 p) (h2 : Rp w v2 q) (hp : VP p) (hq : VP q) (hc : Ck w c 0) (hb0 : Below w0.heap.size w0 w) (hcw : w0.heap.size ≤ c) :
 Calls Tryz.prog 77 #[.pointer (some ⟨c, 0, none⟩), v1, v2, .func (.func 78) #[.pointer (some ⟨c, 0, none⟩)] #[]] w (CmbPost_add p q w0) := by
 have HV1 := i' (k'd9 p v1 w h1 hp)
 have HV2 := i' (fun w' (hb : Below w.heap.size w w') => k'd9 q v2 w' (h2.below hb) hq)
 have l1 := hp.len
 have l2 := hq.len
 have HC : Hid (∀ w', Below w.heap.size w w' → Calls Tryz.prog 118 #[v1, v2, .func (.func 78) #[.pointer (some ⟨c, 0, none⟩)] #[]] w' (BPoly (clipL (· + ·) p q) c (chainE (fun k => Pl.cf p k + Pl.cf q k) (max p.length q.length)) w')) := fun w' hb => by
  have h5 := k'fr c p q (clipL (· + ·) p q) v1 v2 w' (chainE fun k => Pl.cf p k + Pl.cf q k) (h1.below hb) (h2.below hb) (hc.below hb) (k'g1 _ _ _) (by rw [k'g1]; omega)
   (fun k wr hk hck => by rw [k'g2 _ _ _ _ hk]; exact k'cv c (Pl.cf p k) (Pl.cf q k) _ wr hck (hp.cf_top k) (hq.cf_top k))
  rw [k'g1] at h5
  exact h5
 have HT := i' (fun v w' h => k'dx v (clipL (· + ·) p q) w' h (k'g3 (· + ·) p q))
 have HRes : Hid ((chainE (fun k => Pl.cf p k + Pl.cf q k) (max p.length q.length) = 0 ∧ (∀ k, (Pl.cf p k + Pl.cf q k).natAbs < Top) ∧ clipL (· + ·) p q = zipL (· + ·) p q) ∨ (chainE (fun k => Pl.cf p k + Pl.cf q k) (max p.length q.length) = 7 ∧ ∃ k, ¬ (Pl.cf p k + Pl.cf q k).natAbs < Top)) := by
  by_cases h : ∀ k, (Pl.cf p k + Pl.cf q k).natAbs < Top
  ·exact Or.inl ⟨k'g5 h _, h, k'g4 h⟩
  ·obtain ⟨k, hk⟩ := Classical.not_forall.1 h
   refine Or.inr ⟨k'g6 hk _ ?_, k, hk⟩
   rcases Nat.lt_or_ge k (max p.length q.length) with g | g
   ·exact g
   ·exfalso
    rw [Pl.cf_ge (by omega), Pl.cf_ge (by omega)] at hk
    exact hk (Nat.lt_of_le_of_lt (by simp) (Nat.lt_of_lt_of_le W0 W_Top))
 obtain ⟨ev, hev⟩ : ∃ ev, ev = chainE (fun k => Pl.cf p k + Pl.cf q k) (max p.length q.length) := ⟨_, rfl⟩
 rw [← hev] at HC HRes
 obtain ⟨rl, hrl⟩ : ∃ rl, rl = clipL (· + ·) p q := ⟨_, rfl⟩
 rw [← hrl] at HC HRes HT
 have HB0 := i' hb0
 have HCk := i' hc
 clear h1 h2 hp hq hc l1 l2 hev hrl hb0
 go_enter Tryz.func77, Tryz.ntmps77
 go_wp2_with fail
 refine HV1.out.mono ?_
 rintro e w1 ⟨rfl, b1⟩
 have B1 := i' b1
 clear b1
 go_wp2_with fail
 refine (HV2.out _ B1.out).mono ?_
 rintro e w2 ⟨rfl, b2⟩
 have B2 := i' (chain B1.out b2)
 clear b2
 go_wp2_with fail
 refine (HC.out _ B2.out).mono ?_
 rintro e w3 ⟨v3, rfl, r3, b3, k3⟩
 have B3 := i' ((HB0.out.trans (B2.out.mono HB0.out.size)).trans (b3.lowC hcw (HCk.out.below B2.out).lt))
 have K3 := i' k3
 have R3 := i' r3
 clear b3 k3 r3
 go_wp2_with fail
 refine (HT.out _ _ R3.out).mono ?_
 rintro e w4 ⟨v4, rfl, r4, b4⟩
 obtain ⟨a4, bb4, o4, c4, rfl, -⟩ := r4.open_
 have B4 := i' (chain B3.out b4)
 have K4 := i' (K3.out.below b4)
 have R4 := i' r4
 clear b4 r4
 rcases HRes.out with ⟨e1, e2, e3⟩ | ⟨e1, e2⟩
 ·rw [e1] at K4
  have HE := i' (And.intro e2 e3)
  clear e1 e2 e3
  go_wp2_with fail
  refine (k'dy _ _ _ _ _ K4.out).mono ?_
  rintro en w5 ⟨rfl, b5⟩
  have B5 := i' (chain B4.out b5)
  have R5 := i' (R4.out.below b5)
  clear b5
  go_wp2
  go_ret2
  exact Or.inl ⟨HE.out.1, _, rfl, by rw [← HE.out.2]; exact R5.out, B5.out⟩
 ·rw [e1] at K4
  have HE := i' e2
  clear e1 e2
  go_wp2_with fail
  refine (k'dz _ _ 7 (by decide) _ K4.out).mono ?_
  rintro en w5 ⟨rfl, b5⟩
  have B5 := i' (chain B4.out b5)
  clear b5
  go_wp2
  go_ret2
  exact Or.inr ⟨HE.out, rfl, B5.out⟩
theorem k'g9 (L1 L2 : List (Bool × ByteArray)) (v1 v2 : Value) (w : World) (h1 : Rw w v1 L1) (h2 : Rw w v2 L2) (z1 : Small L1) (z2 : Small L2) (he : (vldP L1 && vldP L2) = false) :
 Calls Tryz.prog 25 #[v1, v2] w (ResE 2 w) := by
 obtain ⟨w0, hw0⟩ : ∃ w0 : World, w0 = w.alloc (.cells #[.int .i64 0] 96) := ⟨_, rfl⟩
 have B0 : Hid (Below w.heap.size w w0) := by show Below _ _ _; rw [hw0]; exact (Below.refl _ _).alloc (Nat.le_refl _) _
 have HR := i' (k'g7 w.heap.size L1 L2 v1 v2 w0 (h1.below B0.out) (h2.below B0.out) z1 z2 he)
 clear h1 h2 z1 z2 he
 go_enter Tryz.func25, Tryz.ntmps25
 go_wp2_with fail
 rw [← hw0]
 clear hw0
 refine HR.out.mono ?_
 rintro en w1 ⟨rfl, b1⟩
 have B1 := i' (chain B0.out b1)
 clear b1
 go_wp2
 go_ret2
 exact ⟨rfl, B1.out⟩
theorem k'ga (p q : List Int) (v1 v2 : Value) (w : World) (h1 : Rp w v1 p) (h2 : Rp w v2 q) (hp : VP p) (hq : VP q) :
 Calls Tryz.prog 25 #[v1, v2] w (CmbPost_add p q w) := by
 obtain ⟨w0, hw0⟩ : ∃ w0 : World, w0 = w.alloc (.cells #[.int .i64 0] 96) := ⟨_, rfl⟩
 have B0 : Hid (Below w.heap.size w w0) := by show Below _ _ _; rw [hw0]; exact (Below.refl _ _).alloc (Nat.le_refl _) _
 have HK : Ck w0 w.heap.size 0 := by rw [hw0]; exact heap_alloc_new w _
 have HR := i' (k'g8 w.heap.size 0 p q v1 v2 w0 w (h1.below B0.out) (h2.below B0.out) hp hq HK B0.out (Nat.le_refl _))
 clear h1 h2 hp hq HK
 go_enter Tryz.func25, Tryz.ntmps25
 go_wp2_with fail
 rw [← hw0]
 clear hw0
 refine HR.out.mono ?_
 rintro en w1 (⟨h5, v5, rfl, r5, b5⟩ | ⟨h5, rfl, b5⟩)
 ·obtain ⟨a5, bb5, o5, c5, rfl, -⟩ := r5.open_
  have H5 := i' (And.intro h5 (And.intro r5 b5))
  clear h5 r5 b5
  go_wp2
  go_ret2
  exact Or.inl ⟨H5.out.1, _, rfl, H5.out.2.1, H5.out.2.2⟩
 ·have H5 := i' (And.intro h5 b5)
  clear h5 b5
  go_wp2
  go_ret2
  exact Or.inr ⟨H5.out.1, rfl, H5.out.2⟩
theorem k'gb (c : Nat) (L1 L2 : List (Bool × ByteArray)) (v1 v2 : Value) (w : World) (h1 : Rw w v1 L1) (h2 : Rw w v2 L2) (z1 : Small L1) (z2 : Small L2) (he : (vldP L1 && vldP L2) = false) :
 Calls Tryz.prog 77 #[.pointer (some ⟨c, 0, none⟩), v1, v2, .func (.func 79) #[.pointer (some ⟨c, 0, none⟩)] #[]] w (ResE 2 w) := by
 have HV1 := i' (fun w' (hb : Below w.heap.size w w') => k'd6 L1 v1 w' (h1.below hb) z1)
 have HV2 := i' (fun w' (hb : Below w.heap.size w w') => k'd6 L2 v2 w' (h2.below hb) z2)
 clear h1 h2 z1 z2
 generalize vldP L1 = x1 at *
 generalize vldP L2 = x2 at *
 cases x1
 ·clear he HV2
  go_enter Tryz.func77, Tryz.ntmps77
  go_wp2_with fail
  refine (HV1.out _ (Below.refl _ _)).mono ?_
  rintro e w1 ⟨rfl, b1⟩
  have B1 := i' b1
  clear b1
  go_wp2
  go_ret2
  exact ⟨rfl, B1.out⟩
 ·obtain rfl : x2 = false := he
  go_enter Tryz.func77, Tryz.ntmps77
  go_wp2_with fail
  refine (HV1.out _ (Below.refl _ _)).mono ?_
  rintro e w1 ⟨rfl, b1⟩
  have B1 := i' b1
  clear b1
  go_wp2_with fail
  refine (HV2.out _ B1.out).mono ?_
  rintro e w2 ⟨rfl, b2⟩
  have B2 := i' (chain B1.out b2)
  clear b2
  go_wp2
  go_ret2
  exact ⟨rfl, B2.out⟩
theorem k'gd (L1 L2 : List (Bool × ByteArray)) (v1 v2 : Value) (w : World) (h1 : Rw w v1 L1) (h2 : Rw w v2 L2) (z1 : Small L1) (z2 : Small L2) (he : (vldP L1 && vldP L2) = false) :
 Calls Tryz.prog 26 #[v1, v2] w (ResE 2 w) := by
 obtain ⟨w0, hw0⟩ : ∃ w0 : World, w0 = w.alloc (.cells #[.int .i64 0] 96) := ⟨_, rfl⟩
 have B0 : Hid (Below w.heap.size w w0) := by show Below _ _ _; rw [hw0]; exact (Below.refl _ _).alloc (Nat.le_refl _) _
 have HR := i' (k'gb w.heap.size L1 L2 v1 v2 w0 (h1.below B0.out) (h2.below B0.out) z1 z2 he)
 clear h1 h2 z1 z2 he
 go_enter Tryz.func26, Tryz.ntmps26
 go_wp2_with fail
 rw [← hw0]
 clear hw0
 refine HR.out.mono ?_
 rintro en w1 ⟨rfl, b1⟩
 have B1 := i' (chain B0.out b1)
 clear b1
 go_wp2
 go_ret2
 exact ⟨rfl, B1.out⟩
theorem k'gv (L1 L2 : List (Bool × ByteArray)) (v1 v2 : Value) (e : Int) (w : World) (h1 : Rw w v1 L1) (h2 : Rw w v2 L2) (z1 : Small L1) (z2 : Small L2) (he : ckm L1 L2 = e) (h0 : e ≠ 0) :
 Calls Tryz.prog 27 #[v1, v2] w (ResE e w) := by
 have HV1 := i' (fun w' (hb : Below w.heap.size w w') => k'd6 L1 v1 w' (h1.below hb) z1)
 have HV2 := i' (fun w' (hb : Below w.heap.size w w') => k'd6 L2 v2 w' (h2.below hb) z2)
 have HD1 := i' (fun w' (hb : Below w.heap.size w w') => k'da L1 v1 w' (h1.below hb))
 have HD2 := i' (fun w' (hb : Below w.heap.size w w') => k'da L2 v2 w' (h2.below hb))
 have HG1 := i' (fun w' (hb : Below w.heap.size w w') => k'dc L1 v1 w' (h1.below hb) z1)
 have HG2 := i' (fun w' (hb : Below w.heap.size w w') => k'dc L2 v2 w' (h2.below hb) z2)
 have G1 := k'fb L1
 have G2 := k'fb L2
 have L1b := k'fc (L := L1)
 have L2b := k'fc (L := L2)
 unfold ckm at he
 obtain ⟨p1, b1, o1, c1, rfl, -, -, -, -⟩ := h1
 obtain ⟨p2, b2, o2, c2, rfl, -, -, -, -⟩ := h2
 clear z1 z2
 generalize vldP L1 = x1 at *
 generalize vldP L2 = x2 at *
 generalize glb L1 = g1 at *
 generalize glb L2 = g2 at *
 generalize L1.length = n1 at *
 generalize L2.length = n2 at *
 cases x1
 ·have HR : Hid (e = 2) := he.symm
  clear he L1b L2b
  go_enter Tryz.func27, Tryz.ntmps27
  go_wp2_with fail
  refine (HV1.out _ (Below.refl _ _)).mono ?_
  rintro e w1 ⟨rfl, b1⟩
  have B1 := i' (b1)
  clear b1
  go_wp2
  go_ret2
  exact ⟨by rw [HR.out]; rfl, B1.out⟩
 have hn1 := L1b rfl
 clear L1b
 cases x2
 ·have HR : Hid (e = 2) := he.symm
  clear he L2b
  go_enter Tryz.func27, Tryz.ntmps27
  go_wp2_with fail
  refine (HV1.out _ (Below.refl _ _)).mono ?_
  rintro e w1 ⟨rfl, b1⟩
  have B1 := i' (b1)
  clear b1
  go_wp2_with fail
  refine (HV2.out _ B1.out).mono ?_
  rintro e w2 ⟨rfl, b2⟩
  have B2 := i' (chain B1.out b2)
  clear b2
  go_wp2
  go_ret2
  exact ⟨by rw [HR.out]; rfl, B2.out⟩
 have hn2 := L2b rfl
 clear L2b
 rw [show (true && true) = true from rfl, if_pos rfl] at he
 by_cases hz : n1 = 0 ∨ n2 = 0
 ·rw [if_pos hz] at he
  exact absurd he.symm h0
 rw [if_neg hz] at he
 have hz1 : ((n1 : Int) == 0) = false := by simp; omega
 have hz2 : ((n2 : Int) == 0) = false := by simp; omega
 by_cases hd : (n1 : Int) - 1 + ((n2 : Int) - 1) > 24
 ·rw [if_pos (Or.inl hd)] at he
  have HR : Hid (e = 7) := he.symm
  obtain ⟨sd, hsd⟩ : ∃ sd : Int, (n1 : Int) - 1 + ((n2 : Int) - 1) = sd := ⟨_, rfl⟩
  have hs1 : 24 < sd ∧ sd ≤ 48 := by omega
  have hs2 : IntKind.i64.wrap sd = sd := IntWalk.i64_in _ (by omega)
  have hs3 : decide (24 < sd) = true := decide_eq_true hs1.1
  clear he hd hz
  go_enter Tryz.func27, Tryz.ntmps27
  go_wp2_with fail
  refine (HV1.out _ (Below.refl _ _)).mono ?_
  rintro e w1 ⟨rfl, b1⟩
  have B1 := i' (b1)
  clear b1
  go_wp2_with fail
  refine (HV2.out _ B1.out).mono ?_
  rintro e w2 ⟨rfl, b2⟩
  have B2 := i' (chain B1.out b2)
  clear b2
  go_wp2_with fail
  refine (HD1.out _ B2.out).mono ?_
  rintro e w3 ⟨rfl, b3⟩
  have B3 := i' (chain B2.out b3)
  clear b3
  go_wp2_with fail
  refine (HD2.out _ B3.out).mono ?_
  rintro e w4 ⟨rfl, b4⟩
  have B4 := i' (chain B3.out b4)
  clear b4
  go_wp2
  go_ret2
  exact ⟨by rw [HR.out]; rfl, B4.out⟩
 ·by_cases hb : g1 + g2 + 5 > 65536
  ·rw [if_pos (Or.inr hb)] at he
   have HR : Hid (e = 7) := he.symm
   have hs3 : decide (24 < (n1 : Int) - 1 + ((n2 : Int) - 1)) = false := by rw [decide_eq_false_iff_not]; omega
   have hs4 : decide (65536 < g1 + g2 + 5) = true := decide_eq_true hb
   clear he hz
   go_enter Tryz.func27, Tryz.ntmps27
   go_wp2_with fail
   refine (HV1.out _ (Below.refl _ _)).mono ?_
   rintro e w1 ⟨rfl, b1⟩
   have B1 := i' (b1)
   clear b1
   go_wp2_with fail
   refine (HV2.out _ B1.out).mono ?_
   rintro e w2 ⟨rfl, b2⟩
   have B2 := i' (chain B1.out b2)
   clear b2
   go_wp2_with fail
   refine (HD1.out _ B2.out).mono ?_
   rintro e w3 ⟨rfl, b3⟩
   have B3 := i' (chain B2.out b3)
   clear b3
   go_wp2_with fail
   refine (HD2.out _ B3.out).mono ?_
   rintro e w4 ⟨rfl, b4⟩
   have B4 := i' (chain B3.out b4)
   clear b4
   go_wp2_with fail
   refine (HG1.out _ B4.out).mono ?_
   rintro e w5 ⟨rfl, b5⟩
   have B5 := i' (chain B4.out b5)
   clear b5
   go_wp2_with fail
   refine (HG2.out _ B5.out).mono ?_
   rintro e w6 ⟨rfl, b6⟩
   have B6 := i' (chain B5.out b6)
   clear b6
   go_wp2
   go_ret2
   exact ⟨by rw [HR.out]; rfl, B6.out⟩
  ·rw [if_neg (by omega)] at he
   exact absurd he.symm h0
theorem k'gy (p q : List Int) (v1 v2 : Value) (w : World) (h1 : Rp w v1 p) (h2 : Rp w v2 q) (hp : VP p) (hq : VP q) (h : p = [] ∨ q = []) :
 Calls Tryz.prog 27 #[v1, v2] w (ResP [] w) := by
 have HV1 := i' (fun w' (hb : Below w.heap.size w w') => k'd9 p v1 w' (h1.below hb) hp)
 have HV2 := i' (fun w' (hb : Below w.heap.size w w') => k'd9 q v2 w' (h2.below hb) hq)
 have l1 := hp.len
 have l2 := hq.len
 have h' : p.length = 0 ∨ q.length = 0 := h.imp (fun e => by rw [e]; rfl) (fun e => by rw [e]; rfl)
 obtain ⟨p1, b1, o1, c1, rfl, -⟩ := h1.open_
 obtain ⟨p2, b2, o2, c2, rfl, -⟩ := h2.open_
 clear h h1 h2 hp hq
 generalize p.length = n1 at *
 generalize q.length = n2 at *
 rcases Nat.eq_zero_or_pos n1 with h0 | h0
 ·subst h0
  clear h'
  go_enter Tryz.func27, Tryz.ntmps27
  go_wp2_with fail
  refine (HV1.out _ (Below.refl _ _)).mono ?_
  rintro e w1 ⟨rfl, b1⟩
  have B1 := i' (b1)
  clear b1
  go_wp2_with fail
  refine (HV2.out _ B1.out).mono ?_
  rintro e w2 ⟨rfl, b2⟩
  have B2 := i' (chain B1.out b2)
  clear b2
  go_wp2
  go_ret2
  exact ⟨_, rfl, Rw.nil _, B2.out⟩
 ·obtain rfl : n2 = 0 := by omega
  have z1 : ((n1 : Int) == 0) = false := by simp; omega
  clear h'
  go_enter Tryz.func27, Tryz.ntmps27
  go_wp2_with fail
  refine (HV1.out _ (Below.refl _ _)).mono ?_
  rintro e w1 ⟨rfl, b1⟩
  have B1 := i' (b1)
  clear b1
  go_wp2_with fail
  refine (HV2.out _ B1.out).mono ?_
  rintro e w2 ⟨rfl, b2⟩
  have B2 := i' (chain B1.out b2)
  clear b2
  go_wp2
  go_ret2
  exact ⟨_, rfl, Rw.nil _, B2.out⟩
end Go.Proofs.YtepddegphdlbeaaGreat
namespace Go.Proofs.YtepddegphdlbeaaGreat
namespace Pl
theorem k'h0 (p q : List Int) (i m : Nat) : conv p q (i + 1 + m) i = conv p q (i + 1) i := by
 induction m with
 | zero => rfl
 | succ m ih => rw [show i + 1 + (m + 1) = (i + 1 + m) + 1 by omega, conv, ih, if_neg (by omega)]; omega
theorem conv_full (p q : List Int) (i : Nat) : conv p q (i + 1) i = cf (mul p q) i := by
 rw [cf_mul]
 rcases Nat.lt_or_ge p.length (i + 1) with h | h
 ·exact k'c7 p q (i + 1) i (by omega)
 ·rw [← k'h0 p q i (p.length - (i + 1)), show i + 1 + (p.length - (i + 1)) = p.length by omega]
end Pl
end Go.Proofs.YtepddegphdlbeaaGreat
namespace Go.Proofs.YtepddegphdlbeaaGreat
open Go.RowKit
theorem k'h6 (w : World) : Rz w (.slice none 0 0) 0 := by
 have h := Ri.nil w
 exact h
theorem k'h7 (p : List Int) (v : Value) (k : Nat) (w : World) (h : RP w v p) (hk : k ≤ 9223372036854775807) : Calls Tryz.prog 84 #[v, .int .i64 (k : Int)] w (IntPost (Pl.cf p k) w) := by
 have hlen := h.len
 obtain ⟨w0, hw0⟩ : ∃ w0 : World, w0 = w.alloc (.cells #[.bool false, .slice none 0 0] 52) := ⟨_, rfl⟩
 have hb0 : Hid (Below w.heap.size w w0) := by rw [hw0]; exact k'56 _ _
 have I2 : Hid (Bz w0 w.heap.size 0) := by rw [hw0]; exact Bz.made (k'h6 w)
 have Hw0 := i' hw0
 clear hw0
 obtain ⟨a, b, off, cap, rfl, -, -, h4, h5⟩ := h
 obtain ⟨n, hn⟩ : ∃ n, n = p.length := ⟨_, rfl⟩
 have hk0 : (0 : Int) ≤ (k : Int) := by omega
 obtain ⟨_, _, -, m0, m1, m2, m3⟩ := I2.out.open_
 by_cases hlt : k < p.length
 ·obtain ⟨u, g0, g1, g2⟩ := h5 k hlt
  obtain rfl := h4 (by intro e; rw [e] at hlt; exact absurd hlt (Nat.not_lt_zero _))
  rw [Pl.cf_lt hlt]
  have HG : Hid (Rz w0 u p[k]) := g2.below hb0.out
  have hkk : (k : Int) < (n : Int) := by omega
  have c0 := keep1 hb0.out g0
  have c1 := keep1 hb0.out g1
  rw [← hn] at hlen ⊢
  generalize p[k] = z at *
  clear h4 h5 g2 g0 g1 hlt hn
  obtain ⟨pu, bu, ou, cu, rfl, -⟩ := HG.out
  have HZ := i' (k'5c hb0.out (g := w.heap.size) (Nat.le_refl _) (.bool (decide (z < 0))) (.slice pu (Nm.dg D9 z.natAbs).length cu))
  have HR2 := i' (HG.out.stored I2.out (.bool (decide (z < 0))) (.slice pu (Nm.dg D9 z.natAbs).length cu))
  go_enter Tryz.func84, Tryz.ntmps84
  go_upto_region 1 with (fail)
  rw [← Hw0.out]
  go_wp2
  exact bodyPost_ret (v := .agg #[.bool (decide (z < 0)), .slice pu (Nm.dg D9 z.natAbs).length cu]) (by simp [results, Tryz.results84, go_sem, m0, m1]) rfl ⟨_, rfl, HR2.out, HZ.out⟩
 ·rw [Pl.cf_ge (by omega)]
  have hkk : (n : Int) ≤ (k : Int) := by omega
  rw [← hn] at hlen ⊢
  clear h4 h5 hlt hn
  have HZ := i' (k'5c hb0.out (g := w.heap.size) (Nat.le_refl _) (.bool false) (.slice none 0 0))
  have HR2 := i' ((k'h6 w0).stored I2.out (.bool false) (.slice none 0 0))
  go_enter Tryz.func84, Tryz.ntmps84
  go_upto_region 1 with (fail)
  rw [← Hw0.out]
  go_wp2
  exact bodyPost_ret (v := .agg #[.bool false, .slice none 0 0]) (by simp [results, Tryz.results84, go_sem, m0, m1]) rfl ⟨_, rfl, HR2.out, HZ.out⟩
theorem k'hs (f : Nat → Int) (n : Nat) : tab f n ++ [f n] = tab f (n + 1) := by simp [tab, List.range_succ]
theorem k'ht (f : Nat → Int) (n : Nat) : (tab f n).length = n := by simp [tab]
theorem k'hu (f : Nat → Int) (n k : Nat) : Pl.cf (tab f n) k = if k < n then f k else 0 := Pl.cf_map_range f n k
theorem k'hv (n : Nat) (hn : n ≤ 90000) (p q : List Int) (v1 v2 : Value) (w : World) (h1 : RP w v1 p) (h2 : RP w v2 q) (l1 : p.length ≤ 1000) (l2 : q.length ≤ 1000) (s1 : Sz n p) (s2 : Sz n q) :
 Calls Tryz.prog 29 #[v1, v2] w (RPPost (Pl.trim (Pl.add p q)) w) := by
 have HA1 := i' (fun k (hk : k ≤ 1000) w' (hb : Below w.heap.size w w') => k'h7 p v1 k w' (h1.below hb) (Nat.le_trans hk (by decide)))
 have HA2 := i' (fun k (hk : k ≤ 1000) w' (hb : Below w.heap.size w w') => k'h7 q v2 k w' (h2.below hb) (Nat.le_trans hk (by decide)))
 obtain ⟨f, hf⟩ : ∃ f : Nat → Int, f = fun k => Pl.cf p k + Pl.cf q k := ⟨_, rfl⟩
 have HS := i' (fun k u1 u2 w' g1 g2 => k'7c (Pl.cf p k) (Pl.cf q k) u1 u2 w' g1 g2 (Nat.le_trans (s1.len k) (by omega)) (Nat.le_trans (s2.len k) (by omega)))
 obtain ⟨a1, b1, o1, c1, rfl, -, -, -, -⟩ := h1
 obtain ⟨a2, b2, o2, c2, rfl, -, -, -, -⟩ := h2
 have HT : Hid (Pl.trim (tab f (max p.length q.length)) = Pl.trim (Pl.add p q)) := Pl.trim_ext fun k => by
  rw [k'hu, Pl.cf_add, hf]
  split
  ·rfl
  ·next h => rw [Pl.cf_ge (p := p) (by omega), Pl.cf_ge (p := q) (by omega)]; rfl
 have HF : ∀ k, Pl.cf p k + Pl.cf q k = f k := fun k => by rw [hf]
 simp only [HF] at HS
 clear s1 s2 hn HF hf
 obtain ⟨n1, hn1⟩ : ∃ n, n = p.length := ⟨_, rfl⟩
 obtain ⟨n2, hn2⟩ : ∃ n, n = q.length := ⟨_, rfl⟩
 rw [← hn1] at HT l1 HA1 ⊢
 rw [← hn2] at HT l2 HA2 ⊢
 generalize Pl.trim (Pl.add p q) = res at *
 clear hn1 hn2
 obtain ⟨N, hN⟩ : ∃ N, N = max n1 n2 := ⟨_, rfl⟩
 rw [← hN] at HT
 have HN := i' hN
 have hN1 : N ≤ 1000 := by omega
 clear hN
 go_enter Tryz.func29, Tryz.ntmps29
 go_wp2
 go_loopw [5, 6] (fun v iv wr => ∃ (wz : World) (k : Nat), wz = wr ∧ k ≤ N ∧ iv = .int .i64 (k : Int) ∧ Hid (RowP wz w.heap.size v (tab f k)) ∧ Hid (Below w.heap.size w wz))
  (fun _ iv _ => N - (intOf iv).toNat)
 case atStart => exact ⟨w, 0, rfl, Nat.zero_le _, rfl, RowP.nil _ _, Below.refl _ _⟩
 case round =>
  obtain ⟨wz, k, rfl, hk, rfl, hrow, hbl⟩ := hrel
  have hk0 : (0 : Int) ≤ (k : Int) := by omega
  by_cases hlt : k < N
  ·have hk2 : k ≤ 1000 := by omega
   have HS := i' (HS.out k)
   have HM := i' (k'hs f k)
   obtain ⟨x, hx⟩ : ∃ x, x = Pl.cf p k := ⟨_, rfl⟩
   obtain ⟨y, hy⟩ : ∃ y, y = Pl.cf q k := ⟨_, rfl⟩
   have HA1 := i' (HA1.out k hk2)
   have HA2 := i' (HA2.out k hk2)
   rw [← hx] at HA1 HS
   rw [← hy] at HA2 HS
   generalize f k = z at *
   clear hx hy
   have hcond : (k : Int) < (n1 : Int) ∨ ((n1 : Int) ≤ (k : Int) ∧ (k : Int) < (n2 : Int)) := by have := HN.out; omega
   rcases hcond with hc1 | ⟨hc1, hc2⟩
   all_goals
    go_wp2_with fail
    refine (HA1.out _ hbl.out).mono ?_
    rintro e w3 ⟨u1, rfl, r1, b1⟩
    have HB3 := i' (chain hbl.out b1)
    have HR1 := i' r1
    have HX3 := i' (hrow.out.below b1)
    clear r1 b1
    unfold iV
    go_wp2_with fail
    refine (HA2.out _ HB3.out).mono ?_
    rintro e w4 ⟨u2, rfl, r2, b2⟩
    have HB4 := i' (chain HB3.out b2)
    have HR2 := i' (And.intro (HR1.out.below b2) r2)
    have HX4 := i' (HX3.out.below b2)
    clear r2 b2
    unfold iV
    go_wp2_with fail
    refine (HS.out _ _ _ HR2.out.1 HR2.out.2).mono ?_
    rintro e w5 ⟨u, rfl, r5, b5⟩
    have HB5 := i' (chain HB4.out b5)
    have HR5 := i' r5
    have HX5 := i' (HX4.out.below b5)
    clear r5 b5
    unfold iV
    go_wp2_with (at_builtin; refine k'h5 rfl rfl _ _ rfl rfl rfl HX5.out HR5.out (by rw [k'ht]; omega) HB5.out ?_)
    intro v' w1 hrow1 hb1 _
    have HN1 := i' hrow1
    have HB1 := i' hb1
    rw [HM.out] at HN1
    clear hrow1 hb1
    go_wp2
    go_roundw
    case rel => exact ⟨_, k + 1, rfl, by omega, by go_num, HN1.out, HB1.out⟩
    case measure => simp [intOf]; omega
  ·obtain rfl : k = N := by omega
   have hNN := HN.out
   have hc1 : (n1 : Int) ≤ (k : Int) := by omega
   have hc2 : (n2 : Int) ≤ (k : Int) := by omega
   clear hNN
   go_wp2_with fail
   refine (k'dh _ _ _ hrow.out.rp).mono ?_
   rintro e w6 ⟨v6, rfl, r6, b6⟩
   have HR6 := i' r6
   rw [HT.out] at HR6
   have HB6 := i' (chain hbl.out b6)
   clear r6 b6
   go_wp2
   go_ret
   exact ⟨_, rfl, HR6.out, HB6.out⟩
theorem k'hw (n m : Nat) (hn : n ≤ 90000) (hm : m ≤ 90000) (p : List Int) (c : Int) (v u : Value) (w : World) (h : RP w v p) (hu : Rz w u c) (l : p.length ≤ 1000) (s : Sz n p) (sc : c.natAbs < D9 ^ m) :
 Calls Tryz.prog 36 #[v, iV c u] w (RPPost (Pl.trim (Pl.scl c p)) w) := by
 obtain ⟨w0, hw0⟩ : ∃ w0 : World, w0 = w.alloc (.cells #[.bool (decide (c < 0)), u] 52) := ⟨_, rfl⟩
 have hb0 : Hid (Below w.heap.size w w0) := by rw [hw0]; exact k'56 _ _
 have HBx : Hid (ZC (.bool (decide (c < 0))) u w0 w.heap.size) := by rw [hw0]; exact ZC.new rfl
 have HRu : Hid (Rz w0 u c) := hu.below hb0.out
 have HRP := i' (h.below hb0.out)
 obtain ⟨f, hf⟩ : ∃ f : Nat → Int, f = fun k => Pl.cf p k * c := ⟨_, rfl⟩
 have HM := i' (fun k u1 w' (g1 : Rz w' u1 (Pl.cf p k)) (hb : Below w0.heap.size w0 w') => k'7b (Pl.cf p k) c u1 u w' g1 (HRu.out.below hb) (Nat.le_trans (s.len k) (by omega)) (Nat.le_trans (len9 sc) (by omega)))
 have HT : Hid (Pl.trim (tab f p.length) = Pl.trim (Pl.scl c p)) := Pl.trim_ext fun k => by
  rw [k'hu, Pl.cf_scl, hf]
  split
  ·exact Int.mul_comm _ _
  ·next h => rw [Pl.cf_ge (p := p) (by omega)]; simp
 have HF : ∀ k, Pl.cf p k * c = f k := fun k => by rw [hf]
 simp only [HF] at HM
 have Hw0 := i' hw0
 clear hw0 HF hf s sc hn hm hu h
 obtain ⟨a1, b1, o1, c1, rfl, -, -, h4, h5⟩ := HRP.out
 have H4 := i' h4
 have H5 := i' h5
 obtain ⟨pu, bu, ou, cu, hup, -⟩ := HRu.out
 subst hup
 clear h4 h5 HRP
 obtain ⟨n1, hn1⟩ : ∃ n, n = p.length := ⟨_, rfl⟩
 rw [← hn1] at HT l ⊢
 have HN := i' hn1
 generalize Pl.trim (Pl.scl c p) = res at *
 obtain ⟨lu, hlu⟩ : ∃ lu, lu = (Nm.dg D9 c.natAbs).length := ⟨_, rfl⟩
 rw [← hlu] at HM HBx HRu Hw0 ⊢
 unfold iV at HM ⊢
 generalize decide (c < 0) = bc at *
 clear hn1 hlu
 go_enter Tryz.func36, Tryz.ntmps36
 go_upto_region 3 with (fail)
 rw [← Hw0.out]
 go_wp2
 go_loopw [5, 6] (fun v iv wr => ∃ (wz : World) (k : Nat), wz = wr ∧ k ≤ n1 ∧ iv = .int .i64 (k : Int) ∧ Hid (RowP wz w0.heap.size v (tab f k)) ∧ Hid (Below w0.heap.size w0 wz))
  (fun _ iv _ => n1 - (intOf iv).toNat)
 case atStart => exact ⟨w0, 0, rfl, Nat.zero_le _, rfl, RowP.nil _ _, Below.refl _ _⟩
 case round =>
  obtain ⟨wz, k, rfl, hk, rfl, hrow, hbl⟩ := hrel
  have hk0 : (0 : Int) ≤ (k : Int) := by omega
  by_cases hlt : k < n1
  ·have hkp : k < p.length := by have h5 : n1 = p.length := HN.out; omega
   have hkk : (k : Int) < (n1 : Int) := by omega
   obtain rfl := H4.out (by intro e; rw [e] at hkp; exact absurd hkp (Nat.not_lt_zero _))
   obtain ⟨uk, g0, g1, g2⟩ := H5.out k hkp
   rw [← Pl.cf_lt hkp] at g0 g2
   have HM := i' (fun w' (hb : Below w0.heap.size w0 w') => HM.out k uk w' (g2.below hb) hb)
   have HS := i' (k'hs f k)
   generalize Pl.cf p k = x at *
   generalize f k = z at *
   have G0 := i' (And.intro g0 g1)
   have c0 := keep1 hbl.out G0.out.1
   have c1 := keep1 hbl.out G0.out.2
   obtain ⟨c2, c3, -, -⟩ := HBx.out.next hbl.out
   obtain ⟨pk, bk, ok, ck, rfl, -⟩ := g2
   clear g0 g1
   go_upto_region 5 with (fail)
   go_region_held3 (fun W' => W'.cell? ⟨b1, o1 + k * 2, none⟩ = some (.bool (decide (x < 0))) ∧ W'.cell? ⟨b1, o1 + k * 2 + 1, none⟩ = some (.slice pk (Nm.dg D9 x.natAbs).length ck) ∧ W'.cell? ⟨w.heap.size, 0, none⟩ = some (.bool bc) ∧ W'.cell? ⟨w.heap.size, 1, none⟩ = some (.slice pu lu cu)) (go_keep)
    (first
     | (go_at_call 83; (with_reducible refine (HM.out _ ((hbl.out).drew)).mono ?_); rintro e w5 ⟨u5, rfl, r5, b5⟩; unfold iV; have d5 := chain (hbl.out.drew) b5; have p0 := keep1 d5 G0.out.1; have p1 := keep1 d5 G0.out.2; obtain ⟨p2, p3, _⟩ := HBx.out.next d5; have HR5 := i' r5; have HX5 := i' (hrow.out.below (chain ((Below.refl _ _).drew) b5)); have HB5 := i' d5; clear r5 b5 d5)
     | (rw [if_pos (by rfl)]; refine k'h4 rfl _ _ rfl rfl rfl HX5.out HR5.out (by rw [k'ht]; omega) HB5.out ?_; intro v' w1 hrow1 hb1 _; have p0 := keep1 hb1 G0.out.1; have p1 := keep1 hb1 G0.out.2; obtain ⟨p2, p3, _⟩ := HBx.out.next hb1; have HN1 := i' hrow1; have HB1 := i' hb1; clear hrow1 hb1)
     | fail)
   rw [HS.out] at HN1
   go_wp2
   go_roundw
   case rel => exact ⟨_, k + 1, rfl, by omega, by go_num, HN1.out, HB1.out⟩
   case measure => simp [intOf]; omega
  ·obtain rfl : k = n1 := by omega
   go_wp2_with fail
   refine (k'dh _ _ _ hrow.out.rp).mono ?_
   rintro e w6 ⟨v6, rfl, r6, b6⟩
   have HR6 := i' r6
   rw [HT.out] at HR6
   have HB6 := i' (chain hb0.out (chain hbl.out b6))
   clear r6 b6
   go_wp2
   go_ret
   exact ⟨_, rfl, HR6.out, HB6.out⟩
theorem k'hx (n : Nat) (hn : n ≤ 90000) (p : List Int) (v : Value) (w : World) (h : RP w v p) (l : p.length ≤ 1000) (s : Sz n p) :
 Calls Tryz.prog 85 #[v] w (RPPost (Pl.trim (Pl.scl (-1) p)) w) := by
 obtain ⟨m1, hm1⟩ : ∃ m1 : Int, m1 = -1 := ⟨_, rfl⟩
 have HN : Hid (∀ w, Calls Tryz.prog 74 #[.int .i64 (-1)] w (IntPost m1 w)) := fun w => by rw [hm1]; exact k'8f (-1) w (by decide) (by decide)
 have HS := i' (fun u w' (hu : Rz w' u m1) (hb : Below w.heap.size w w') => k'hw n 1 hn (by decide) p m1 v u w' (h.below hb) hu l s (by rw [hm1]; decide))
 rw [← hm1]
 clear hm1
 obtain ⟨a1, b1, o1, c1, rfl, -, -, -, -⟩ := h
 generalize Pl.trim (Pl.scl m1 p) = res at *
 unfold iV at HS
 unfold IntPost iV at HN
 generalize decide (m1 < 0) = bm at *
 go_enter Tryz.func85, Tryz.ntmps85
 go_wp2_with fail
 refine (HN.out _).mono ?_
 rintro e w3 ⟨u, rfl, r1, b1⟩
 have HB3 := i' b1
 have HR3 := i' r1
 clear r1 b1
 go_wp2_with fail
 refine (HS.out _ _ HR3.out HB3.out).mono ?_
 rintro e w4 ⟨v4, rfl, r4, b4⟩
 have HB4 := i' (chain HB3.out b4)
 have HR4 := i' r4
 clear r4 b4
 go_wp2
 go_ret
 exact ⟨_, rfl, HR4.out, HB4.out⟩
theorem k'hy (n : Nat) (hn : n ≤ 80000) (p q : List Int) (v1 v2 : Value) (w : World) (h1 : RP w v1 p) (h2 : RP w v2 q) (l1 : p.length ≤ 1000) (l2 : q.length ≤ 1000) (s1 : Sz n p) (s2 : Sz n q) :
 Calls Tryz.prog 30 #[v1, v2] w (RPPost (Pl.sub p q) w) := by
 have HN := i' (k'hx n (by omega) q v2 w h2 l2 s2)
 have HS := i' (fun u w' (hu : RP w' u (Pl.trim (Pl.scl (-1) q))) (hb : Below w.heap.size w w') => k'hv n (by omega) p _ v1 u w' (h1.below hb) hu l1 (Nat.le_trans (Pl.trim_length _) (by rw [Pl.scl_length]; exact l2)) s1 s2.neg.trim)
 have HE : Hid (Pl.trim (Pl.add p (Pl.trim (Pl.scl (-1) q))) = Pl.sub p q) := Pl.trim_ext fun k => by rw [Pl.cf_add, Pl.cf_add, Pl.cf_trim]
 rw [HE.out] at HS
 obtain ⟨a1, b1, o1, c1, rfl, -, -, -, -⟩ := h1
 obtain ⟨a2, b2, o2, c2, rfl, -, -, -, -⟩ := h2
 generalize Pl.sub p q = res at *
 generalize Pl.trim (Pl.scl (-1) q) = nq at *
 clear s1 s2 l1 l2 hn HE
 go_enter Tryz.func30, Tryz.ntmps30
 go_wp2_with fail
 refine HN.out.mono ?_
 rintro e w3 ⟨u, rfl, r1, b1⟩
 have HB3 := i' b1
 have HR3 := i' r1
 clear r1 b1
 go_wp2_with fail
 refine (HS.out _ _ HR3.out HB3.out).mono ?_
 rintro e w4 ⟨v4, rfl, r4, b4⟩
 have HB4 := i' (chain HB3.out b4)
 have HR4 := i' r4
 clear r4 b4
 go_wp2
 go_ret
 exact ⟨_, rfl, HR4.out, HB4.out⟩
theorem k'hz (p : List Int) (v : Value) (d : Int) (w : World) (h : RP w v p) (h0 : 0 ≤ d) (hk : d ≤ 9223372036854775807) : Calls Tryz.prog 84 #[v, .int .i64 d] w (IntPost (Pl.cf p d.toNat) w) := by
 have := k'h7 p v d.toNat w h (by omega)
 rwa [Int.toNat_of_nonneg h0] at this
theorem k'i2 (n m : Nat) (hn : n + m ≤ 90000) (p q : List Int) (v1 v2 : Value) (w : World) (h1 : RP w v1 p) (h2 : RP w v2 q) (l1 : p.length ≤ 1000) (l2 : q.length ≤ 1000) (s1 : Sz n p) (s2 : Sz m q) :
 Calls Tryz.prog 28 #[v1, v2] w (RPPost (Pl.trim (Pl.mul p q)) w) := by
 have HA1 := i' (fun (d : Int) (h0 : 0 ≤ d) (hk : d ≤ 9223372036854775807) w' (hb : Below w.heap.size w w') => k'hz p v1 d w' (h1.below hb) h0 hk)
 have HA2 := i' (fun (d : Int) (h0 : 0 ≤ d) (hk : d ≤ 9223372036854775807) w' (hb : Below w.heap.size w w') => k'hz q v2 d w' (h2.below hb) h0 hk)
 obtain ⟨f, hf⟩ : ∃ f : Nat → Int, f = fun i => Pl.cf (Pl.mul p q) i := ⟨_, rfl⟩
 have HM := i' (fun j i u1 u2 w' (g1 : Rz w' u1 (Pl.cf p j)) (g2 : Rz w' u2 (Pl.cf q i)) => k'7b (Pl.cf p j) (Pl.cf q i) u1 u2 w' g1 g2 (Nat.le_trans (s1.len j) (by omega)) (Nat.le_trans (s2.len i) (by omega)))
 have HS := i' (fun j i (hj : j ≤ 10000) (hji : j ≤ i) u1 u2 w' (g1 : Rz w' u1 (Pl.conv p q j i)) (g2 : Rz w' u2 (Pl.cf p j * Pl.cf q (i - j))) => show Calls Tryz.prog 82 #[iV (Pl.conv p q j i) u1, iV (Pl.cf p j * Pl.cf q (i - j)) u2] w' (IntPost (Pl.conv p q (j + 1) i) w') by
  have := k'7c _ _ u1 u2 w' g1 g2 (Nat.le_trans (len9 (k'i1 s1 s2 j i (by omega))) (by omega)) (Nat.le_trans (len9 (by rw [Int.natAbs_mul]; exact mulD9 (s1 j) (s2 (i - j)))) (by omega))
  rw [Pl.conv, if_pos hji]
  exact this)
 have HE := i' (fun i => show Pl.conv p q (i + 1) i = f i by rw [hf]; exact Pl.conv_full p q i)
 have HT : Hid (¬ p = [] → ¬ q = [] → Pl.trim (tab f (p.length + q.length - 1)) = Pl.trim (Pl.mul p q)) := fun hp hq => Pl.trim_ext fun k => by
  rw [k'hu, hf]
  split
  ·rfl
  ·next h => rw [Pl.cf_ge (p := Pl.mul p q) (by rw [Pl.mul_length p q hp hq]; omega)]
 have HNil : Hid (p = [] ∨ q = [] → Pl.trim (Pl.mul p q) = []) := by
  rintro (h | h)
  ·subst h; rfl
  ·subst h; exact Pl.mul_nil p
 obtain ⟨a1, b1, o1, c1, rfl, -, -, -, -⟩ := h1
 obtain ⟨a2, b2, o2, c2, rfl, -, -, -, -⟩ := h2
 have HNil2 : Hid (p.length = 0 ∨ q.length = 0 → Pl.trim (Pl.mul p q) = []) := fun h => HNil.out (h.imp List.eq_nil_of_length_eq_zero List.eq_nil_of_length_eq_zero)
 have HT2 : Hid (¬ p.length = 0 → ¬ q.length = 0 → Pl.trim (tab f (p.length + q.length - 1)) = Pl.trim (Pl.mul p q)) := fun h k => HT.out (fun e => h (by rw [e]; rfl)) (fun e => k (by rw [e]; rfl))
 generalize Pl.trim (Pl.mul p q) = res at *
 clear s1 s2 hn hf HNil HT
 obtain ⟨n1, hn1⟩ : ∃ n, n = p.length := ⟨_, rfl⟩
 obtain ⟨n2, hn2⟩ : ∃ n, n = q.length := ⟨_, rfl⟩
 rw [← hn1] at HA1 HNil2 HT2 l1 ⊢
 rw [← hn2] at HA2 HNil2 HT2 l2 ⊢
 clear hn1 hn2
 obtain ⟨N, hN⟩ : ∃ N, N = n1 + n2 - 1 := ⟨_, rfl⟩
 rw [← hN] at HT2
 have HNN := i' hN
 have hN1 : N ≤ 2000 := by omega
 clear hN
 go_enter Tryz.func28, Tryz.ntmps28
 go_wp2
 go_loopw [5, 6] (fun v iv wr => ∃ (wz : World) (k : Nat), wz = wr ∧ k ≤ N ∧ iv = .int .i64 (k : Int) ∧ Hid (RowP wz w.heap.size v (tab f k)) ∧ Hid (Below w.heap.size w wz))
  (fun _ iv _ => N - (intOf iv).toNat)
 case atStart => exact ⟨w, 0, rfl, Nat.zero_le _, rfl, RowP.nil _ _, Below.refl _ _⟩
 case round =>
  obtain ⟨wz, i, rfl, hi, rfl, hrow, hbl⟩ := hrel
  have hi0 : (0 : Int) ≤ (i : Int) := by omega
  by_cases hlt : i < N
  ·have hii : (i : Int) < (n1 : Int) + (n2 : Int) - 1 := by have := HNN.out; omega
   have HS := i' (fun j (hj : j ≤ i) => HS.out j i (by omega) hj)
   have HE := i' (HE.out i)
   obtain ⟨g, hg⟩ : ∃ g : Nat → Int, g = fun j => Pl.conv p q j i := ⟨_, rfl⟩
   have HG : ∀ j, Pl.conv p q j i = g j := fun j => by rw [hg]
   simp only [HG] at HS HE
   have G0 : Hid (g 0 = 0) := by show _ = _; rw [hg]; rfl
   obtain ⟨u0, hu0⟩ : ∃ u0 : World, u0 = wz.alloc (.cells #[.bool false, .slice none 0 0] 52) := ⟨_, rfl⟩
   have T0 : Hid (Bz u0 wz.heap.size (g 0)) := by show Bz _ _ _; rw [hu0, G0.out]; exact Bz.made (k'h6 wz)
   have D0 : Hid (Below wz.heap.size wz u0) := by rw [hu0]; exact k'56 _ _
   have Hu0 := i' hu0
   clear hu0 HG hg G0
   go_upto_region 6 with (fail)
   rw [← Hu0.out]
   clear Hu0
   go_wp2
   go_loopw [8] (fun jv wq => ∃ (wy : World) (j : Nat), wy = wq ∧ j ≤ i + 1 ∧ jv = .int .i64 (j : Int) ∧ Hid (Bz wy wz.heap.size (g j)) ∧ Hid (Below wz.heap.size wz wy))
    (fun jv _ => i + 1 - (intOf jv).toNat)
   case atStart => exact ⟨u0, 0, rfl, Nat.zero_le _, rfl, T0.out, D0.out⟩
   case round =>
    clear T0 D0
    obtain ⟨wy, j, rfl, hj, rfl, ht, hd⟩ := hrel
    have hj0 : (0 : Int) ≤ (j : Int) := by omega
    obtain ⟨pz, cz, R, k0, k1, k2, k3⟩ := ht.out.open_
    by_cases hle : j ≤ i
    ·have hji : (j : Int) ≤ (i : Int) := by omega
     have ZB : Hid (ZC (.bool (decide (g j < 0))) (.slice pz (Nm.dg D9 (g j).natAbs).length cz) wy.drew wz.heap.size) := ⟨k0, k1, k2, k3⟩
     have RB : Hid (Rz wy.drew (.slice pz (Nm.dg D9 (g j).natAbs).length cz) (g j)) := R.drew
     have D : Hid (Below wy.heap.size wy wy.drew) := (Below.refl _ _).drew
     have HB := i' (chain hbl.out hd.out)
     have HA1 := i' (fun w' (hb : Below wy.heap.size wy w') => HA1.out (j : Int) hj0 (by omega) w' (chain HB.out hb))
     have HA2 := i' (fun w' (hb : Below wy.heap.size wy w') => HA2.out ((i : Int) - (j : Int)) (by omega) (by omega) w' (chain HB.out hb))
     have HM := i' (HM.out j (i - j))
     have HS := i' (HS.out j hle)
     have hw : IntKind.i64.wrap ((i : Int) - (j : Int)) = (i : Int) - (j : Int) := IntWalk.i64_in _ (by omega)
     rw [show ((j : Int)).toNat = j by omega] at HA1
     rw [show ((i : Int) - (j : Int)).toNat = i - j by omega] at HA2
     generalize Pl.cf p j = x at *
     generalize Pl.cf q (i - j) = y0 at *
     generalize x * y0 = xy at *
     unfold iV at HM HS
     clear R
     go_upto_region 9 with (fail)
     refine wp_region_noPanic ?_
     refine wp_region_held_drew (S := (fun _ => True)) (by kernel_rfl) ?_ (fun hHeld => ?_)
     ·trivial
     refine wpAnyH_take (i := 1) (oi := ?oi1) (v := ?v1) ?hi1 (by kernel_rfl) (by kernel_rfl) (by kernel_rfl) (fun _ _ _ h => h) (Or.inl ⟨?hw1, ?hy1⟩) (by assumption) ?rest1
     case hi1 => simp only [List.getElem?_toArray, List.getElem?_cons_succ, List.getElem?_cons_zero]; rfl
     case hw1 => rfl
     case hy1 =>
      intro w hSw
      (try dsimp only at hSw)
      go_simp
      (try with_reducible rfl)
     (try simp only [Act.put, List.setIfInBounds_toArray, List.set_cons_zero, List.set_cons_succ])
     refine wpAnyH_take (i := 2) (oi := ?oi2) (v := ?v2) ?hi2 (by kernel_rfl) (by kernel_rfl) (by kernel_rfl) (fun _ _ _ h => h) (Or.inl ⟨?hw2, ?hy2⟩) (by assumption) ?rest2
     case hi2 => simp only [List.getElem?_toArray, List.getElem?_cons_succ, List.getElem?_cons_zero]; rfl
     case hw2 => rfl
     case hy2 =>
      intro w hSw
      (try dsimp only at hSw)
      go_simp
      (try with_reducible rfl)
     (try simp only [Act.put, List.setIfInBounds_toArray, List.set_cons_zero, List.set_cons_succ])
     refine wpAnyH_take (i := 4) (oi := ?oi3) (v := ?v3) ?hi3 (by kernel_rfl) (by kernel_rfl) (by kernel_rfl) (fun _ _ _ h => h) (Or.inl ⟨?hw3, ?hy3⟩) (by assumption) ?rest3
     case hi3 => simp only [List.getElem?_toArray, List.getElem?_cons_succ, List.getElem?_cons_zero]; rfl
     case hw3 => rfl
     case hy3 =>
      intro w hSw
      (try dsimp only at hSw)
      go_simp
      (try with_reducible rfl)
     (try simp only [Act.put, List.setIfInBounds_toArray, List.set_cons_zero, List.set_cons_succ])
     refine wpAnyH_take (i := 5) (oi := ?oi4) (v := ?v4) ?hi4 (by kernel_rfl) (by kernel_rfl) (by kernel_rfl) (fun _ _ _ h => h) (Or.inl ⟨?hw4, ?hy4⟩) (by assumption) ?rest4
     case hi4 => simp only [List.getElem?_toArray, List.getElem?_cons_succ, List.getElem?_cons_zero]; rfl
     case hw4 => rfl
     case hy4 =>
      intro w hSw
      (try dsimp only at hSw)
      go_simp
      (try with_reducible rfl)
     (try simp only [Act.put, List.setIfInBounds_toArray, List.set_cons_zero, List.set_cons_succ])
     refine wpAnyH_take (i := 6) (oi := ?oi5) (v := ?v5) ?hi5 (by kernel_rfl) (by kernel_rfl) (by kernel_rfl) (fun _ _ _ h => h) (Or.inl ⟨?hw5, ?hy5⟩) (by assumption) ?rest5
     case hi5 => simp only [List.getElem?_toArray, List.getElem?_cons_succ, List.getElem?_cons_zero]; rfl
     case hw5 => rfl
     case hy5 =>
      intro w hSw
      (try dsimp only at hSw)
      go_simp
      (try with_reducible rfl)
     (try simp only [Act.put, List.setIfInBounds_toArray, List.set_cons_zero, List.set_cons_succ])
     refine wpAnyH_take (i := 7) (oi := ?oi6) (v := ?v6) ?hi6 (by kernel_rfl) (by kernel_rfl) (by kernel_rfl) (fun _ _ _ h => h) (Or.inl ⟨?hw6, ?hy6⟩) (by assumption) ?rest6
     case hi6 => simp only [List.getElem?_toArray, List.getElem?_cons_succ, List.getElem?_cons_zero]; rfl
     case hw6 => rfl
     case hy6 =>
      intro w hSw
      (try dsimp only at hSw)
      go_simp
      (try with_reducible rfl)
     (try simp only [Act.put, List.setIfInBounds_toArray, List.set_cons_zero, List.set_cons_succ])
     refine wpAnyH_ready (rs := [0, 3]) (by kernel_rfl) (by simp) ?_
     refine AllReadyH.cons (o := ?oi26) ?hi26 ?rest26 (AllReadyH.cons (o := ?oi27) ?hi27 ?rest27 AllReadyH.nil)
     case hi26 => simp only [List.getElem?_toArray, List.getElem?_cons_succ, List.getElem?_cons_zero]; rfl
     case hi27 => simp only [List.getElem?_toArray, List.getElem?_cons_succ, List.getElem?_cons_zero]; rfl
     case rest26 =>
      intro K hK
      go_simp
      refine hK.out _ _ ?_ (fun hHeld => ?_)
      ·trivial
      clear hK K
      (try simp only [Act.put, List.setIfInBounds_toArray, List.set_cons_zero, List.set_cons_succ])
      refine wpAnyH_ready (rs := [3]) (by kernel_rfl) (by simp) ?_
      refine AllReadyH.cons (o := ?oi11) ?hi11 ?rest11 AllReadyH.nil
      case hi11 => simp only [List.getElem?_toArray, List.getElem?_cons_succ, List.getElem?_cons_zero]; rfl
      intro K hK
      go_simp
      (with_reducible refine (HA1.out _ D.out).mono ?_)
      rintro e y ⟨u1, rfl, r1, b1⟩
      have R1 := i' r1
      have D := i' (chain D.out b1)
      have ZB := i' (ZB.out.next b1)
      have RB := i' (RB.out.below b1)
      clear k0 k1 k2 k3
      obtain ⟨k0, k1, k2, k3⟩ := ZB.out
      clear r1 b1
      unfold iV
      (try go_wp2_with fail)
      refine hK.out _ _ ?_ (fun hHeld => ?_)
      ·trivial
      clear hK K
      (try simp only [Act.put, List.setIfInBounds_toArray, List.set_cons_zero, List.set_cons_succ])
      refine wpAnyH_ready (rs := [8]) (by kernel_rfl) (by simp) ?_
      refine AllReadyH.cons (o := ?oi10) ?hi10 ?rest10 AllReadyH.nil
      case hi10 => simp only [List.getElem?_toArray, List.getElem?_cons_succ, List.getElem?_cons_zero]; rfl
      intro K hK
      go_simp
      (with_reducible refine (HA2.out _ D.out).mono ?_)
      rintro e y ⟨u2, rfl, r2, b2⟩
      have R1 := i' (R1.out.below b2)
      have R2 := i' r2
      have D := i' (chain D.out b2)
      have ZB := i' (ZB.out.next b2)
      have RB := i' (RB.out.below b2)
      clear k0 k1 k2 k3
      obtain ⟨k0, k1, k2, k3⟩ := ZB.out
      clear r2 b2
      unfold iV
      (try go_wp2_with fail)
      refine hK.out _ _ ?_ (fun hHeld => ?_)
      ·trivial
      clear hK K
      (try simp only [Act.put, List.setIfInBounds_toArray, List.set_cons_zero, List.set_cons_succ])
      refine wpAnyH_ready (rs := [9]) (by kernel_rfl) (by simp) ?_
      refine AllReadyH.cons (o := ?oi9) ?hi9 ?rest9 AllReadyH.nil
      case hi9 => simp only [List.getElem?_toArray, List.getElem?_cons_succ, List.getElem?_cons_zero]; rfl
      intro K hK
      go_simp
      (with_reducible refine (HM.out _ _ _ R1.out R2.out).mono ?_)
      rintro e y ⟨u3, rfl, r3, b3⟩
      have R3 := i' r3
      have D := i' (chain D.out b3)
      have ZB := i' (ZB.out.next b3)
      have RB := i' (RB.out.below b3)
      clear k0 k1 k2 k3
      obtain ⟨k0, k1, k2, k3⟩ := ZB.out
      clear r3 b3
      unfold iV
      (try go_wp2_with fail)
      refine hK.out _ _ ?_ (fun hHeld => ?_)
      ·trivial
      clear hK K
      (try simp only [Act.put, List.setIfInBounds_toArray, List.set_cons_zero, List.set_cons_succ])
      refine wpAnyH_ready (rs := [10]) (by kernel_rfl) (by simp) ?_
      refine AllReadyH.cons (o := ?oi8) ?hi8 ?rest8 AllReadyH.nil
      case hi8 => simp only [List.getElem?_toArray, List.getElem?_cons_succ, List.getElem?_cons_zero]; rfl
      intro K hK
      go_simp
      (with_reducible refine (HS.out _ _ _ RB.out R3.out).mono ?_)
      rintro e y ⟨u4, rfl, r4, b4⟩
      have D := i' (chain D.out b4)
      have ZB := i' (ZB.out.next b4)
      have RB := i' (RB.out.below b4)
      clear k0 k1 k2 k3
      obtain ⟨k0, k1, k2, k3⟩ := ZB.out
      unfold iV
      obtain ⟨p4, bb4, o4, c4, rfl, rr4⟩ := r4
      have R4 : Hid (Rz y (.slice p4 (Nm.dg D9 (g (j + 1)).natAbs).length c4) (g (j + 1))) := ⟨p4, bb4, o4, c4, rfl, rr4⟩
      clear b4 rr4
      (try go_wp2_with fail)
      refine hK.out _ _ ?_ (fun hHeld => ?_)
      ·trivial
      clear hK K
      (try simp only [Act.put, List.setIfInBounds_toArray, List.set_cons_zero, List.set_cons_succ])
      refine wpAnyH_ready (rs := [11]) (by kernel_rfl) (by simp) ?_
      refine AllReadyH.cons (o := ?oi7) ?hi7 ?rest7 AllReadyH.nil
      case hi7 => simp only [List.getElem?_toArray, List.getElem?_cons_succ, List.getElem?_cons_zero]; rfl
      intro K hK
      go_simp
      refine hK.out _ _ ?_ (fun hHeld => ?_)
      ·trivial
      clear hK K
      (try simp only [Act.put, List.setIfInBounds_toArray, List.set_cons_zero, List.set_cons_succ])
      refine wpAnyH_done (by kernel_rfl) ?_ _
      refine NoPanic.normal ?_
      (try dsimp only [Exit.then])
      have TT := i' (Bz.store ⟨_, RB.out, ZB.out⟩ R4.out)
      have CC := i' (k'5c (chain hd.out D.out) (g := wz.heap.size) (Nat.le_refl _) (.bool (decide (g (j + 1) < 0))) (.slice p4 (Nm.dg D9 (g (j + 1)).natAbs).length c4))
      go_wp2
      go_roundw
      case rel => exact ⟨_, j + 1, rfl, by omega, by go_num, TT.out, CC.out⟩
      case measure => simp [intOf]; omega
     case rest27 =>
      intro K hK
      go_simp
      (with_reducible refine (HA1.out _ D.out).mono ?_)
      rintro e y ⟨u1, rfl, r1, b1⟩
      have R1 := i' r1
      have D := i' (chain D.out b1)
      have ZB := i' (ZB.out.next b1)
      have RB := i' (RB.out.below b1)
      clear k0 k1 k2 k3
      obtain ⟨k0, k1, k2, k3⟩ := ZB.out
      clear r1 b1
      unfold iV
      (try go_wp2_with fail)
      refine hK.out _ _ ?_ (fun hHeld => ?_)
      ·trivial
      clear hK K
      (try simp only [Act.put, List.setIfInBounds_toArray, List.set_cons_zero, List.set_cons_succ])
      refine wpAnyH_ready (rs := [0, 8]) (by kernel_rfl) (by simp) ?_
      refine AllReadyH.cons (o := ?oi24) ?hi24 ?rest24 (AllReadyH.cons (o := ?oi25) ?hi25 ?rest25 AllReadyH.nil)
      case hi24 => simp only [List.getElem?_toArray, List.getElem?_cons_succ, List.getElem?_cons_zero]; rfl
      case hi25 => simp only [List.getElem?_toArray, List.getElem?_cons_succ, List.getElem?_cons_zero]; rfl
      case rest24 =>
       intro K hK
       go_simp
       refine hK.out _ _ ?_ (fun hHeld => ?_)
       ·trivial
       clear hK K
       (try simp only [Act.put, List.setIfInBounds_toArray, List.set_cons_zero, List.set_cons_succ])
       refine wpAnyH_ready (rs := [8]) (by kernel_rfl) (by simp) ?_
       refine AllReadyH.cons (o := ?oi15) ?hi15 ?rest15 AllReadyH.nil
       case hi15 => simp only [List.getElem?_toArray, List.getElem?_cons_succ, List.getElem?_cons_zero]; rfl
       intro K hK
       go_simp
       (with_reducible refine (HA2.out _ D.out).mono ?_)
       rintro e y ⟨u2, rfl, r2, b2⟩
       have R1 := i' (R1.out.below b2)
       have R2 := i' r2
       have D := i' (chain D.out b2)
       have ZB := i' (ZB.out.next b2)
       have RB := i' (RB.out.below b2)
       clear k0 k1 k2 k3
       obtain ⟨k0, k1, k2, k3⟩ := ZB.out
       clear r2 b2
       unfold iV
       (try go_wp2_with fail)
       refine hK.out _ _ ?_ (fun hHeld => ?_)
       ·trivial
       clear hK K
       (try simp only [Act.put, List.setIfInBounds_toArray, List.set_cons_zero, List.set_cons_succ])
       refine wpAnyH_ready (rs := [9]) (by kernel_rfl) (by simp) ?_
       refine AllReadyH.cons (o := ?oi14) ?hi14 ?rest14 AllReadyH.nil
       case hi14 => simp only [List.getElem?_toArray, List.getElem?_cons_succ, List.getElem?_cons_zero]; rfl
       intro K hK
       go_simp
       (with_reducible refine (HM.out _ _ _ R1.out R2.out).mono ?_)
       rintro e y ⟨u3, rfl, r3, b3⟩
       have R3 := i' r3
       have D := i' (chain D.out b3)
       have ZB := i' (ZB.out.next b3)
       have RB := i' (RB.out.below b3)
       clear k0 k1 k2 k3
       obtain ⟨k0, k1, k2, k3⟩ := ZB.out
       clear r3 b3
       unfold iV
       (try go_wp2_with fail)
       refine hK.out _ _ ?_ (fun hHeld => ?_)
       ·trivial
       clear hK K
       (try simp only [Act.put, List.setIfInBounds_toArray, List.set_cons_zero, List.set_cons_succ])
       refine wpAnyH_ready (rs := [10]) (by kernel_rfl) (by simp) ?_
       refine AllReadyH.cons (o := ?oi13) ?hi13 ?rest13 AllReadyH.nil
       case hi13 => simp only [List.getElem?_toArray, List.getElem?_cons_succ, List.getElem?_cons_zero]; rfl
       intro K hK
       go_simp
       (with_reducible refine (HS.out _ _ _ RB.out R3.out).mono ?_)
       rintro e y ⟨u4, rfl, r4, b4⟩
       have D := i' (chain D.out b4)
       have ZB := i' (ZB.out.next b4)
       have RB := i' (RB.out.below b4)
       clear k0 k1 k2 k3
       obtain ⟨k0, k1, k2, k3⟩ := ZB.out
       unfold iV
       obtain ⟨p4, bb4, o4, c4, rfl, rr4⟩ := r4
       have R4 : Hid (Rz y (.slice p4 (Nm.dg D9 (g (j + 1)).natAbs).length c4) (g (j + 1))) := ⟨p4, bb4, o4, c4, rfl, rr4⟩
       clear b4 rr4
       (try go_wp2_with fail)
       refine hK.out _ _ ?_ (fun hHeld => ?_)
       ·trivial
       clear hK K
       (try simp only [Act.put, List.setIfInBounds_toArray, List.set_cons_zero, List.set_cons_succ])
       refine wpAnyH_ready (rs := [11]) (by kernel_rfl) (by simp) ?_
       refine AllReadyH.cons (o := ?oi12) ?hi12 ?rest12 AllReadyH.nil
       case hi12 => simp only [List.getElem?_toArray, List.getElem?_cons_succ, List.getElem?_cons_zero]; rfl
       intro K hK
       go_simp
       refine hK.out _ _ ?_ (fun hHeld => ?_)
       ·trivial
       clear hK K
       (try simp only [Act.put, List.setIfInBounds_toArray, List.set_cons_zero, List.set_cons_succ])
       refine wpAnyH_done (by kernel_rfl) ?_ _
       refine NoPanic.normal ?_
       (try dsimp only [Exit.then])
       have TT := i' (Bz.store ⟨_, RB.out, ZB.out⟩ R4.out)
       have CC := i' (k'5c (chain hd.out D.out) (g := wz.heap.size) (Nat.le_refl _) (.bool (decide (g (j + 1) < 0))) (.slice p4 (Nm.dg D9 (g (j + 1)).natAbs).length c4))
       go_wp2
       go_roundw
       case rel => exact ⟨_, j + 1, rfl, by omega, by go_num, TT.out, CC.out⟩
       case measure => simp [intOf]; omega
      case rest25 =>
       intro K hK
       go_simp
       (with_reducible refine (HA2.out _ D.out).mono ?_)
       rintro e y ⟨u2, rfl, r2, b2⟩
       have R1 := i' (R1.out.below b2)
       have R2 := i' r2
       have D := i' (chain D.out b2)
       have ZB := i' (ZB.out.next b2)
       have RB := i' (RB.out.below b2)
       clear k0 k1 k2 k3
       obtain ⟨k0, k1, k2, k3⟩ := ZB.out
       clear r2 b2
       unfold iV
       (try go_wp2_with fail)
       refine hK.out _ _ ?_ (fun hHeld => ?_)
       ·trivial
       clear hK K
       (try simp only [Act.put, List.setIfInBounds_toArray, List.set_cons_zero, List.set_cons_succ])
       refine wpAnyH_ready (rs := [0, 9]) (by kernel_rfl) (by simp) ?_
       refine AllReadyH.cons (o := ?oi22) ?hi22 ?rest22 (AllReadyH.cons (o := ?oi23) ?hi23 ?rest23 AllReadyH.nil)
       case hi22 => simp only [List.getElem?_toArray, List.getElem?_cons_succ, List.getElem?_cons_zero]; rfl
       case hi23 => simp only [List.getElem?_toArray, List.getElem?_cons_succ, List.getElem?_cons_zero]; rfl
       case rest22 =>
        intro K hK
        go_simp
        refine hK.out _ _ ?_ (fun hHeld => ?_)
        ·trivial
        clear hK K
        (try simp only [Act.put, List.setIfInBounds_toArray, List.set_cons_zero, List.set_cons_succ])
        refine wpAnyH_ready (rs := [9]) (by kernel_rfl) (by simp) ?_
        refine AllReadyH.cons (o := ?oi18) ?hi18 ?rest18 AllReadyH.nil
        case hi18 => simp only [List.getElem?_toArray, List.getElem?_cons_succ, List.getElem?_cons_zero]; rfl
        intro K hK
        go_simp
        (with_reducible refine (HM.out _ _ _ R1.out R2.out).mono ?_)
        rintro e y ⟨u3, rfl, r3, b3⟩
        have R3 := i' r3
        have D := i' (chain D.out b3)
        have ZB := i' (ZB.out.next b3)
        have RB := i' (RB.out.below b3)
        clear k0 k1 k2 k3
        obtain ⟨k0, k1, k2, k3⟩ := ZB.out
        clear r3 b3
        unfold iV
        (try go_wp2_with fail)
        refine hK.out _ _ ?_ (fun hHeld => ?_)
        ·trivial
        clear hK K
        (try simp only [Act.put, List.setIfInBounds_toArray, List.set_cons_zero, List.set_cons_succ])
        refine wpAnyH_ready (rs := [10]) (by kernel_rfl) (by simp) ?_
        refine AllReadyH.cons (o := ?oi17) ?hi17 ?rest17 AllReadyH.nil
        case hi17 => simp only [List.getElem?_toArray, List.getElem?_cons_succ, List.getElem?_cons_zero]; rfl
        intro K hK
        go_simp
        (with_reducible refine (HS.out _ _ _ RB.out R3.out).mono ?_)
        rintro e y ⟨u4, rfl, r4, b4⟩
        have D := i' (chain D.out b4)
        have ZB := i' (ZB.out.next b4)
        have RB := i' (RB.out.below b4)
        clear k0 k1 k2 k3
        obtain ⟨k0, k1, k2, k3⟩ := ZB.out
        unfold iV
        obtain ⟨p4, bb4, o4, c4, rfl, rr4⟩ := r4
        have R4 : Hid (Rz y (.slice p4 (Nm.dg D9 (g (j + 1)).natAbs).length c4) (g (j + 1))) := ⟨p4, bb4, o4, c4, rfl, rr4⟩
        clear b4 rr4
        (try go_wp2_with fail)
        refine hK.out _ _ ?_ (fun hHeld => ?_)
        ·trivial
        clear hK K
        (try simp only [Act.put, List.setIfInBounds_toArray, List.set_cons_zero, List.set_cons_succ])
        refine wpAnyH_ready (rs := [11]) (by kernel_rfl) (by simp) ?_
        refine AllReadyH.cons (o := ?oi16) ?hi16 ?rest16 AllReadyH.nil
        case hi16 => simp only [List.getElem?_toArray, List.getElem?_cons_succ, List.getElem?_cons_zero]; rfl
        intro K hK
        go_simp
        refine hK.out _ _ ?_ (fun hHeld => ?_)
        ·trivial
        clear hK K
        (try simp only [Act.put, List.setIfInBounds_toArray, List.set_cons_zero, List.set_cons_succ])
        refine wpAnyH_done (by kernel_rfl) ?_ _
        refine NoPanic.normal ?_
        (try dsimp only [Exit.then])
        have TT := i' (Bz.store ⟨_, RB.out, ZB.out⟩ R4.out)
        have CC := i' (k'5c (chain hd.out D.out) (g := wz.heap.size) (Nat.le_refl _) (.bool (decide (g (j + 1) < 0))) (.slice p4 (Nm.dg D9 (g (j + 1)).natAbs).length c4))
        go_wp2
        go_roundw
        case rel => exact ⟨_, j + 1, rfl, by omega, by go_num, TT.out, CC.out⟩
        case measure => simp [intOf]; omega
       case rest23 =>
        intro K hK
        go_simp
        (with_reducible refine (HM.out _ _ _ R1.out R2.out).mono ?_)
        rintro e y ⟨u3, rfl, r3, b3⟩
        have R3 := i' r3
        have D := i' (chain D.out b3)
        have ZB := i' (ZB.out.next b3)
        have RB := i' (RB.out.below b3)
        clear k0 k1 k2 k3
        obtain ⟨k0, k1, k2, k3⟩ := ZB.out
        clear r3 b3
        unfold iV
        (try go_wp2_with fail)
        refine hK.out _ _ ?_ (fun hHeld => ?_)
        ·trivial
        clear hK K
        (try simp only [Act.put, List.setIfInBounds_toArray, List.set_cons_zero, List.set_cons_succ])
        refine wpAnyH_ready (rs := [0]) (by kernel_rfl) (by simp) ?_
        refine AllReadyH.cons (o := ?oi21) ?hi21 ?rest21 AllReadyH.nil
        case hi21 => simp only [List.getElem?_toArray, List.getElem?_cons_succ, List.getElem?_cons_zero]; rfl
        intro K hK
        go_simp
        refine hK.out _ _ ?_ (fun hHeld => ?_)
        ·trivial
        clear hK K
        (try simp only [Act.put, List.setIfInBounds_toArray, List.set_cons_zero, List.set_cons_succ])
        refine wpAnyH_ready (rs := [10]) (by kernel_rfl) (by simp) ?_
        refine AllReadyH.cons (o := ?oi20) ?hi20 ?rest20 AllReadyH.nil
        case hi20 => simp only [List.getElem?_toArray, List.getElem?_cons_succ, List.getElem?_cons_zero]; rfl
        intro K hK
        go_simp
        (with_reducible refine (HS.out _ _ _ RB.out R3.out).mono ?_)
        rintro e y ⟨u4, rfl, r4, b4⟩
        have D := i' (chain D.out b4)
        have ZB := i' (ZB.out.next b4)
        have RB := i' (RB.out.below b4)
        clear k0 k1 k2 k3
        obtain ⟨k0, k1, k2, k3⟩ := ZB.out
        unfold iV
        obtain ⟨p4, bb4, o4, c4, rfl, rr4⟩ := r4
        have R4 : Hid (Rz y (.slice p4 (Nm.dg D9 (g (j + 1)).natAbs).length c4) (g (j + 1))) := ⟨p4, bb4, o4, c4, rfl, rr4⟩
        clear b4 rr4
        (try go_wp2_with fail)
        refine hK.out _ _ ?_ (fun hHeld => ?_)
        ·trivial
        clear hK K
        (try simp only [Act.put, List.setIfInBounds_toArray, List.set_cons_zero, List.set_cons_succ])
        refine wpAnyH_ready (rs := [11]) (by kernel_rfl) (by simp) ?_
        refine AllReadyH.cons (o := ?oi19) ?hi19 ?rest19 AllReadyH.nil
        case hi19 => simp only [List.getElem?_toArray, List.getElem?_cons_succ, List.getElem?_cons_zero]; rfl
        intro K hK
        go_simp
        refine hK.out _ _ ?_ (fun hHeld => ?_)
        ·trivial
        clear hK K
        (try simp only [Act.put, List.setIfInBounds_toArray, List.set_cons_zero, List.set_cons_succ])
        refine wpAnyH_done (by kernel_rfl) ?_ _
        refine NoPanic.normal ?_
        (try dsimp only [Exit.then])
        have TT := i' (Bz.store ⟨_, RB.out, ZB.out⟩ R4.out)
        have CC := i' (k'5c (chain hd.out D.out) (g := wz.heap.size) (Nat.le_refl _) (.bool (decide (g (j + 1) < 0))) (.slice p4 (Nm.dg D9 (g (j + 1)).natAbs).length c4))
        go_wp2
        go_roundw
        case rel => exact ⟨_, j + 1, rfl, by omega, by go_num, TT.out, CC.out⟩
        case measure => simp [intOf]; omega
    ·have hji : ¬ (j : Int) ≤ (i : Int) := by omega
     obtain rfl : j = i + 1 := by omega
     have HX5 := i' (hrow.out.below hd.out)
     have HB5 := i' (chain hbl.out hd.out)
     have HR5 : Hid (Rz wy (.slice pz (Nm.dg D9 (f i).natAbs).length cz) (f i)) := by have h5 := R; rw [HE.out] at h5; exact h5
     have HM := i' (k'hs f i)
     rw [HE.out] at k0 k1
     clear R ht HE
     go_wp2_with (at_builtin; refine k'h5 rfl rfl _ _ rfl rfl rfl HX5.out HR5.out (by rw [k'ht]; omega) HB5.out ?_)
     intro v' w1 hrow1 hb1 _
     have HN1 := i' hrow1
     have HB1 := i' hb1
     rw [HM.out] at HN1
     clear hrow1 hb1
     go_wp2
     go_roundw
     case rel => exact ⟨_, i + 1, rfl, by omega, by go_num, HN1.out, HB1.out⟩
     case measure => simp [intOf]; omega
  ·obtain rfl : i = N := by omega
   have hii : (n1 : Int) + (n2 : Int) - 1 ≤ (i : Int) := by have := HNN.out; omega
   by_cases hz1 : n1 = 0
   ·have HZ := i' (HNil2.out (Or.inl hz1))
    subst hz1
    go_wp2
    go_ret
    exact ⟨.slice none 0 0, rfl, by rw [HZ.out]; exact RP.nil wz, hbl.out⟩
   ·by_cases hz2 : n2 = 0
    ·have HZ := i' (HNil2.out (Or.inr hz2))
     have z1 : ((n1 : Int) == 0) = false := by simp; omega
     subst hz2
     go_wp2
     go_ret
     exact ⟨.slice none 0 0, rfl, by rw [HZ.out]; exact RP.nil wz, hbl.out⟩
    ·have HZ := i' (HT2.out hz1 hz2)
     have z1 : ((n1 : Int) == 0) = false := by simp; omega
     have z2 : ((n2 : Int) == 0) = false := by simp; omega
     clear hz1 hz2
     go_wp2_with fail
     refine (k'dh _ _ _ hrow.out.rp).mono ?_
     rintro e w6 ⟨v6, rfl, r6, b6⟩
     have HR6 := i' r6
     rw [HZ.out] at HR6
     have HB6 := i' (chain hbl.out b6)
     clear r6 b6
     go_wp2
     go_ret
     exact ⟨_, rfl, HR6.out, HB6.out⟩
theorem k'i6 (f : Int → Int → Int) (h0 : f 0 0 = 0) (p q : List Int) (k : Nat) : Pl.cf (zipL f p q) k = f (Pl.cf p k) (Pl.cf q k) := by
 by_cases g : k < (zipL f p q).length
 ·rw [Pl.cf_lt g]; simp [zipL]
 ·rw [Pl.cf_ge (by omega)]
  have : ¬ k < max p.length q.length := by simpa [zipL] using g
  rw [Pl.cf_ge (p := p) (by omega), Pl.cf_ge (p := q) (by omega), h0]
theorem k'i7 (p q : List Int) : Pl.trim (zipL (· + ·) p q) = Pl.trim (Pl.add p q) :=
 Pl.nrm_ext (Pl.nrm_trim _) (Pl.nrm_trim _) fun k => by rw [Pl.cf_trim, Pl.cf_trim, k'i6 _ (by decide), Pl.cf_add]
theorem k'i8 (p q : List Int) : Pl.trim (zipL (· - ·) p q) = Pl.sub p q :=
 Pl.nrm_ext (Pl.nrm_trim _) (Pl.sub_nrm _ _) fun k => by rw [Pl.cf_trim, Pl.cf_sub, k'i6 _ (by decide)]
theorem k'i9 (p q : List Int) (hp : p ≠ []) (hq : q ≠ []) : Pl.cf (Pl.mul p q) (p.length + q.length - 2) = Pl.cf p (p.length - 1) * Pl.cf q (q.length - 1) := by
 have l2 := List.length_pos_iff.2 hq
 induction p with
 | nil => exact absurd rfl hp
 | cons a p ih =>
  rw [Pl.mul, Pl.cf_add, Pl.cf_scl]
  cases p with
  | nil =>
   have e : ([a] : List Int).length + q.length - 2 = q.length - 1 := by simp only [List.length_singleton]; omega
   rw [e, show ([a] : List Int).length - 1 = 0 from rfl, Pl.cf_cons_zero]
   have : Pl.cf (0 :: Pl.mul [] q) (q.length - 1) = 0 := by
    rcases Nat.eq_zero_or_pos (q.length - 1) with h | h
    ·rw [h, Pl.cf_cons_zero]
    ·rw [Pl.cf_ge (by simp [Pl.mul]; omega)]
   rw [this]; omega
  | cons b p =>
   have ih' := ih (by simp)
   have e : (a :: b :: p).length + q.length - 2 = ((b :: p).length + q.length - 2) + 1 := by simp only [List.length_cons]; omega
   rw [e, Pl.cf_cons_succ, ih', Pl.cf_ge (p := q) (by simp only [List.length_cons]; omega), Int.mul_zero, Int.zero_add]
   congr 1
theorem k'ia {p q : List Int} (hp : Pl.Nrm p) (hq : Pl.Nrm q) (h0 : p ≠ []) (h1 : q ≠ []) : Pl.Nrm (Pl.mul p q) := by
 intro h
 have l1 := List.length_pos_iff.2 h0
 have l2 := List.length_pos_iff.2 h1
 have e := Pl.mul_length p q h0 h1
 rw [← Pl.cf_lt (by omega), e, show p.length + q.length - 1 - 1 = p.length + q.length - 2 by omega, k'i9 p q h0 h1]
 exact Int.mul_ne_zero (Pl.nrm_cf hp l1) (Pl.nrm_cf hq l2)
theorem k'ib {z : Int} (h : (zs z).size ≤ 16) (ht : z.natAbs < Top) : lenV (zb z) (zs z) ≤ 200 := by
 rw [k'9f (k'5s ht)]
 unfold lenB
 split
 ·have : Lib.bitLen (zs z)[0].toNat ≤ 8 := Lib.bitLen_le8 ⟨(zs z)[0].toNat, UInt8.toNat_lt _⟩
  omega
 ·omega
theorem k'ic (L : List (Bool × ByteArray)) (B : Int) (hB : 0 ≤ B) (h : ∀ x ∈ L, lenV x.1 x.2 ≤ B) : glb L ≤ B := by
 have key : ∀ (L : List (Bool × ByteArray)) (m : Int), m ≤ B → (∀ x ∈ L, lenV x.1 x.2 ≤ B) → L.foldl (fun m x => max m (lenV x.1 x.2)) m ≤ B := by
  intro L
  induction L with
  | nil => intro m hm _; exact hm
  | cons x L ih =>
   intro m hm hx
   refine ih _ ?_ (fun y hy => hx y (List.mem_cons_of_mem _ hy))
   have := hx x List.mem_cons_self
   show max m (lenV x.1 x.2) ≤ B
   omega
 exact key L 0 hB h
theorem k'id {p : List Int} (h : shP (zl p) = true) (hp : VP p) : glb (zl p) ≤ 200 := by
 refine k'ic _ 200 (by decide) ?_
 intro x hx
 have h1 := k'du h x hx
 obtain ⟨z, hz, rfl⟩ := List.mem_map.1 hx
 exact k'ib h1 (hp.top z hz)
theorem k'ie {p q : List Int} (h1 : shP (zl p) = true) (h2 : shP (zl q) = true) (hp : VP p) (hq : VP q) (hl : p.length + q.length ≤ 26) : ckm (zl p) (zl q) = 0 := by
 have g1 := k'id h1 hp
 have g2 := k'id h2 hq
 unfold ckm
 rw [hp.ok, hq.ok, show (true && true) = true from rfl, if_pos rfl, k'cc, k'cc]
 split
 ·rfl
 ·rw [if_neg (by omega)]
theorem k'if {p q : List Int} (hp : VP p) (hq : VP q) (h0 : p ≠ []) (h1 : q ≠ []) (hl : 26 < p.length + q.length) : ckm (zl p) (zl q) = 7 := by
 have l1 := List.length_pos_iff.2 h0
 have l2 := List.length_pos_iff.2 h1
 unfold ckm
 rw [hp.ok, hq.ok, show (true && true) = true from rfl, if_pos rfl, k'cc, k'cc, if_neg (by omega), if_pos (by omega)]
theorem k'ig {L1 L2 : List (Bool × ByteArray)} (h : (vldP L1 && vldP L2) = false) : ckm L1 L2 = 2 := by
 unfold ckm; rw [h]; rfl
theorem k'ij (p : List Int) (v : Value) (w : World) (h : RP w v p) (ht : ∀ a ∈ p, a.natAbs < Top) (hd : ∀ a ∈ p, (Nm.dg D9 a.natAbs).length ≤ 1000000) : Calls Tryz.prog 20 #[v] w (IPost (glb (zl p)) w) := by
 have hlen := h.len
 obtain ⟨a, b, off, cap, rfl, -, -, h4, h5⟩ := h
 have HF := i' (fun k (hk : k < p.length) u w (h : Rz w u (p[k]'hk)) => k'99 p[k] u w h (hd _ (List.getElem_mem hk)) (Nat.le_trans (k'5t (ht _ (List.getElem_mem hk))) (by decide)))
 have HL := i' (fun k (hk : k < p.length) => show glb ((zl p).take (k + 1)) = max (glb ((zl p).take k)) (lenB (zs p[k])) by
  rw [List.take_succ_eq_append_getElem (by rw [k'cc]; exact hk), k'db, k'cd p k hk]
  simp only
  unfold lenV
  rw [if_pos (k'5s (ht _ (List.getElem_mem hk)))])
 obtain ⟨f, hf⟩ : ∃ f : Nat → Int, f = fun k => glb ((zl p).take k) := ⟨_, rfl⟩
 have HF0 : ∀ k, glb ((zl p).take k) = f k := fun k => by rw [hf]
 have H0 : Hid (f 0 = 0) := by show _ = _; rw [hf]; rfl
 have HE : Hid (f p.length = glb (zl p)) := by show _ = _; rw [hf]; simp only; rw [List.take_of_length_le (by rw [k'cc]; exact Nat.le_refl _)]
 simp only [HF0] at HL
 generalize glb (zl p) = res at *
 have H4 := i' h4
 have H5 := i' h5
 clear h4 h5 ht hd HF0 hf
 obtain ⟨n, hn⟩ : ∃ n, n = p.length := ⟨_, rfl⟩
 rw [← hn] at HE hlen ⊢
 have HN := i' hn
 clear hn
 go_enter Tryz.func20, Tryz.ntmps20
 go_wp2
 go_loopw [3, 4] (fun nv iv wr => ∃ (wz : World) (k : Nat), wz = wr ∧ k ≤ n ∧ nv = .int .i64 (f k) ∧ iv = .int .i64 (k : Int) ∧ Hid (Below w.heap.size w wz))
  (fun _ iv _ => n - (intOf iv).toNat)
 case atStart => exact ⟨w, 0, rfl, Nat.zero_le _, by rw [H0.out], rfl, Below.refl _ _⟩
 case round =>
  obtain ⟨wz, k, rfl, hk, rfl, rfl, hbl⟩ := hrel
  have hk0 : (0 : Int) ≤ (k : Int) := by omega
  by_cases hlt : k < n
  ·have hkp : k < p.length := by have h5 : n = p.length := HN.out; omega
   have hkk : (k : Int) < (n : Int) := by omega
   obtain rfl := H4.out (by intro e; rw [e] at hkp; exact absurd hkp (Nat.not_lt_zero _))
   obtain ⟨u, g0, g1, g2⟩ := H5.out k hkp
   have HFk := i' (fun w' (hb : Below w.heap.size w w') => HF.out k hkp u w' (g2.below hb))
   have HLk := i' (HL.out k hkp)
   have c0 := keep1 hbl.out g0
   have c1 := keep1 hbl.out g1
   have G0 := i' (And.intro g0 g1)
   obtain ⟨pu, bu, ou, cu, rfl, -⟩ := g2
   unfold iV at HFk
   generalize (Nm.dg D9 (p[k]).natAbs).length = lu at *
   generalize p[k] = z at *
   generalize lenB (zs z) = t at *
   generalize f k = m at *
   clear hkp g0 g1
   by_cases hgt : m < t
   ·have HM : Hid (f (k + 1) = t) := by show _ = _; rw [HLk.out]; omega
    go_wp2_with fail
    refine (HFk.out _ hbl.out).mono ?_
    rintro e w5 ⟨rfl, b5⟩
    have HB5 := i' (chain hbl.out b5)
    clear b5 c0 c1
    have c0 := keep1 HB5.out G0.out.1
    have c1 := keep1 HB5.out G0.out.2
    go_wp2_with fail
    refine (HFk.out _ HB5.out).mono ?_
    rintro e w6 ⟨rfl, b6⟩
    have HB6 := i' (chain HB5.out b6)
    clear b6 c0 c1
    go_wp2
    go_roundw
    case rel => exact ⟨_, k + 1, rfl, by omega, by rw [HM.out], by go_num, HB6.out⟩
    case measure => simp [intOf]; omega
   ·have HM : Hid (f (k + 1) = m) := by show _ = _; rw [HLk.out]; omega
    go_wp2_with fail
    refine (HFk.out _ hbl.out).mono ?_
    rintro e w5 ⟨rfl, b5⟩
    have HB5 := i' (chain hbl.out b5)
    clear b5 c0 c1
    go_wp2
    go_roundw
    case rel => exact ⟨_, k + 1, rfl, by omega, by rw [HM.out], by go_num, HB5.out⟩
    case measure => simp [intOf]; omega
  ·obtain rfl : k = n := by omega
   rw [HE.out]
   go_wp2
   go_ret
   exact ⟨rfl, hbl.out⟩
theorem k'im (p : List Int) (v : Value) (w : World) (h : RP w v p) (hl : p.length ≤ 25) (ht : ∀ a ∈ p, a.natAbs < Top) (hd : ∀ a ∈ p, (Nm.dg D9 a.natAbs).length ≤ 1000000) :
 Calls Tryz.prog 76 #[v] w (ResP p w) := by
 have HB := i' (k'ij p v w h ht hd)
 have HT := i' (fun w' (hb : Below w.heap.size w w') => k'ih p v w' (h.below hb) (by omega) hd)
 have hb1 := k'fb (zl p)
 obtain ⟨a, b, off, cap, rfl, -, -, -, -⟩ := h
 generalize glb (zl p) = g at *
 generalize hn : p.length = n at *
 have hn0 : (n : Int) ≤ 25 := by omega
 have hg1 : g ≤ 65536 := hb1.2
 clear hn ht hd hb1
 go_enter Tryz.func76, Tryz.ntmps76
 go_wp2_with fail
 refine HB.out.mono ?_
 rintro e w5 ⟨rfl, b5⟩
 have HB5 := i' b5
 clear b5
 go_wp2_with fail
 refine (HT.out _ HB5.out).mono ?_
 rintro e w6 ⟨v6, rfl, r6, b6⟩
 have HB6 := i' (chain HB5.out b6)
 have HR6 := i' r6
 clear b6 r6
 go_wp2
 go_ret2
 exact ⟨_, rfl, HR6.out, HB6.out⟩
theorem k'jj (p : List Int) (v vx : Value) (w : World) (hv : Rp w v p) (h : RP w vx p) (hl : p.length ≤ 25) (ht : ∀ a ∈ p, a.natAbs < Top) (hd : ∀ a ∈ p, (Nm.dg D9 a.natAbs).length ≤ 1000000) : Calls Tryz.prog 24 #[v, .int .i64 0, vx] w (BPost true w) := by
 have HO := i' (k'im p vx w h hl ht hd)
 have HS := i' (fun v2 w' (hb : Below w.heap.size w w') (h2 : Rp w' v2 p) => k'iq (zl p) (zl p) v v2 w' (hv.below hb) h2)
 rw [k'jh] at HS
 obtain ⟨a, b, off, cap, rfl, -, -, -, -⟩ := h
 obtain ⟨a1, b1, o1, c1, rfl, -, -, -, -⟩ := hv.open_
 generalize hTl : p.length = tl at *
 clear ht hd hv hTl
 go_enter Tryz.func24, Tryz.ntmps24
 go_wp2_with fail
 refine HO.out.mono ?_
 rintro e w1 ⟨v1, rfl, r1, b1⟩
 have R1 := i' r1
 have B1 := i' b1
 clear r1 b1
 go_wp2_with fail
 refine (HS.out _ _ B1.out R1.out).mono ?_
 rintro e w2 ⟨rfl, b2⟩
 have B2 := i' (chain B1.out b2)
 clear b2
 go_wp2
 go_ret
 exact ⟨rfl, B2.out⟩
theorem k'l9 {L1 L2 : List (Bool × ByteArray)} {v1 v2 : Value} {w : World} (h1 : Rw w v1 L1) (h2 : Rw w v2 L2) (z1 : Lim L1) (z2 : Lim L2) (r : Bool) (hr : (shP L1 && shP L2) = r) :
 Calls Tryz.prog 11 #[.slice (some ⟨w.heap.size, 0, none⟩) 2 2] (w.alloc (.cells #[v1, v2] 23)) (BPost r w) := by
 have h := k'ds [L1, L2] _ _ (k'do w h1 h2) (by intro L hL; simp at hL; rcases hL with rfl | rfl <;> assumption) (by simp)
 have e : [L1, L2].all shP = r := by rw [← hr]; simp
 rw [e] at h
 exact h.mono fun e w' ⟨h1, h2⟩ => ⟨h1, chain (k'56 _ _) h2⟩
theorem k'la {L1 L2 : List (Bool × ByteArray)} {v1 v2 : Value} {w : World} (h1 : Rw w v1 L1) (h2 : Rw w v2 L2) (z1 : Small L1) (z2 : Small L2) (r : Bool) (hr : (vldP L1 && vldP L2) = r) :
 Calls Tryz.prog 19 #[.slice (some ⟨w.heap.size, 0, none⟩) 2 2] (w.alloc (.cells #[v1, v2] 23)) (BPost r w) := by
 have h := k'dr [L1, L2] _ _ (k'do w h1 h2) (by intro L hL; simp at hL; rcases hL with rfl | rfl <;> assumption) (by simp)
 have e : [L1, L2].all vldP = r := by rw [← hr]; simp
 rw [e] at h
 exact h.mono fun e w' ⟨h1, h2⟩ => ⟨h1, chain (k'56 _ _) h2⟩
theorem k'lb (L1 L2 : List (Bool × ByteArray)) (v1 v2 : Value) (w : World) (h1 : Rw w v1 L1) (h2 : Rw w v2 L2) (z1 : Lim L1) (z2 : Lim L2) (hs : (shP L1 && shP L2) = false) :
 Calls Tryz.prog 4 #[v1, v2] w (Ret (.bool true) w) := by
 have HK := i' k'l8
 have HS := i' (k'l9 h1 h2 z1 z2 _ hs)
 obtain ⟨p1, a1, o1, c1, rfl, -, -, -, -⟩ := h1
 obtain ⟨p2, a2, o2, c2, rfl, -, -, -, -⟩ := h2
 generalize L1.length = n1 at *
 generalize L2.length = n2 at *
 clear z1 z2 hs
 unfold BPost at HS
 unfold Ret at *
 go_enter Tryz.func4, Tryz.ntmps4
 go_wp2_with fail
 refine HS.out.mono ?_
 rintro e x1 ⟨rfl, b1⟩
 have E := i' b1
 clear b1
 go_wp2_with fail
 refine (HK.out _).mono ?_
 rintro e x2 ⟨rfl, b2⟩
 have E := i' (chain E.out b2)
 clear b2
 go_wp2
 go_ret
 exact ⟨rfl, E.out⟩
theorem k'lc (L1 L2 : List (Bool × ByteArray)) (v1 v2 : Value) (w : World) (h1 : Rw w v1 L1) (h2 : Rw w v2 L2) (z1 : Lim L1) (z2 : Lim L2) (hs : (shP L1 && shP L2) = true) (hv : (vldP L1 && vldP L2) = false) :
 Calls Tryz.prog 4 #[v1, v2] w (Ret (.bool true) w) := by
 have s1 := k'dt (L := L1) (by revert hs; cases shP L1 <;> simp)
 have s2 := k'dt (L := L2) (by revert hs; cases shP L2 <;> simp)
 have HK := i' k'l8
 have HS := i' (k'l9 h1 h2 z1 z2 _ hs)
 have HV := i' (fun w' (hb : Below w.heap.size w w') => k'la (h1.below hb) (h2.below hb) s1 s2 _ hv)
 have HA := i' (fun w' (hb : Below w.heap.size w w') => k'g9 L1 L2 v1 v2 w' (h1.below hb) (h2.below hb) s1 s2 hv)
 have HB := i' (fun w' (hb : Below w.heap.size w w') => k'gd L1 L2 v1 v2 w' (h1.below hb) (h2.below hb) s1 s2 hv)
 have HM := i' (fun w' (hb : Below w.heap.size w w') => k'gv L1 L2 v1 v2 2 w' (h1.below hb) (h2.below hb) s1 s2 (k'ig hv) (by decide))
 obtain ⟨p1, a1, o1, c1, rfl, -, -, -, -⟩ := h1
 obtain ⟨p2, a2, o2, c2, rfl, -, -, -, -⟩ := h2
 generalize L1.length = n1 at *
 generalize L2.length = n2 at *
 clear z1 z2 hs hv s1 s2
 unfold BPost at HS HV
 unfold ResE at *
 unfold Ret at *
 go_enter Tryz.func4, Tryz.ntmps4
 go_wp2_with fail
 refine HS.out.mono ?_
 rintro e x1 ⟨rfl, b1⟩
 have E := i' b1
 clear b1
 go_wp2_with fail
 refine (HA.out _ E.out).mono ?_
 rintro e x2 ⟨rfl, b2⟩
 have E := i' (chain E.out b2)
 clear b2
 go_wp2_with fail
 refine (HB.out _ E.out).mono ?_
 rintro e x3 ⟨rfl, b2⟩
 have E := i' (chain E.out b2)
 clear b2
 go_wp2_with fail
 refine (HM.out _ E.out).mono ?_
 rintro e x4 ⟨rfl, b2⟩
 have E := i' (chain E.out b2)
 clear b2
 go_wp2_with fail
 refine (HV.out _ E.out).mono ?_
 rintro e x5 ⟨rfl, b2⟩
 have E := i' (chain E.out b2)
 clear b2
 go_wp2_with fail
 refine (HK.out _).mono ?_
 rintro e x6 ⟨rfl, b2⟩
 have E := i' (chain E.out b2)
 clear b2
 go_wp2
 go_ret
 exact ⟨rfl, E.out⟩
end Go.Proofs.YtepddegphdlbeaaGreat
