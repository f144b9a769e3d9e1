/- What the theorem leans on, part V2. -/
import Derived.Test.YtepddegphdlbeaaGreatV1
import Derived.Test.YtepddegphdlbeaaGreatG12
import Derived.Test.YtepddegphdlbeaaGreatG9
import Derived.Test.YtepddegphdlbeaaGreatG8
import Derived.Test.YtepddegphdlbeaaGreatG7
import Derived.Test.YtepddegphdlbeaaGreatG6
import Derived.Test.YtepddegphdlbeaaGreatV0
import Derived.Test.YtepddegphdlbeaaGreatG4
import Derived.Test.YtepddegphdlbeaaGreatG3
import Derived.Test.YtepddegphdlbeaaGreatG2
import Derived.Test.YtepddegphdlbeaaGreatG1
import Derived.Test.YtepddegphdlbeaaGreatG0
import Derived.Test.YtepddegphdlbeaaGreatProg
import Derived.WalkKit
import Derived.WalkSpells
import Derived.WalkLawsBesides
import Derived.Lib.Hide
import Derived.Deep.QuietTactic
import Derived.BigQuiet
import Derived.Shelf.Small.Bits
import Derived.Shelf.Small.Wraps
import Derived.Shelf.Strconv.Itoa0
import Derived.Shelf.Bits.Mul64
import Derived.Ground.Names2Prog
import Derived.Shelf.Slices.SearchI
import Derived.Shelf.Spec.BitsCarry
import Derived.Deep.LoopGhost
import Derived.Deep.RegionHeld3
import Derived.Deep.DeepCutAuto
import Derived.Test.YtepddegphdlbeaaGreatG5
import Derived.Laws.AppendOwnNone
import Derived.Below
import Derived.Test.YtepddegphdlbeaaGreatG10
import Derived.RangeFuncNested
import Derived.RangeFuncBound
import Derived.RangeFuncCalls
import Derived.RangeFuncLeaves
import Derived.Shelf.Abstract
import Derived.Shelf.RegionOpen
import Derived.OwnWalkIn
import Derived.TacticsInMore
import Derived.LoopNIn
import Derived.LoopIn
import Derived.OrdersIn
import Derived.Deep.RegionHeld
import Derived.Maps.AppendAt
import Derived.Lib.SliceRun
import Derived.IntWalk
import Derived.Test.YtepddegphdlbeaaGreatG11
import Derived.Test.YtepddegphdlbeaaGreatG16
import Derived.Test.YtepddegphdlbeaaGreatG15
import Derived.Test.YtepddegphdlbeaaGreatG13
import Derived.Laws.StructEq
import Derived.Test.YtepddegphdlbeaaGreatG14
set_option maxRecDepth 100000
set_option maxHeartbeats 16000000
set_option linter.all false
namespace Go.Proofs.YtepddegphdlbeaaGreat
open Go.RowKit
def tm (p : List Int) (n d : Int) (i : Nat) : Int := Pl.cf p i * (n ^ i * d ^ (p.length - 1 - i))
theorem k'na (p : List Int) (n d : Int) (i : Nat) : tm p n d i = Pl.cf (Pl.lev p d) i * n ^ i := by
 unfold tm
 rw [Pl.cf_lev, Int.mul_assoc, Int.mul_comm (d ^ _)]
theorem tm_lt {n m : Nat} {p : List Int} {x d : Int} (s : Sz n p) (hx : x.natAbs < D9 ^ m) (hd : d.natAbs < D9 ^ m) (i : Nat) (hi : i < p.length) : (tm p x d i).natAbs < D9 ^ (n + (m * p.length + 1 + (m * p.length + 1))) := by
 unfold tm
 rw [Int.natAbs_mul, Int.natAbs_mul]
 refine mulD9 (s i) (mulD9 ?_ ?_)
 ·exact Nat.lt_of_lt_of_le (pow9 hx) (Nat.pow_le_pow_right (by decide) (by have := Nat.mul_le_mul_left m (Nat.le_of_lt hi); omega))
 ·exact Nat.lt_of_lt_of_le (pow9 hd) (Nat.pow_le_pow_right (by decide) (by have := Nat.mul_le_mul_left m (show p.length - 1 - i ≤ p.length by omega); omega))
theorem k'nb {n m : Nat} {p : List Int} {x d : Int} (s : Sz n p) (hx : x.natAbs < D9 ^ m) (hd : d.natAbs < D9 ^ m) (hl : p.length ≤ 100) (i : Nat) (hi : i ≤ p.length) : (Pl.evs (Pl.lev p d) x i).natAbs < D9 ^ (n + (m * p.length + 1 + (m * p.length + 1)) + 1) := by
 have h : (Pl.evs (Pl.lev p d) x i).natAbs ≤ i * D9 ^ (n + (m * p.length + 1 + (m * p.length + 1))) := by
  induction i with
  | zero => simp [Pl.evs]
  | succ i ih =>
   rw [Pl.evs, ← k'na]
   have h1 := tm_lt s hx hd i (by omega)
   have h2 := ih (by omega)
   refine Nat.le_trans (Int.natAbs_add_le _ _) ?_
   rw [Nat.succ_mul]
   omega
 refine Nat.lt_of_le_of_lt h ?_
 rw [Nat.pow_succ, Nat.mul_comm i]
 exact Nat.mul_lt_mul_of_pos_left (by show i < 1000000000; omega) (Nat.pow_pos (by decide))
theorem k'nc (n m : Nat) (p : List Int) (xn xd : Int) (v v1 v2 : Value) (w : World) (h : RP w v p) (h1 : Rz w v1 xn) (h2 : Rz w v2 xd) (l : p.length ≤ 100) (s : Sz n p) (sx : xn.natAbs < D9 ^ m) (sd : xd.natAbs < D9 ^ m)
 (hk : n + 2 * (m * p.length) ≤ 80000) (hm : m ≤ 80000) :
 Calls Tryz.prog 47 #[v, qV xn xd v1 v2] w (IntPost (Pl.ev (Pl.lev p xd) xn) w) := by
 obtain ⟨w0, hw0⟩ : ∃ w0 : World, w0 = (w.alloc (.cells #[.bool (decide (xn < 0)), v1, .bool (decide (xd < 0)), v2] 66)).alloc (.cells #[.bool false, .slice none 0 0] 52) := ⟨_, rfl⟩
 have hb0 : Hid (Below w.heap.size w w0) := by rw [hw0]; exact (k'56 _ _).alloc (by simp) _
 have HQ : Hid (ZC4 (.bool (decide (xn < 0))) v1 (.bool (decide (xd < 0))) v2 w0 w.heap.size) := by show ZC4 _ _ _ _ _ _; rw [hw0]; exact (ZC4.made0 _).next (k'56 _ _)
 have I2 : Hid (Bz w0 (w.heap.size + 1) 0) := by
  show Bz _ _ _
  rw [hw0]
  have := Bz.made (k'h6 (w.alloc (.cells #[.bool (decide (xn < 0)), v1, .bool (decide (xd < 0)), v2] 66)))
  simpa using this
 have HZ0 : Hid (w0.heap.size = w.heap.size + 2) := by show _ = _; rw [hw0]; simp
 obtain ⟨u0, hu0⟩ : ∃ u0 : World, u0 = w0.alloc (.cells #[.bool false, .slice none 0 0] 52) := ⟨_, rfl⟩
 have T0 : Hid (Bz u0 w0.heap.size 0) := by show Bz _ _ _; rw [hu0]; exact Bz.made (k'h6 w0)
 have D0 : Hid (Below w0.heap.size w0 u0) := by rw [hu0]; exact k'56 _ _
 have hml : ∀ j, j ≤ p.length → m * j ≤ 80000 := fun j hj => by have := Nat.mul_le_mul_left m hj; omega
 have HP1 := i' (fun k (hk2 : k < p.length) w' (hb : Below w.heap.size w w') => k'mn k m (by omega) (by have := hml k (by omega); omega) (by omega) xn sx v1 w' (h1.below hb))
 have HP2 := i' (fun k (hk2 : k < p.length) w' (hb : Below w.heap.size w w') => k'mn (p.length - 1 - k) m (by omega) (by have := hml (p.length - 1 - k) (by omega); omega) (by omega) xd sd v2 w' (h2.below hb))
 have e9 : ∀ j, j ≤ p.length → m * j + 1 ≤ 1000000 := fun j hj => by have := hml j hj; omega
 have HM1 := i' (fun k (hk2 : k < p.length) u1 u2 w' (g1 : Rz w' u1 (xn ^ k)) (g2 : Rz w' u2 (xd ^ (p.length - 1 - k))) => k'7b (xn ^ k) (xd ^ (p.length - 1 - k)) u1 u2 w' g1 g2 (Nat.le_trans (len9 (pow9 sx)) (e9 k (by omega))) (Nat.le_trans (len9 (pow9 sd)) (e9 _ (by omega))))
 have HM2 := i' (fun k (hk2 : k < p.length) u1 u2 w' (g1 : Rz w' u1 (Pl.cf p k)) (g2 : Rz w' u2 (xn ^ k * xd ^ (p.length - 1 - k))) => show Calls Tryz.prog 83 #[iV (Pl.cf p k) u1, iV (xn ^ k * xd ^ (p.length - 1 - k)) u2] w' (IntPost (tm p xn xd k) w') from k'7b (Pl.cf p k) _ u1 u2 w' g1 g2 (Nat.le_trans (s.len k) (by omega)) (Nat.le_trans (len9 (by rw [Int.natAbs_mul]; exact mulD9 (pow9 sx) (pow9 sd))) (by have := hml k (by omega); have := hml (p.length - 1 - k) (by omega); omega)))
 have HS := i' (fun k (hk2 : k < p.length) u1 u2 w' (g1 : Rz w' u1 (Pl.evs (Pl.lev p xd) xn k)) (g2 : Rz w' u2 (tm p xn xd k)) => show Calls Tryz.prog 82 #[iV (Pl.evs (Pl.lev p xd) xn k) u1, iV (tm p xn xd k) u2] w' (IntPost (Pl.evs (Pl.lev p xd) xn (k + 1)) w') by
  have := k'7c _ _ u1 u2 w' g1 g2 (Nat.le_trans (len9 (k'nb s sx sd l k (by omega))) (by have := hml p.length (Nat.le_refl _); omega)) (Nat.le_trans (len9 (tm_lt s sx sd k hk2)) (by have := hml p.length (Nat.le_refl _); omega))
  rw [Pl.evs, ← k'na]
  exact this)
 have HE : Hid (Pl.ev (Pl.lev p xd) xn = Pl.evs (Pl.lev p xd) xn p.length) := by show _ = _; rw [← Pl.evs_all, Pl.lev_length]
 rw [HE.out]
 obtain ⟨f, hf⟩ : ∃ f : Nat → Int, f = fun i => Pl.evs (Pl.lev p xd) xn i := ⟨_, rfl⟩
 have HF : ∀ i, Pl.evs (Pl.lev p xd) xn i = f i := fun i => by rw [hf]
 simp only [HF] at HS ⊢
 have E0 : Hid (f 0 = 0) := by show _ = _; rw [hf]; rfl
 have Hw0 := i' hw0
 have Hu0 := i' hu0
 clear hw0 hu0 s sx sd hk hm hml e9 HE HF hf
 obtain ⟨pn, bpn, on, cn, rfl, -⟩ := h1
 obtain ⟨pd, bpd, od, cd, rfl, -⟩ := h2
 obtain ⟨a1, b1, o1, c1, rfl, -, -, h4, h5⟩ := h
 have H4 := i' h4
 have H5 := i' h5
 obtain ⟨n1, hn1⟩ : ∃ n, n = p.length := ⟨_, rfl⟩
 have HN := i' hn1
 clear h4 h5
 rw [← hn1] at HM1 HM2 HP2 l ⊢
 clear hn1
 unfold qV
 unfold iV at HP1 HP2
 generalize (Nm.dg D9 xn.natAbs).length = ln at *
 generalize (Nm.dg D9 xd.natAbs).length = ld at *
 generalize decide (xn < 0) = bn at *
 generalize decide (xd < 0) = bd at *
 go_enter Tryz.func47, Tryz.ntmps47
 go_upto_region 1 with (fail)
 rw [← Hw0.out]
 go_upto_region 2 with (fail)
 rw [← Hu0.out]
 clear Hw0 Hu0
 go_wp2
 go_loopw [6] (fun iv wr => ∃ (wz : World) (k : Nat), wz = wr ∧ iv = .int .i64 (k : Int) ∧ k ≤ n1 ∧ Hid (Bz wz w0.heap.size (f k)) ∧ Hid (Below w0.heap.size w0 wz))
  (fun iv _ => n1 - (intOf iv).toNat)
 case atStart => exact ⟨u0, 0, rfl, rfl, Nat.zero_le _, by rw [E0.out]; exact T0.out, D0.out⟩
 case round =>
  obtain ⟨wz, k, rfl, rfl, hk, ht, hd⟩ := hrel
  clear T0 D0
  obtain ⟨pz, cz, R, k0, k1, k2, k3⟩ := ht.out.open_
  by_cases hlt : k < n1
  ·have hkp : k < p.length := by have h5 : n1 = p.length := HN.out; omega
   have hkk : (k : Int) < (n1 : Int) := by omega
   have hk0 : (0 : Int) ≤ (k : Int) := by omega
   have hw0 : IntKind.i64.wrap ((n1 : Int) - 1) = (n1 : Int) - 1 := IntWalk.i64_in _ (by omega)
   have hw1 : IntKind.i64.wrap ((n1 : Int) - 1 - (k : Int)) = ((n1 - 1 - k : Nat) : Int) := by rw [IntWalk.i64_in _ (by omega)]; omega
   obtain rfl := H4.out (by intro e; rw [e] at hkp; exact absurd hkp (Nat.not_lt_zero _))
   obtain ⟨uk, g0, g1, g2⟩ := H5.out k hkp
   have hbl1 := World.block_lt_of_cell? w _ g0
   simp only at hbl1
   have q1 : ¬ w0.heap.size = b1 := by have := HZ0.out; omega
   have q2 : ¬ w0.heap.size = w.heap.size := by have := HZ0.out; omega
   have DW := i' (chain hb0.out hd.out)
   have d0 := keep1 DW.out g0
   have d1 := keep1 DW.out g1
   obtain ⟨⟨d2, d3, d4, d5⟩, -, -, -, -⟩ := HQ.out.next hd.out
   have HP1 := i' (fun w' (hb : Below wz.heap.size wz w') => HP1.out k hkp w' (chain DW.out hb))
   have HP2 := i' (fun w' (hb : Below wz.heap.size wz w') => HP2.out k hlt w' (chain DW.out hb))
   have HM1 := i' (HM1.out k hlt)
   have HM2 := i' (fun u w' (hu : Rz w' u _) (hb : Below wz.heap.size wz w') => HM2.out k hlt uk u w' (by rw [Pl.cf_lt hkp]; exact g2.below (chain DW.out hb)) hu)
   have HS := i' (HS.out k hkp)
   rw [Pl.cf_lt hkp] at HM2
   obtain ⟨pk, bk, ok, ck, rfl, -⟩ := g2
   unfold iV at HM1 HM2 HS
   generalize xn ^ k = x1 at *
   generalize xd ^ (n1 - 1 - k) = x2 at *
   generalize x1 * x2 = x3 at *
   generalize tm p xn xd k = x5 at *
   generalize (Nm.dg D9 (p[k]).natAbs).length = lx at *
   generalize decide (p[k] < 0) = bx at *
   clear g0 g1 hkp
   have ZB : Hid (ZC (.bool (decide (f k < 0))) (.slice pz (Nm.dg D9 (f k).natAbs).length cz) wz.drew w0.heap.size) := ⟨k0, k1, k2, k3⟩
   have RB : Hid (Rz wz.drew (.slice pz (Nm.dg D9 (f k).natAbs).length cz) (f k)) := R.drew
   have D : Hid (Below wz.heap.size wz wz.drew) := (Below.refl _ _).drew
   have p0 := keep1 D.out d0
   have p1 := keep1 D.out d1
   have p2 := keep1 D.out d2
   have p3 := keep1 D.out d3
   have p4 := keep1 D.out d4
   have p5 := keep1 D.out d5
   clear R
   go_upto_region 5 with (fail)
   refine wp_region_noPanic ?_
   refine wp_region_held_drew (S := (fun W' => W'.cell? ⟨b1, o1 + k * 2, none⟩ = some (.bool bx) ∧ W'.cell? ⟨b1, o1 + k * 2 + 1, none⟩ = some (.slice pk lx ck) ∧ W'.cell? ⟨w.heap.size, 0, none⟩ = some (.bool bn) ∧ W'.cell? ⟨w.heap.size, 1, none⟩ = some (.slice pn ln cn) ∧ W'.cell? ⟨w.heap.size, 2, none⟩ = some (.bool bd) ∧ W'.cell? ⟨w.heap.size, 3, none⟩ = some (.slice pd ld cd))) (by kernel_rfl) ?_ (fun hHeld => ?_)
   ·(try dsimp only)
    exact ⟨p0, p1, p2, p3, p4, p5⟩
   refine wpAnyH_take (i := 1) (oi := ?oi1) (v := ?v1) ?hi1 (by kernel_rfl) (by kernel_rfl) (by kernel_rfl) (fun _ _ _ h => h) (Or.inl ⟨?hw1, ?hy1⟩) (by assumption) ?rest1
   case hi1 => simp only [List.getElem?_toArray, List.getElem?_cons_succ, List.getElem?_cons_zero]; rfl
   case hw1 => rfl
   case hy1 =>
    intro w hSw
    (try dsimp only at hSw)
    go_simp
    (try with_reducible rfl)
   (try simp only [Act.put, List.setIfInBounds_toArray, List.set_cons_zero, List.set_cons_succ])
   refine wpAnyH_take (i := 2) (oi := ?oi2) (v := ?v2) ?hi2 (by kernel_rfl) (by kernel_rfl) (by kernel_rfl) (fun _ _ _ h => h) (Or.inl ⟨?hw2, ?hy2⟩) (by assumption) ?rest2
   case hi2 => simp only [List.getElem?_toArray, List.getElem?_cons_succ, List.getElem?_cons_zero]; rfl
   case hw2 => rfl
   case hy2 =>
    intro w hSw
    (try dsimp only at hSw)
    go_simp
    (try with_reducible rfl)
   (try simp only [Act.put, List.setIfInBounds_toArray, List.set_cons_zero, List.set_cons_succ])
   refine wpAnyH_take (i := 3) (oi := ?oi3) (v := ?v3) ?hi3 (by kernel_rfl) (by kernel_rfl) (by kernel_rfl) (fun _ _ _ h => h) (Or.inl ⟨?hw3, ?hy3⟩) (by assumption) ?rest3
   case hi3 => simp only [List.getElem?_toArray, List.getElem?_cons_succ, List.getElem?_cons_zero]; rfl
   case hw3 => rfl
   case hy3 =>
    intro w hSw
    (try dsimp only at hSw)
    go_simp
    (try with_reducible rfl)
   (try simp only [Act.put, List.setIfInBounds_toArray, List.set_cons_zero, List.set_cons_succ])
   refine wpAnyH_take (i := 4) (oi := ?oi4) (v := ?v4) ?hi4 (by kernel_rfl) (by kernel_rfl) (by kernel_rfl) (fun _ _ _ h => h) (Or.inl ⟨?hw4, ?hy4⟩) (by assumption) ?rest4
   case hi4 => simp only [List.getElem?_toArray, List.getElem?_cons_succ, List.getElem?_cons_zero]; rfl
   case hw4 => rfl
   case hy4 =>
    intro w hSw
    (try dsimp only at hSw)
    go_simp
    (try with_reducible rfl)
   (try simp only [Act.put, List.setIfInBounds_toArray, List.set_cons_zero, List.set_cons_succ])
   refine wpAnyH_take (i := 5) (oi := ?oi5) (v := ?v5) ?hi5 (by kernel_rfl) (by kernel_rfl) (by kernel_rfl) (fun _ _ _ h => h) (Or.inl ⟨?hw5, ?hy5⟩) (by assumption) ?rest5
   case hi5 => simp only [List.getElem?_toArray, List.getElem?_cons_succ, List.getElem?_cons_zero]; rfl
   case hw5 => rfl
   case hy5 =>
    intro w hSw
    (try dsimp only at hSw)
    go_simp
    (try with_reducible rfl)
   (try simp only [Act.put, List.setIfInBounds_toArray, List.set_cons_zero, List.set_cons_succ])
   refine wpAnyH_take (i := 6) (oi := ?oi6) (v := ?v6) ?hi6 (by kernel_rfl) (by kernel_rfl) (by kernel_rfl) (fun _ _ _ h => h) (Or.inl ⟨?hw6, ?hy6⟩) (by assumption) ?rest6
   case hi6 => simp only [List.getElem?_toArray, List.getElem?_cons_succ, List.getElem?_cons_zero]; rfl
   case hw6 => rfl
   case hy6 =>
    intro w hSw
    (try dsimp only at hSw)
    go_simp
    (try with_reducible rfl)
   (try simp only [Act.put, List.setIfInBounds_toArray, List.set_cons_zero, List.set_cons_succ])
   refine wpAnyH_take (i := 7) (oi := ?oi7) (v := ?v7) ?hi7 (by kernel_rfl) (by kernel_rfl) (by kernel_rfl) (fun _ _ _ h => h) (Or.inl ⟨?hw7, ?hy7⟩) (by assumption) ?rest7
   case hi7 => simp only [List.getElem?_toArray, List.getElem?_cons_succ, List.getElem?_cons_zero]; rfl
   case hw7 => rfl
   case hy7 =>
    intro w hSw
    (try dsimp only at hSw)
    go_simp
    (try with_reducible rfl)
   (try simp only [Act.put, List.setIfInBounds_toArray, List.set_cons_zero, List.set_cons_succ])
   refine wpAnyH_take (i := 9) (oi := ?oi8) (v := ?v8) ?hi8 (by kernel_rfl) (by kernel_rfl) (by kernel_rfl) (fun _ _ _ h => h) (Or.inl ⟨?hw8, ?hy8⟩) (by assumption) ?rest8
   case hi8 => simp only [List.getElem?_toArray, List.getElem?_cons_succ, List.getElem?_cons_zero]; rfl
   case hw8 => rfl
   case hy8 =>
    intro w hSw
    (try dsimp only at hSw)
    go_simp
    (try with_reducible rfl)
   (try simp only [Act.put, List.setIfInBounds_toArray, List.set_cons_zero, List.set_cons_succ])
   refine wpAnyH_take (i := 10) (oi := ?oi9) (v := ?v9) ?hi9 (by kernel_rfl) (by kernel_rfl) (by kernel_rfl) (fun _ _ _ h => h) (Or.inl ⟨?hw9, ?hy9⟩) (by assumption) ?rest9
   case hi9 => simp only [List.getElem?_toArray, List.getElem?_cons_succ, List.getElem?_cons_zero]; rfl
   case hw9 => rfl
   case hy9 =>
    intro w hSw
    (try dsimp only at hSw)
    go_simp
    (try with_reducible rfl)
   (try simp only [Act.put, List.setIfInBounds_toArray, List.set_cons_zero, List.set_cons_succ])
   refine wpAnyH_take (i := 11) (oi := ?oi10) (v := ?v10) ?hi10 (by kernel_rfl) (by kernel_rfl) (by kernel_rfl) (fun _ _ _ h => h) (Or.inl ⟨?hw10, ?hy10⟩) (by assumption) ?rest10
   case hi10 => simp only [List.getElem?_toArray, List.getElem?_cons_succ, List.getElem?_cons_zero]; rfl
   case hw10 => rfl
   case hy10 =>
    intro w hSw
    (try dsimp only at hSw)
    go_simp
    (try with_reducible rfl)
   (try simp only [Act.put, List.setIfInBounds_toArray, List.set_cons_zero, List.set_cons_succ])
   refine wpAnyH_take (i := 12) (oi := ?oi11) (v := ?v11) ?hi11 (by kernel_rfl) (by kernel_rfl) (by kernel_rfl) (fun _ _ _ h => h) (Or.inl ⟨?hw11, ?hy11⟩) (by assumption) ?rest11
   case hi11 => simp only [List.getElem?_toArray, List.getElem?_cons_succ, List.getElem?_cons_zero]; rfl
   case hw11 => rfl
   case hy11 =>
    intro w hSw
    (try dsimp only at hSw)
    go_simp
    (try with_reducible rfl)
   (try simp only [Act.put, List.setIfInBounds_toArray, List.set_cons_zero, List.set_cons_succ])
   refine wpAnyH_take (i := 13) (oi := ?oi12) (v := ?v12) ?hi12 (by kernel_rfl) (by kernel_rfl) (by kernel_rfl) (fun _ _ _ h => h) (Or.inl ⟨?hw12, ?hy12⟩) (by assumption) ?rest12
   case hi12 => simp only [List.getElem?_toArray, List.getElem?_cons_succ, List.getElem?_cons_zero]; rfl
   case hw12 => rfl
   case hy12 =>
    intro w hSw
    (try dsimp only at hSw)
    go_simp
    (try with_reducible rfl)
   (try simp only [Act.put, List.setIfInBounds_toArray, List.set_cons_zero, List.set_cons_succ])
   refine wpAnyH_take (i := 14) (oi := ?oi13) (v := ?v13) ?hi13 (by kernel_rfl) (by kernel_rfl) (by kernel_rfl) (fun _ _ _ h => h) (Or.inl ⟨?hw13, ?hy13⟩) (by assumption) ?rest13
   case hi13 => simp only [List.getElem?_toArray, List.getElem?_cons_succ, List.getElem?_cons_zero]; rfl
   case hw13 => rfl
   case hy13 =>
    intro w hSw
    (try dsimp only at hSw)
    go_simp
    (try with_reducible rfl)
   (try simp only [Act.put, List.setIfInBounds_toArray, List.set_cons_zero, List.set_cons_succ])
   refine wpAnyH_take (i := 15) (oi := ?oi14) (v := ?v14) ?hi14 (by kernel_rfl) (by kernel_rfl) (by kernel_rfl) (fun _ _ _ h => h) (Or.inl ⟨?hw14, ?hy14⟩) (by assumption) ?rest14
   case hi14 => simp only [List.getElem?_toArray, List.getElem?_cons_succ, List.getElem?_cons_zero]; rfl
   case hw14 => rfl
   case hy14 =>
    intro w hSw
    (try dsimp only at hSw)
    go_simp
    (try with_reducible rfl)
   (try simp only [Act.put, List.setIfInBounds_toArray, List.set_cons_zero, List.set_cons_succ])
   refine wpAnyH_ready (rs := [0, 8]) (by kernel_rfl) (by simp) ?_
   refine AllReadyH.cons (o := ?oi42) ?hi42 ?rest42 (AllReadyH.cons (o := ?oi43) ?hi43 ?rest43 AllReadyH.nil)
   case hi42 => simp only [List.getElem?_toArray, List.getElem?_cons_succ, List.getElem?_cons_zero]; rfl
   case hi43 => simp only [List.getElem?_toArray, List.getElem?_cons_succ, List.getElem?_cons_zero]; rfl
   case rest42 =>
    intro K hK
    go_simp
    refine hK.out _ _ ?_ (fun hHeld => ?_)
    ·(try dsimp only)
     exact ⟨p0, p1, p2, p3, p4, p5⟩
    clear hK K
    (try simp only [Act.put, List.setIfInBounds_toArray, List.set_cons_zero, List.set_cons_succ])
    refine wpAnyH_ready (rs := [8]) (by kernel_rfl) (by simp) ?_
    refine AllReadyH.cons (o := ?oi20) ?hi20 ?rest20 AllReadyH.nil
    case hi20 => simp only [List.getElem?_toArray, List.getElem?_cons_succ, List.getElem?_cons_zero]; rfl
    intro K hK
    go_simp
    (with_reducible refine (HP1.out _ D.out).mono ?_)
    rintro e y ⟨u1, rfl, r1, b1'⟩
    have R1 := i' r1
    have D := i' (chain D.out b1')
    have ZB := i' (ZB.out.next b1')
    have RB := i' (RB.out.below b1')
    clear k0 k1 k2 k3 p0 p1 p2 p3 p4 p5
    obtain ⟨k0, k1, k2, k3⟩ := ZB.out
    have p0 := keep1 D.out d0
    have p1 := keep1 D.out d1
    have p2 := keep1 D.out d2
    have p3 := keep1 D.out d3
    have p4 := keep1 D.out d4
    have p5 := keep1 D.out d5
    clear r1 b1'
    unfold iV
    (try go_wp2_with fail)
    refine hK.out _ _ ?_ (fun hHeld => ?_)
    ·(try dsimp only)
     exact ⟨p0, p1, p2, p3, p4, p5⟩
    clear hK K
    (try simp only [Act.put, List.setIfInBounds_toArray, List.set_cons_zero, List.set_cons_succ])
    refine wpAnyH_ready (rs := [16]) (by kernel_rfl) (by simp) ?_
    refine AllReadyH.cons (o := ?oi19) ?hi19 ?rest19 AllReadyH.nil
    case hi19 => simp only [List.getElem?_toArray, List.getElem?_cons_succ, List.getElem?_cons_zero]; rfl
    intro K hK
    go_simp
    (with_reducible refine (HP2.out _ D.out).mono ?_)
    rintro e y ⟨u2, rfl, r2, b2⟩
    have R1 := i' (R1.out.below b2)
    have R2 := i' r2
    have D := i' (chain D.out b2)
    have ZB := i' (ZB.out.next b2)
    have RB := i' (RB.out.below b2)
    clear k0 k1 k2 k3 p0 p1 p2 p3 p4 p5
    obtain ⟨k0, k1, k2, k3⟩ := ZB.out
    have p0 := keep1 D.out d0
    have p1 := keep1 D.out d1
    have p2 := keep1 D.out d2
    have p3 := keep1 D.out d3
    have p4 := keep1 D.out d4
    have p5 := keep1 D.out d5
    clear r2 b2
    unfold iV
    (try go_wp2_with fail)
    refine hK.out _ _ ?_ (fun hHeld => ?_)
    ·(try dsimp only)
     exact ⟨p0, p1, p2, p3, p4, p5⟩
    clear hK K
    (try simp only [Act.put, List.setIfInBounds_toArray, List.set_cons_zero, List.set_cons_succ])
    refine wpAnyH_ready (rs := [17]) (by kernel_rfl) (by simp) ?_
    refine AllReadyH.cons (o := ?oi18) ?hi18 ?rest18 AllReadyH.nil
    case hi18 => simp only [List.getElem?_toArray, List.getElem?_cons_succ, List.getElem?_cons_zero]; rfl
    intro K hK
    go_simp
    (with_reducible refine (HM1.out _ _ _ R1.out R2.out).mono ?_)
    rintro e y ⟨u3, rfl, r3, b3⟩
    have R3 := i' r3
    have D := i' (chain D.out b3)
    have ZB := i' (ZB.out.next b3)
    have RB := i' (RB.out.below b3)
    clear k0 k1 k2 k3 p0 p1 p2 p3 p4 p5
    obtain ⟨k0, k1, k2, k3⟩ := ZB.out
    have p0 := keep1 D.out d0
    have p1 := keep1 D.out d1
    have p2 := keep1 D.out d2
    have p3 := keep1 D.out d3
    have p4 := keep1 D.out d4
    have p5 := keep1 D.out d5
    clear r3 b3
    unfold iV
    (try go_wp2_with fail)
    refine hK.out _ _ ?_ (fun hHeld => ?_)
    ·(try dsimp only)
     exact ⟨p0, p1, p2, p3, p4, p5⟩
    clear hK K
    (try simp only [Act.put, List.setIfInBounds_toArray, List.set_cons_zero, List.set_cons_succ])
    refine wpAnyH_ready (rs := [18]) (by kernel_rfl) (by simp) ?_
    refine AllReadyH.cons (o := ?oi17) ?hi17 ?rest17 AllReadyH.nil
    case hi17 => simp only [List.getElem?_toArray, List.getElem?_cons_succ, List.getElem?_cons_zero]; rfl
    intro K hK
    go_simp
    (with_reducible refine (HM2.out _ _ R3.out D.out).mono ?_)
    rintro e y ⟨u5, rfl, r5, b5⟩
    have R5 := i' r5
    have D := i' (chain D.out b5)
    have ZB := i' (ZB.out.next b5)
    have RB := i' (RB.out.below b5)
    clear k0 k1 k2 k3 p0 p1 p2 p3 p4 p5
    obtain ⟨k0, k1, k2, k3⟩ := ZB.out
    have p0 := keep1 D.out d0
    have p1 := keep1 D.out d1
    have p2 := keep1 D.out d2
    have p3 := keep1 D.out d3
    have p4 := keep1 D.out d4
    have p5 := keep1 D.out d5
    clear r5 b5
    unfold iV
    (try go_wp2_with fail)
    refine hK.out _ _ ?_ (fun hHeld => ?_)
    ·(try dsimp only)
     exact ⟨p0, p1, p2, p3, p4, p5⟩
    clear hK K
    (try simp only [Act.put, List.setIfInBounds_toArray, List.set_cons_zero, List.set_cons_succ])
    refine wpAnyH_ready (rs := [19]) (by kernel_rfl) (by simp) ?_
    refine AllReadyH.cons (o := ?oi16) ?hi16 ?rest16 AllReadyH.nil
    case hi16 => simp only [List.getElem?_toArray, List.getElem?_cons_succ, List.getElem?_cons_zero]; rfl
    intro K hK
    go_simp
    (with_reducible refine (HS.out _ _ _ RB.out R5.out).mono ?_)
    rintro e y ⟨u4, rfl, r4, b4⟩
    have D := i' (chain D.out b4)
    have ZB := i' (ZB.out.next b4)
    have RB := i' (RB.out.below b4)
    clear k0 k1 k2 k3 p0 p1 p2 p3 p4 p5
    obtain ⟨k0, k1, k2, k3⟩ := ZB.out
    have p0 := keep1 D.out d0
    have p1 := keep1 D.out d1
    have p2 := keep1 D.out d2
    have p3 := keep1 D.out d3
    have p4 := keep1 D.out d4
    have p5 := keep1 D.out d5
    unfold iV
    obtain ⟨p7, bb4, o4, c4, rfl, rr4⟩ := r4
    have R4 : Hid (Rz y (.slice p7 (Nm.dg D9 (f (k + 1)).natAbs).length c4) (f (k + 1))) := ⟨p7, bb4, o4, c4, rfl, rr4⟩
    clear b4 rr4
    (try go_wp2_with fail)
    refine hK.out _ _ ?_ (fun hHeld => ?_)
    ·(try dsimp only)
     exact ⟨p0, p1, p2, p3, p4, p5⟩
    clear hK K
    (try simp only [Act.put, List.setIfInBounds_toArray, List.set_cons_zero, List.set_cons_succ])
    refine wpAnyH_ready (rs := [20]) (by kernel_rfl) (by simp) ?_
    refine AllReadyH.cons (o := ?oi15) ?hi15 ?rest15 AllReadyH.nil
    case hi15 => simp only [List.getElem?_toArray, List.getElem?_cons_succ, List.getElem?_cons_zero]; rfl
    intro K hK
    go_simp
    refine hK.out _ _ ?_ (fun hHeld => ?_)
    ·(try dsimp only)
     exact ⟨far2 (by simp only; first | exact q1 | exact q2) p0, far2 (by simp only; first | exact q1 | exact q2) p1, far2 (by simp only; first | exact q1 | exact q2) p2, far2 (by simp only; first | exact q1 | exact q2) p3, far2 (by simp only; first | exact q1 | exact q2) p4, far2 (by simp only; first | exact q1 | exact q2) p5⟩
    clear hK K
    (try simp only [Act.put, List.setIfInBounds_toArray, List.set_cons_zero, List.set_cons_succ])
    refine wpAnyH_done (by kernel_rfl) ?_ _
    refine NoPanic.normal ?_
    (try dsimp only [Exit.then])
    have TT := i' (Bz.store ⟨_, RB.out, ZB.out⟩ R4.out)
    have CC := i' (k'5c (chain hd.out D.out) (g := w0.heap.size) (Nat.le_refl _) (.bool (decide (f (k + 1) < 0))) (.slice p7 (Nm.dg D9 (f (k + 1)).natAbs).length c4))
    go_wp2
    go_roundw
    case rel => exact ⟨_, k + 1, rfl, by go_num, by omega, TT.out, CC.out⟩
    case measure => simp [intOf]; omega
   case rest43 =>
    intro K hK
    go_simp
    (with_reducible refine (HP1.out _ D.out).mono ?_)
    rintro e y ⟨u1, rfl, r1, b1'⟩
    have R1 := i' r1
    have D := i' (chain D.out b1')
    have ZB := i' (ZB.out.next b1')
    have RB := i' (RB.out.below b1')
    clear k0 k1 k2 k3 p0 p1 p2 p3 p4 p5
    obtain ⟨k0, k1, k2, k3⟩ := ZB.out
    have p0 := keep1 D.out d0
    have p1 := keep1 D.out d1
    have p2 := keep1 D.out d2
    have p3 := keep1 D.out d3
    have p4 := keep1 D.out d4
    have p5 := keep1 D.out d5
    clear r1 b1'
    unfold iV
    (try go_wp2_with fail)
    refine hK.out _ _ ?_ (fun hHeld => ?_)
    ·(try dsimp only)
     exact ⟨p0, p1, p2, p3, p4, p5⟩
    clear hK K
    (try simp only [Act.put, List.setIfInBounds_toArray, List.set_cons_zero, List.set_cons_succ])
    refine wpAnyH_ready (rs := [0, 16]) (by kernel_rfl) (by simp) ?_
    refine AllReadyH.cons (o := ?oi40) ?hi40 ?rest40 (AllReadyH.cons (o := ?oi41) ?hi41 ?rest41 AllReadyH.nil)
    case hi40 => simp only [List.getElem?_toArray, List.getElem?_cons_succ, List.getElem?_cons_zero]; rfl
    case hi41 => simp only [List.getElem?_toArray, List.getElem?_cons_succ, List.getElem?_cons_zero]; rfl
    case rest40 =>
     intro K hK
     go_simp
     refine hK.out _ _ ?_ (fun hHeld => ?_)
     ·(try dsimp only)
      exact ⟨p0, p1, p2, p3, p4, p5⟩
     clear hK K
     (try simp only [Act.put, List.setIfInBounds_toArray, List.set_cons_zero, List.set_cons_succ])
     refine wpAnyH_ready (rs := [16]) (by kernel_rfl) (by simp) ?_
     refine AllReadyH.cons (o := ?oi25) ?hi25 ?rest25 AllReadyH.nil
     case hi25 => simp only [List.getElem?_toArray, List.getElem?_cons_succ, List.getElem?_cons_zero]; rfl
     intro K hK
     go_simp
     (with_reducible refine (HP2.out _ D.out).mono ?_)
     rintro e y ⟨u2, rfl, r2, b2⟩
     have R1 := i' (R1.out.below b2)
     have R2 := i' r2
     have D := i' (chain D.out b2)
     have ZB := i' (ZB.out.next b2)
     have RB := i' (RB.out.below b2)
     clear k0 k1 k2 k3 p0 p1 p2 p3 p4 p5
     obtain ⟨k0, k1, k2, k3⟩ := ZB.out
     have p0 := keep1 D.out d0
     have p1 := keep1 D.out d1
     have p2 := keep1 D.out d2
     have p3 := keep1 D.out d3
     have p4 := keep1 D.out d4
     have p5 := keep1 D.out d5
     clear r2 b2
     unfold iV
     (try go_wp2_with fail)
     refine hK.out _ _ ?_ (fun hHeld => ?_)
     ·(try dsimp only)
      exact ⟨p0, p1, p2, p3, p4, p5⟩
     clear hK K
     (try simp only [Act.put, List.setIfInBounds_toArray, List.set_cons_zero, List.set_cons_succ])
     refine wpAnyH_ready (rs := [17]) (by kernel_rfl) (by simp) ?_
     refine AllReadyH.cons (o := ?oi24) ?hi24 ?rest24 AllReadyH.nil
     case hi24 => simp only [List.getElem?_toArray, List.getElem?_cons_succ, List.getElem?_cons_zero]; rfl
     intro K hK
     go_simp
     (with_reducible refine (HM1.out _ _ _ R1.out R2.out).mono ?_)
     rintro e y ⟨u3, rfl, r3, b3⟩
     have R3 := i' r3
     have D := i' (chain D.out b3)
     have ZB := i' (ZB.out.next b3)
     have RB := i' (RB.out.below b3)
     clear k0 k1 k2 k3 p0 p1 p2 p3 p4 p5
     obtain ⟨k0, k1, k2, k3⟩ := ZB.out
     have p0 := keep1 D.out d0
     have p1 := keep1 D.out d1
     have p2 := keep1 D.out d2
     have p3 := keep1 D.out d3
     have p4 := keep1 D.out d4
     have p5 := keep1 D.out d5
     clear r3 b3
     unfold iV
     (try go_wp2_with fail)
     refine hK.out _ _ ?_ (fun hHeld => ?_)
     ·(try dsimp only)
      exact ⟨p0, p1, p2, p3, p4, p5⟩
     clear hK K
     (try simp only [Act.put, List.setIfInBounds_toArray, List.set_cons_zero, List.set_cons_succ])
     refine wpAnyH_ready (rs := [18]) (by kernel_rfl) (by simp) ?_
     refine AllReadyH.cons (o := ?oi23) ?hi23 ?rest23 AllReadyH.nil
     case hi23 => simp only [List.getElem?_toArray, List.getElem?_cons_succ, List.getElem?_cons_zero]; rfl
     intro K hK
     go_simp
     (with_reducible refine (HM2.out _ _ R3.out D.out).mono ?_)
     rintro e y ⟨u5, rfl, r5, b5⟩
     have R5 := i' r5
     have D := i' (chain D.out b5)
     have ZB := i' (ZB.out.next b5)
     have RB := i' (RB.out.below b5)
     clear k0 k1 k2 k3 p0 p1 p2 p3 p4 p5
     obtain ⟨k0, k1, k2, k3⟩ := ZB.out
     have p0 := keep1 D.out d0
     have p1 := keep1 D.out d1
     have p2 := keep1 D.out d2
     have p3 := keep1 D.out d3
     have p4 := keep1 D.out d4
     have p5 := keep1 D.out d5
     clear r5 b5
     unfold iV
     (try go_wp2_with fail)
     refine hK.out _ _ ?_ (fun hHeld => ?_)
     ·(try dsimp only)
      exact ⟨p0, p1, p2, p3, p4, p5⟩
     clear hK K
     (try simp only [Act.put, List.setIfInBounds_toArray, List.set_cons_zero, List.set_cons_succ])
     refine wpAnyH_ready (rs := [19]) (by kernel_rfl) (by simp) ?_
     refine AllReadyH.cons (o := ?oi22) ?hi22 ?rest22 AllReadyH.nil
     case hi22 => simp only [List.getElem?_toArray, List.getElem?_cons_succ, List.getElem?_cons_zero]; rfl
     intro K hK
     go_simp
     (with_reducible refine (HS.out _ _ _ RB.out R5.out).mono ?_)
     rintro e y ⟨u4, rfl, r4, b4⟩
     have D := i' (chain D.out b4)
     have ZB := i' (ZB.out.next b4)
     have RB := i' (RB.out.below b4)
     clear k0 k1 k2 k3 p0 p1 p2 p3 p4 p5
     obtain ⟨k0, k1, k2, k3⟩ := ZB.out
     have p0 := keep1 D.out d0
     have p1 := keep1 D.out d1
     have p2 := keep1 D.out d2
     have p3 := keep1 D.out d3
     have p4 := keep1 D.out d4
     have p5 := keep1 D.out d5
     unfold iV
     obtain ⟨p7, bb4, o4, c4, rfl, rr4⟩ := r4
     have R4 : Hid (Rz y (.slice p7 (Nm.dg D9 (f (k + 1)).natAbs).length c4) (f (k + 1))) := ⟨p7, bb4, o4, c4, rfl, rr4⟩
     clear b4 rr4
     (try go_wp2_with fail)
     refine hK.out _ _ ?_ (fun hHeld => ?_)
     ·(try dsimp only)
      exact ⟨p0, p1, p2, p3, p4, p5⟩
     clear hK K
     (try simp only [Act.put, List.setIfInBounds_toArray, List.set_cons_zero, List.set_cons_succ])
     refine wpAnyH_ready (rs := [20]) (by kernel_rfl) (by simp) ?_
     refine AllReadyH.cons (o := ?oi21) ?hi21 ?rest21 AllReadyH.nil
     case hi21 => simp only [List.getElem?_toArray, List.getElem?_cons_succ, List.getElem?_cons_zero]; rfl
     intro K hK
     go_simp
     refine hK.out _ _ ?_ (fun hHeld => ?_)
     ·(try dsimp only)
      exact ⟨far2 (by simp only; first | exact q1 | exact q2) p0, far2 (by simp only; first | exact q1 | exact q2) p1, far2 (by simp only; first | exact q1 | exact q2) p2, far2 (by simp only; first | exact q1 | exact q2) p3, far2 (by simp only; first | exact q1 | exact q2) p4, far2 (by simp only; first | exact q1 | exact q2) p5⟩
     clear hK K
     (try simp only [Act.put, List.setIfInBounds_toArray, List.set_cons_zero, List.set_cons_succ])
     refine wpAnyH_done (by kernel_rfl) ?_ _
     refine NoPanic.normal ?_
     (try dsimp only [Exit.then])
     have TT := i' (Bz.store ⟨_, RB.out, ZB.out⟩ R4.out)
     have CC := i' (k'5c (chain hd.out D.out) (g := w0.heap.size) (Nat.le_refl _) (.bool (decide (f (k + 1) < 0))) (.slice p7 (Nm.dg D9 (f (k + 1)).natAbs).length c4))
     go_wp2
     go_roundw
     case rel => exact ⟨_, k + 1, rfl, by go_num, by omega, TT.out, CC.out⟩
     case measure => simp [intOf]; omega
    case rest41 =>
     intro K hK
     go_simp
     (with_reducible refine (HP2.out _ D.out).mono ?_)
     rintro e y ⟨u2, rfl, r2, b2⟩
     have R1 := i' (R1.out.below b2)
     have R2 := i' r2
     have D := i' (chain D.out b2)
     have ZB := i' (ZB.out.next b2)
     have RB := i' (RB.out.below b2)
     clear k0 k1 k2 k3 p0 p1 p2 p3 p4 p5
     obtain ⟨k0, k1, k2, k3⟩ := ZB.out
     have p0 := keep1 D.out d0
     have p1 := keep1 D.out d1
     have p2 := keep1 D.out d2
     have p3 := keep1 D.out d3
     have p4 := keep1 D.out d4
     have p5 := keep1 D.out d5
     clear r2 b2
     unfold iV
     (try go_wp2_with fail)
     refine hK.out _ _ ?_ (fun hHeld => ?_)
     ·(try dsimp only)
      exact ⟨p0, p1, p2, p3, p4, p5⟩
     clear hK K
     (try simp only [Act.put, List.setIfInBounds_toArray, List.set_cons_zero, List.set_cons_succ])
     refine wpAnyH_ready (rs := [0, 17]) (by kernel_rfl) (by simp) ?_
     refine AllReadyH.cons (o := ?oi38) ?hi38 ?rest38 (AllReadyH.cons (o := ?oi39) ?hi39 ?rest39 AllReadyH.nil)
     case hi38 => simp only [List.getElem?_toArray, List.getElem?_cons_succ, List.getElem?_cons_zero]; rfl
     case hi39 => simp only [List.getElem?_toArray, List.getElem?_cons_succ, List.getElem?_cons_zero]; rfl
     case rest38 =>
      intro K hK
      go_simp
      refine hK.out _ _ ?_ (fun hHeld => ?_)
      ·(try dsimp only)
       exact ⟨p0, p1, p2, p3, p4, p5⟩
      clear hK K
      (try simp only [Act.put, List.setIfInBounds_toArray, List.set_cons_zero, List.set_cons_succ])
      refine wpAnyH_ready (rs := [17]) (by kernel_rfl) (by simp) ?_
      refine AllReadyH.cons (o := ?oi29) ?hi29 ?rest29 AllReadyH.nil
      case hi29 => simp only [List.getElem?_toArray, List.getElem?_cons_succ, List.getElem?_cons_zero]; rfl
      intro K hK
      go_simp
      (with_reducible refine (HM1.out _ _ _ R1.out R2.out).mono ?_)
      rintro e y ⟨u3, rfl, r3, b3⟩
      have R3 := i' r3
      have D := i' (chain D.out b3)
      have ZB := i' (ZB.out.next b3)
      have RB := i' (RB.out.below b3)
      clear k0 k1 k2 k3 p0 p1 p2 p3 p4 p5
      obtain ⟨k0, k1, k2, k3⟩ := ZB.out
      have p0 := keep1 D.out d0
      have p1 := keep1 D.out d1
      have p2 := keep1 D.out d2
      have p3 := keep1 D.out d3
      have p4 := keep1 D.out d4
      have p5 := keep1 D.out d5
      clear r3 b3
      unfold iV
      (try go_wp2_with fail)
      refine hK.out _ _ ?_ (fun hHeld => ?_)
      ·(try dsimp only)
       exact ⟨p0, p1, p2, p3, p4, p5⟩
      clear hK K
      (try simp only [Act.put, List.setIfInBounds_toArray, List.set_cons_zero, List.set_cons_succ])
      refine wpAnyH_ready (rs := [18]) (by kernel_rfl) (by simp) ?_
      refine AllReadyH.cons (o := ?oi28) ?hi28 ?rest28 AllReadyH.nil
      case hi28 => simp only [List.getElem?_toArray, List.getElem?_cons_succ, List.getElem?_cons_zero]; rfl
      intro K hK
      go_simp
      (with_reducible refine (HM2.out _ _ R3.out D.out).mono ?_)
      rintro e y ⟨u5, rfl, r5, b5⟩
      have R5 := i' r5
      have D := i' (chain D.out b5)
      have ZB := i' (ZB.out.next b5)
      have RB := i' (RB.out.below b5)
      clear k0 k1 k2 k3 p0 p1 p2 p3 p4 p5
      obtain ⟨k0, k1, k2, k3⟩ := ZB.out
      have p0 := keep1 D.out d0
      have p1 := keep1 D.out d1
      have p2 := keep1 D.out d2
      have p3 := keep1 D.out d3
      have p4 := keep1 D.out d4
      have p5 := keep1 D.out d5
      clear r5 b5
      unfold iV
      (try go_wp2_with fail)
      refine hK.out _ _ ?_ (fun hHeld => ?_)
      ·(try dsimp only)
       exact ⟨p0, p1, p2, p3, p4, p5⟩
      clear hK K
      (try simp only [Act.put, List.setIfInBounds_toArray, List.set_cons_zero, List.set_cons_succ])
      refine wpAnyH_ready (rs := [19]) (by kernel_rfl) (by simp) ?_
      refine AllReadyH.cons (o := ?oi27) ?hi27 ?rest27 AllReadyH.nil
      case hi27 => simp only [List.getElem?_toArray, List.getElem?_cons_succ, List.getElem?_cons_zero]; rfl
      intro K hK
      go_simp
      (with_reducible refine (HS.out _ _ _ RB.out R5.out).mono ?_)
      rintro e y ⟨u4, rfl, r4, b4⟩
      have D := i' (chain D.out b4)
      have ZB := i' (ZB.out.next b4)
      have RB := i' (RB.out.below b4)
      clear k0 k1 k2 k3 p0 p1 p2 p3 p4 p5
      obtain ⟨k0, k1, k2, k3⟩ := ZB.out
      have p0 := keep1 D.out d0
      have p1 := keep1 D.out d1
      have p2 := keep1 D.out d2
      have p3 := keep1 D.out d3
      have p4 := keep1 D.out d4
      have p5 := keep1 D.out d5
      unfold iV
      obtain ⟨p7, bb4, o4, c4, rfl, rr4⟩ := r4
      have R4 : Hid (Rz y (.slice p7 (Nm.dg D9 (f (k + 1)).natAbs).length c4) (f (k + 1))) := ⟨p7, bb4, o4, c4, rfl, rr4⟩
      clear b4 rr4
      (try go_wp2_with fail)
      refine hK.out _ _ ?_ (fun hHeld => ?_)
      ·(try dsimp only)
       exact ⟨p0, p1, p2, p3, p4, p5⟩
      clear hK K
      (try simp only [Act.put, List.setIfInBounds_toArray, List.set_cons_zero, List.set_cons_succ])
      refine wpAnyH_ready (rs := [20]) (by kernel_rfl) (by simp) ?_
      refine AllReadyH.cons (o := ?oi26) ?hi26 ?rest26 AllReadyH.nil
      case hi26 => simp only [List.getElem?_toArray, List.getElem?_cons_succ, List.getElem?_cons_zero]; rfl
      intro K hK
      go_simp
      refine hK.out _ _ ?_ (fun hHeld => ?_)
      ·(try dsimp only)
       exact ⟨far2 (by simp only; first | exact q1 | exact q2) p0, far2 (by simp only; first | exact q1 | exact q2) p1, far2 (by simp only; first | exact q1 | exact q2) p2, far2 (by simp only; first | exact q1 | exact q2) p3, far2 (by simp only; first | exact q1 | exact q2) p4, far2 (by simp only; first | exact q1 | exact q2) p5⟩
      clear hK K
      (try simp only [Act.put, List.setIfInBounds_toArray, List.set_cons_zero, List.set_cons_succ])
      refine wpAnyH_done (by kernel_rfl) ?_ _
      refine NoPanic.normal ?_
      (try dsimp only [Exit.then])
      have TT := i' (Bz.store ⟨_, RB.out, ZB.out⟩ R4.out)
      have CC := i' (k'5c (chain hd.out D.out) (g := w0.heap.size) (Nat.le_refl _) (.bool (decide (f (k + 1) < 0))) (.slice p7 (Nm.dg D9 (f (k + 1)).natAbs).length c4))
      go_wp2
      go_roundw
      case rel => exact ⟨_, k + 1, rfl, by go_num, by omega, TT.out, CC.out⟩
      case measure => simp [intOf]; omega
     case rest39 =>
      intro K hK
      go_simp
      (with_reducible refine (HM1.out _ _ _ R1.out R2.out).mono ?_)
      rintro e y ⟨u3, rfl, r3, b3⟩
      have R3 := i' r3
      have D := i' (chain D.out b3)
      have ZB := i' (ZB.out.next b3)
      have RB := i' (RB.out.below b3)
      clear k0 k1 k2 k3 p0 p1 p2 p3 p4 p5
      obtain ⟨k0, k1, k2, k3⟩ := ZB.out
      have p0 := keep1 D.out d0
      have p1 := keep1 D.out d1
      have p2 := keep1 D.out d2
      have p3 := keep1 D.out d3
      have p4 := keep1 D.out d4
      have p5 := keep1 D.out d5
      clear r3 b3
      unfold iV
      (try go_wp2_with fail)
      refine hK.out _ _ ?_ (fun hHeld => ?_)
      ·(try dsimp only)
       exact ⟨p0, p1, p2, p3, p4, p5⟩
      clear hK K
      (try simp only [Act.put, List.setIfInBounds_toArray, List.set_cons_zero, List.set_cons_succ])
      refine wpAnyH_ready (rs := [0, 18]) (by kernel_rfl) (by simp) ?_
      refine AllReadyH.cons (o := ?oi36) ?hi36 ?rest36 (AllReadyH.cons (o := ?oi37) ?hi37 ?rest37 AllReadyH.nil)
      case hi36 => simp only [List.getElem?_toArray, List.getElem?_cons_succ, List.getElem?_cons_zero]; rfl
      case hi37 => simp only [List.getElem?_toArray, List.getElem?_cons_succ, List.getElem?_cons_zero]; rfl
      case rest36 =>
       intro K hK
       go_simp
       refine hK.out _ _ ?_ (fun hHeld => ?_)
       ·(try dsimp only)
        exact ⟨p0, p1, p2, p3, p4, p5⟩
       clear hK K
       (try simp only [Act.put, List.setIfInBounds_toArray, List.set_cons_zero, List.set_cons_succ])
       refine wpAnyH_ready (rs := [18]) (by kernel_rfl) (by simp) ?_
       refine AllReadyH.cons (o := ?oi32) ?hi32 ?rest32 AllReadyH.nil
       case hi32 => simp only [List.getElem?_toArray, List.getElem?_cons_succ, List.getElem?_cons_zero]; rfl
       intro K hK
       go_simp
       (with_reducible refine (HM2.out _ _ R3.out D.out).mono ?_)
       rintro e y ⟨u5, rfl, r5, b5⟩
       have R5 := i' r5
       have D := i' (chain D.out b5)
       have ZB := i' (ZB.out.next b5)
       have RB := i' (RB.out.below b5)
       clear k0 k1 k2 k3 p0 p1 p2 p3 p4 p5
       obtain ⟨k0, k1, k2, k3⟩ := ZB.out
       have p0 := keep1 D.out d0
       have p1 := keep1 D.out d1
       have p2 := keep1 D.out d2
       have p3 := keep1 D.out d3
       have p4 := keep1 D.out d4
       have p5 := keep1 D.out d5
       clear r5 b5
       unfold iV
       (try go_wp2_with fail)
       refine hK.out _ _ ?_ (fun hHeld => ?_)
       ·(try dsimp only)
        exact ⟨p0, p1, p2, p3, p4, p5⟩
       clear hK K
       (try simp only [Act.put, List.setIfInBounds_toArray, List.set_cons_zero, List.set_cons_succ])
       refine wpAnyH_ready (rs := [19]) (by kernel_rfl) (by simp) ?_
       refine AllReadyH.cons (o := ?oi31) ?hi31 ?rest31 AllReadyH.nil
       case hi31 => simp only [List.getElem?_toArray, List.getElem?_cons_succ, List.getElem?_cons_zero]; rfl
       intro K hK
       go_simp
       (with_reducible refine (HS.out _ _ _ RB.out R5.out).mono ?_)
       rintro e y ⟨u4, rfl, r4, b4⟩
       have D := i' (chain D.out b4)
       have ZB := i' (ZB.out.next b4)
       have RB := i' (RB.out.below b4)
       clear k0 k1 k2 k3 p0 p1 p2 p3 p4 p5
       obtain ⟨k0, k1, k2, k3⟩ := ZB.out
       have p0 := keep1 D.out d0
       have p1 := keep1 D.out d1
       have p2 := keep1 D.out d2
       have p3 := keep1 D.out d3
       have p4 := keep1 D.out d4
       have p5 := keep1 D.out d5
       unfold iV
       obtain ⟨p7, bb4, o4, c4, rfl, rr4⟩ := r4
       have R4 : Hid (Rz y (.slice p7 (Nm.dg D9 (f (k + 1)).natAbs).length c4) (f (k + 1))) := ⟨p7, bb4, o4, c4, rfl, rr4⟩
       clear b4 rr4
       (try go_wp2_with fail)
       refine hK.out _ _ ?_ (fun hHeld => ?_)
       ·(try dsimp only)
        exact ⟨p0, p1, p2, p3, p4, p5⟩
       clear hK K
       (try simp only [Act.put, List.setIfInBounds_toArray, List.set_cons_zero, List.set_cons_succ])
       refine wpAnyH_ready (rs := [20]) (by kernel_rfl) (by simp) ?_
       refine AllReadyH.cons (o := ?oi30) ?hi30 ?rest30 AllReadyH.nil
       case hi30 => simp only [List.getElem?_toArray, List.getElem?_cons_succ, List.getElem?_cons_zero]; rfl
       intro K hK
       go_simp
       refine hK.out _ _ ?_ (fun hHeld => ?_)
       ·(try dsimp only)
        exact ⟨far2 (by simp only; first | exact q1 | exact q2) p0, far2 (by simp only; first | exact q1 | exact q2) p1, far2 (by simp only; first | exact q1 | exact q2) p2, far2 (by simp only; first | exact q1 | exact q2) p3, far2 (by simp only; first | exact q1 | exact q2) p4, far2 (by simp only; first | exact q1 | exact q2) p5⟩
       clear hK K
       (try simp only [Act.put, List.setIfInBounds_toArray, List.set_cons_zero, List.set_cons_succ])
       refine wpAnyH_done (by kernel_rfl) ?_ _
       refine NoPanic.normal ?_
       (try dsimp only [Exit.then])
       have TT := i' (Bz.store ⟨_, RB.out, ZB.out⟩ R4.out)
       have CC := i' (k'5c (chain hd.out D.out) (g := w0.heap.size) (Nat.le_refl _) (.bool (decide (f (k + 1) < 0))) (.slice p7 (Nm.dg D9 (f (k + 1)).natAbs).length c4))
       go_wp2
       go_roundw
       case rel => exact ⟨_, k + 1, rfl, by go_num, by omega, TT.out, CC.out⟩
       case measure => simp [intOf]; omega
      case rest37 =>
       intro K hK
       go_simp
       (with_reducible refine (HM2.out _ _ R3.out D.out).mono ?_)
       rintro e y ⟨u5, rfl, r5, b5⟩
       have R5 := i' r5
       have D := i' (chain D.out b5)
       have ZB := i' (ZB.out.next b5)
       have RB := i' (RB.out.below b5)
       clear k0 k1 k2 k3 p0 p1 p2 p3 p4 p5
       obtain ⟨k0, k1, k2, k3⟩ := ZB.out
       have p0 := keep1 D.out d0
       have p1 := keep1 D.out d1
       have p2 := keep1 D.out d2
       have p3 := keep1 D.out d3
       have p4 := keep1 D.out d4
       have p5 := keep1 D.out d5
       clear r5 b5
       unfold iV
       (try go_wp2_with fail)
       refine hK.out _ _ ?_ (fun hHeld => ?_)
       ·(try dsimp only)
        exact ⟨p0, p1, p2, p3, p4, p5⟩
       clear hK K
       (try simp only [Act.put, List.setIfInBounds_toArray, List.set_cons_zero, List.set_cons_succ])
       refine wpAnyH_ready (rs := [0]) (by kernel_rfl) (by simp) ?_
       refine AllReadyH.cons (o := ?oi35) ?hi35 ?rest35 AllReadyH.nil
       case hi35 => simp only [List.getElem?_toArray, List.getElem?_cons_succ, List.getElem?_cons_zero]; rfl
       intro K hK
       go_simp
       refine hK.out _ _ ?_ (fun hHeld => ?_)
       ·(try dsimp only)
        exact ⟨p0, p1, p2, p3, p4, p5⟩
       clear hK K
       (try simp only [Act.put, List.setIfInBounds_toArray, List.set_cons_zero, List.set_cons_succ])
       refine wpAnyH_ready (rs := [19]) (by kernel_rfl) (by simp) ?_
       refine AllReadyH.cons (o := ?oi34) ?hi34 ?rest34 AllReadyH.nil
       case hi34 => simp only [List.getElem?_toArray, List.getElem?_cons_succ, List.getElem?_cons_zero]; rfl
       intro K hK
       go_simp
       (with_reducible refine (HS.out _ _ _ RB.out R5.out).mono ?_)
       rintro e y ⟨u4, rfl, r4, b4⟩
       have D := i' (chain D.out b4)
       have ZB := i' (ZB.out.next b4)
       have RB := i' (RB.out.below b4)
       clear k0 k1 k2 k3 p0 p1 p2 p3 p4 p5
       obtain ⟨k0, k1, k2, k3⟩ := ZB.out
       have p0 := keep1 D.out d0
       have p1 := keep1 D.out d1
       have p2 := keep1 D.out d2
       have p3 := keep1 D.out d3
       have p4 := keep1 D.out d4
       have p5 := keep1 D.out d5
       unfold iV
       obtain ⟨p7, bb4, o4, c4, rfl, rr4⟩ := r4
       have R4 : Hid (Rz y (.slice p7 (Nm.dg D9 (f (k + 1)).natAbs).length c4) (f (k + 1))) := ⟨p7, bb4, o4, c4, rfl, rr4⟩
       clear b4 rr4
       (try go_wp2_with fail)
       refine hK.out _ _ ?_ (fun hHeld => ?_)
       ·(try dsimp only)
        exact ⟨p0, p1, p2, p3, p4, p5⟩
       clear hK K
       (try simp only [Act.put, List.setIfInBounds_toArray, List.set_cons_zero, List.set_cons_succ])
       refine wpAnyH_ready (rs := [20]) (by kernel_rfl) (by simp) ?_
       refine AllReadyH.cons (o := ?oi33) ?hi33 ?rest33 AllReadyH.nil
       case hi33 => simp only [List.getElem?_toArray, List.getElem?_cons_succ, List.getElem?_cons_zero]; rfl
       intro K hK
       go_simp
       refine hK.out _ _ ?_ (fun hHeld => ?_)
       ·(try dsimp only)
        exact ⟨far2 (by simp only; first | exact q1 | exact q2) p0, far2 (by simp only; first | exact q1 | exact q2) p1, far2 (by simp only; first | exact q1 | exact q2) p2, far2 (by simp only; first | exact q1 | exact q2) p3, far2 (by simp only; first | exact q1 | exact q2) p4, far2 (by simp only; first | exact q1 | exact q2) p5⟩
       clear hK K
       (try simp only [Act.put, List.setIfInBounds_toArray, List.set_cons_zero, List.set_cons_succ])
       refine wpAnyH_done (by kernel_rfl) ?_ _
       refine NoPanic.normal ?_
       (try dsimp only [Exit.then])
       have TT := i' (Bz.store ⟨_, RB.out, ZB.out⟩ R4.out)
       have CC := i' (k'5c (chain hd.out D.out) (g := w0.heap.size) (Nat.le_refl _) (.bool (decide (f (k + 1) < 0))) (.slice p7 (Nm.dg D9 (f (k + 1)).natAbs).length c4))
       go_wp2
       go_roundw
       case rel => exact ⟨_, k + 1, rfl, by go_num, by omega, TT.out, CC.out⟩
       case measure => simp [intOf]; omega
  ·obtain rfl : k = n1 := by omega
   have HR := i' R
   have ZI := i' (I2.out.below hd.out)
   obtain ⟨_, _, -, m0, m1, m2, m3⟩ := ZI.out.open_
   have f1 : ¬ w0.heap.size = w.heap.size + 1 := by have := HZ0.out; omega
   have f2 : ¬ w.heap.size + 1 = w0.heap.size := by have := HZ0.out; omega
   have HZ := i' (k'5c (chain hb0.out hd.out) (g := w.heap.size + 1) (by omega) (.bool (decide (f k < 0))) (.slice pz (Nm.dg D9 (f k).natAbs).length cz))
   have HR2 := i' (HR.out.stored ZI.out (.bool (decide (f k < 0))) (.slice pz (Nm.dg D9 (f k).natAbs).length cz))
   clear R
   go_wp2
   exact bodyPost_ret (v := .agg #[.bool (decide (f k < 0)), .slice pz (Nm.dg D9 (f k).natAbs).length cz]) (by simp [results, Tryz.results47, go_sem, m0, m1]) rfl ⟨_, rfl, HR2.out, HZ.out⟩
theorem k'nd (xn xd : Int) (v v1 v2 : Value) (w : World) (h : RP w v []) (h1 : Rz w v1 xn) (h2 : Rz w v2 xd) :
 Calls Tryz.prog 49 #[v, qV xn xd v1 v2] w (RQPost 0 1 w) := by
 obtain ⟨a, b, off, cap, rfl, -, -, -, -⟩ := h
 obtain ⟨p1, bp1, o1, c1, rfl, -⟩ := h1
 obtain ⟨p2, bp2, o2, c2, rfl, -⟩ := h2
 have HN := i' (fun w => k'8f 1 w (by decide) (by decide))
 obtain ⟨m1, hm1⟩ : ∃ m1 : Int, m1 = 1 := ⟨_, rfl⟩
 have HN : Hid (∀ w, Calls Tryz.prog 74 #[.int .i64 1] w (IntPost m1 w)) := fun w => by rw [hm1]; exact k'8f 1 w (by decide) (by decide)
 rw [← hm1]
 clear hm1
 unfold qV
 unfold IntPost iV at HN
 obtain ⟨w0, hw0⟩ : ∃ w0 : World, w0 = (w.alloc (.cells #[.bool (decide (xn < 0)), .slice p1 (Nm.dg D9 xn.natAbs).length c1, .bool (decide (xd < 0)), .slice p2 (Nm.dg D9 xd.natAbs).length c2] 66)).alloc (.cells #[.bool false, .slice none 0 0, .bool false, .slice none 0 0] 66) := ⟨_, rfl⟩
 have hb0 : Hid (Below w.heap.size w w0) := by rw [hw0]; exact (k'56 _ _).alloc (by simp) _
 have I3 : Hid (ZC4 (.bool false) (.slice none 0 0) (.bool false) (.slice none 0 0) w0 (w.heap.size + 1)) := by
  show ZC4 _ _ _ _ _ _
  rw [hw0]
  have := ZC4.made0 (x := .bool false) (y := .slice none 0 0) (z := .bool false) (u := .slice none 0 0) (t := 66) (w.alloc (.cells #[.bool (decide (xn < 0)), .slice p1 (Nm.dg D9 xn.natAbs).length c1, .bool (decide (xd < 0)), .slice p2 (Nm.dg D9 xd.natAbs).length c2] 66))
  simpa using this
 have Hw0 := i' hw0
 clear hw0
 go_enter Tryz.func49, Tryz.ntmps49
 go_upto_region 1 with (fail)
 rw [← Hw0.out]
 go_wp2_with fail
 refine (HN.out _).mono ?_
 rintro e y ⟨u, rfl, r1, b1⟩
 have D := i' b1
 have R1 := i' r1
 obtain ⟨pu, bu, ou, cu, rfl, -⟩ := r1
 have Q3 := I3.out.next D.out
 have Q3h := i' Q3
 obtain ⟨⟨n0, n1, n2, n3⟩, n4, n5, n6, n7⟩ := Q3
 have HZ := i' (k'5g (chain hb0.out D.out) (g := w.heap.size + 1) (by omega) (.bool (decide ((0 : Int) < 0))) (.slice none 0 0) (.bool (decide (m1 < 0))) (.slice pu (Nm.dg D9 m1.natAbs).length cu))
 have HR1 := i' (Ri.set4 (k'h6 y) Q3h.out (.bool (decide ((0 : Int) < 0))) (.slice none 0 0) (.bool (decide (m1 < 0))) (.slice pu (Nm.dg D9 m1.natAbs).length cu))
 have HR2 := i' (Ri.set4 R1.out Q3h.out (.bool (decide ((0 : Int) < 0))) (.slice none 0 0) (.bool (decide (m1 < 0))) (.slice pu (Nm.dg D9 m1.natAbs).length cu))
 clear b1
 go_wp2
 exact bodyPost_ret (v := .agg #[.bool (decide ((0 : Int) < 0)), .slice none 0 0, .bool (decide (m1 < 0)), .slice pu (Nm.dg D9 m1.natAbs).length cu]) (by simp [results, Tryz.results49, go_sem, n0, n1, n2, n3]) rfl ⟨_, _, rfl, HR1.out, HR2.out, HZ.out⟩
theorem k'ne (n m : Nat) (p : List Int) (xn xd : Int) (v v1 v2 : Value) (w : World) (h : RP w v p) (hp0 : p ≠ []) (h1 : Rz w v1 xn) (h2 : Rz w v2 xd) (l : p.length ≤ 100) (s : Sz n p) (sx : xn.natAbs < D9 ^ m) (sd : xd.natAbs < D9 ^ m)
 (hk : n + 2 * (m * p.length) ≤ 80000) (hm : m ≤ 80000) (hd0 : xd ≠ 0) :
 Calls Tryz.prog 49 #[v, qV xn xd v1 v2] w (RQPost (Pl.ev (Pl.lev p xd) xn / lg (Pl.ev (Pl.lev p xd) xn) (xd ^ (p.length - 1))) (xd ^ (p.length - 1) / lg (Pl.ev (Pl.lev p xd) xn) (xd ^ (p.length - 1))) w) := by
 have HEv := i' (fun w' (hb : Below w.heap.size w w') => k'nc n m p xn xd v v1 v2 w' (h.below hb) (h1.below hb) (h2.below hb) l s sx sd hk hm)
 have hpl := List.length_pos_iff.2 hp0
 have hml : m * (p.length - 1) ≤ 80000 := by have := Nat.mul_le_mul_left m (show p.length - 1 ≤ p.length by omega); omega
 have HPw := i' (fun w' (hb : Below w.heap.size w w') => k'mn (p.length - 1) m (by omega) (by omega) (by omega) xd sd v2 w' (h2.below hb))
 obtain ⟨K9, hK9⟩ : ∃ K9, K9 = 90000 := ⟨_, rfl⟩
 have HLo := i' (fun u1 u2 w' (g1 : Rz w' u1 (Pl.ev (Pl.lev p xd) xn)) (g2 : Rz w' u2 (xd ^ (p.length - 1))) => k'ha (Pl.ev (Pl.lev p xd) xn) (xd ^ (p.length - 1)) u1 u2 w' K9 (by omega)
  (by
   have h5 := k'nb s sx sd l p.length (Nat.le_refl _)
   have h6 := Pl.evs_all (Pl.lev p xd) xn
   rw [Pl.lev_length] at h6
   rw [h6] at h5
   exact Nat.lt_of_lt_of_le h5 (Nat.pow_le_pow_right (by decide) (by omega)))
  (Nat.lt_of_lt_of_le (pow9 sd) (Nat.pow_le_pow_right (by decide) (by omega))) (Int.pow_ne_zero hd0) g1 g2)
 generalize Pl.ev (Pl.lev p xd) xn = ne at *
 generalize hpw : xd ^ (p.length - 1) = de at *
 generalize ne / lg ne de = qn at *
 generalize de / lg ne de = qd at *
 clear hpw s sx sd hk hm hd0 hp0 hml hK9
 obtain ⟨a, b, off, cap, rfl, -, -, -, -⟩ := h
 obtain ⟨p1, bp1, o1, c1, rfl, -⟩ := h1
 obtain ⟨p2, bp2, o2, c2, rfl, -⟩ := h2
 obtain ⟨n1, hn1⟩ : ∃ n, n = p.length := ⟨_, rfl⟩
 rw [← hn1] at HEv HPw l hpl ⊢
 clear hn1
 have z1 : ((n1 : Int) == 0) = false := by simp; omega
 have hw1 : IntKind.i64.wrap ((n1 : Int) - 1) = ((n1 - 1 : Nat) : Int) := by rw [IntWalk.i64_in _ (by omega)]; omega
 unfold qV at HEv ⊢
 unfold iV at HPw HLo
 unfold RQPost qV at HLo
 generalize (Nm.dg D9 xn.natAbs).length = ln at *
 generalize (Nm.dg D9 xd.natAbs).length = ld at *
 generalize decide (xn < 0) = bn at *
 generalize decide (xd < 0) = bd at *
 obtain ⟨w0, hw0⟩ : ∃ w0 : World, w0 = (w.alloc (.cells #[.bool bn, .slice p1 ln c1, .bool bd, .slice p2 ld c2] 66)).alloc (.cells #[.bool false, .slice none 0 0, .bool false, .slice none 0 0] 66) := ⟨_, rfl⟩
 have hb0 : Hid (Below w.heap.size w w0) := by rw [hw0]; exact (k'56 _ _).alloc (by simp) _
 have HQ : Hid (ZC4 (.bool bn) (.slice p1 ln c1) (.bool bd) (.slice p2 ld c2) w0 w.heap.size) := by show ZC4 _ _ _ _ _ _; rw [hw0]; exact (ZC4.made0 _).next (k'56 _ _)
 have I3 : Hid (ZC4 (.bool false) (.slice none 0 0) (.bool false) (.slice none 0 0) w0 (w.heap.size + 1)) := by
  show ZC4 _ _ _ _ _ _
  rw [hw0]
  have := ZC4.made0 (x := .bool false) (y := .slice none 0 0) (z := .bool false) (u := .slice none 0 0) (t := 66) (w.alloc (.cells #[.bool bn, .slice p1 ln c1, .bool bd, .slice p2 ld c2] 66))
  simpa using this
 have Hw0 := i' hw0
 clear hw0
 obtain ⟨⟨d0, d1, d2, d3⟩, -, -, -, -⟩ := HQ.out
 go_enter Tryz.func49, Tryz.ntmps49
 go_upto_region 1 with (fail)
 rw [← Hw0.out]
 clear Hw0
 go_upto_region 3 with (fail)
 go_region_held3 (fun W' => W'.cell? ⟨w.heap.size, 0, none⟩ = some (.bool bn) ∧ W'.cell? ⟨w.heap.size, 1, none⟩ = some (.slice p1 ln c1) ∧ W'.cell? ⟨w.heap.size, 2, none⟩ = some (.bool bd) ∧ W'.cell? ⟨w.heap.size, 3, none⟩ = some (.slice p2 ld c2)) (go_keep)
  (first
   | (go_at_call 47; (with_reducible refine (HEv.out _ (hb0.out.drew)).mono ?_); rintro e y1 ⟨u1, rfl, r1, b1⟩; unfold iV; have D := i' (chain ((Below.refl _ _).drew) b1); have p0 := keep1 D.out d0; have p1 := keep1 D.out d1; have p2 := keep1 D.out d2; have p3 := keep1 D.out d3; have R1 := i' r1; clear r1 b1)
   | (go_at_call 104; (with_reducible refine (HPw.out _ (chain hb0.out D.out)).mono ?_); rintro e y2 ⟨u2, rfl, r2, b2⟩; unfold iV; have D := i' (chain D.out b2); have p0 := keep1 D.out d0; have p1 := keep1 D.out d1; have p2 := keep1 D.out d2; have p3 := keep1 D.out d3; have R1 := i' (R1.out.below b2); have R2 := i' r2; clear r2 b2)
   | (go_at_call 106; (with_reducible refine (HLo.out _ _ _ R1.out R2.out).mono ?_); rintro e y3 ⟨u3, u4, rfl, r3, r4, b3⟩; have D := i' (chain D.out b3); have p0 := keep1 D.out d0; have p1 := keep1 D.out d1; have p2 := keep1 D.out d2; have p3 := keep1 D.out d3; have Q3h := i' (I3.out.next D.out); obtain ⟨⟨n0, n1', n2, n3⟩, n4, n5, n6, n7⟩ := Q3h.out; have R3 := i' r3; have R4 := i' r4; obtain ⟨pu, bu, ou, cu, rfl, rru⟩ := r3; obtain ⟨pv, bv', ov, cv, rfl, rrv⟩ := r4; clear rru rrv b3)
   | fail)
 have HZ := i' (k'5g (chain hb0.out D.out) (g := w.heap.size + 1) (by omega) (.bool (decide (qn < 0))) (.slice pu (Nm.dg D9 qn.natAbs).length cu) (.bool (decide (qd < 0))) (.slice pv (Nm.dg D9 qd.natAbs).length cv))
 have HR1 := i' (Ri.set4 R3.out Q3h.out (.bool (decide (qn < 0))) (.slice pu (Nm.dg D9 qn.natAbs).length cu) (.bool (decide (qd < 0))) (.slice pv (Nm.dg D9 qd.natAbs).length cv))
 have HR2 := i' (Ri.set4 R4.out Q3h.out (.bool (decide (qn < 0))) (.slice pu (Nm.dg D9 qn.natAbs).length cu) (.bool (decide (qd < 0))) (.slice pv (Nm.dg D9 qd.natAbs).length cv))
 go_wp2
 exact bodyPost_ret (v := .agg #[.bool (decide (qn < 0)), .slice pu (Nm.dg D9 qn.natAbs).length cu, .bool (decide (qd < 0)), .slice pv (Nm.dg D9 qd.natAbs).length cv]) (by simp [results, Tryz.results49, go_sem, n0, n1', n2, n3]) rfl ⟨_, _, rfl, HR1.out, HR2.out, HZ.out⟩
def Fresh (B : Nat) (v : Value) : Prop := ∃ (p : Option Addr) (n c : Nat), v = .slice p n c ∧ ∀ a, p = some a → B ≤ a.block
theorem Fresh.any {B : Nat} {p : Option Addr} {n c : Nat} (h : Fresh B (.slice p n c)) (m : Nat) : Fresh B (.slice p m c) := by
 obtain ⟨q, n', c', h1, h2⟩ := h
 injection h1 with e1 e2 e3
 subst e1
 exact ⟨p, m, c, rfl, h2⟩
theorem Fresh.le {B B' : Nat} {v : Value} (h : Fresh B v) (hb : B' ≤ B) : Fresh B' v := by
 obtain ⟨q, n, c, h1, h2⟩ := h
 exact ⟨q, n, c, h1, fun a ha => Nat.le_trans hb (h2 a ha)⟩
theorem RowP.fresh {w : World} {B : Nat} {v : Value} {p : List Int} (h : RowP w B v p) : Fresh B v := by
 obtain ⟨us, hl, ho, hz⟩ := h
 rcases ho.2 with ⟨rfl, h0⟩ | ⟨g, cap, cur, rfl, hB, hg, hn, hm, hs, ht⟩
 ·exact ⟨none, 0, 0, rfl, fun a h => by cases h⟩
 ·exact ⟨_, _, _, rfl, fun a h => by cases h; exact hB⟩
def RPFresh (B : Nat) (p : List Int) (w : World) (e : Ending) (w' : World) : Prop := ∃ v, e = .returned v ∧ RP w' v p ∧ Fresh B v ∧ Below w.heap.size w w'
def NBk (v : Value) (g : Nat) : Prop := ∀ (a : Addr) (n c : Nat), v = .slice (some a) n c → a.block ≠ g
theorem RP.set4 {w : World} {g : Nat} {v : Value} {p : List Int} {b0 b1 : Bool} {q q' : Option Addr} {n c n' c' : Nat} (h : RP w v p) (hb : p ≠ [] → NBk v g) (z : ZC4 (.bool b0) (.slice q n c) (.bool b1) (.slice q' n' c') w g) (u0 u1 u2 u3 : Value) : RP ((((w.setCell ⟨g, 0, none⟩ u0).setCell ⟨g, 1, none⟩ u1).setCell ⟨g, 2, none⟩ u2).setCell ⟨g, 3, none⟩ u3) v p := by
 obtain ⟨a, b, off, cap, rfl, h2, h3, h4, h5⟩ := h
 refine ⟨a, b, off, cap, rfl, h2, h3, h4, fun k hk => ?_⟩
 obtain ⟨u, g1, g2, g3⟩ := h5 k hk
 have hp0 : p ≠ [] := by intro e; rw [e] at hk; exact absurd hk (Nat.not_lt_zero _)
 obtain rfl := h4 hp0
 have hn := hb hp0 ⟨b, off, none⟩ _ _ rfl
 simp only at hn
 have hn2 : ¬ g = b := fun e => hn e.symm
 refine ⟨u, ?_, ?_, g3.set4 z _ _ _ _⟩
 ·simp [go_sem, g1, hn, hn2]
 ·simp [go_sem, g2, hn, hn2]
theorem RP.nb {w : World} {g : Nat} {v : Value} {p : List Int} (h : RP w v p) (hp : p ≠ []) (hg : w.heap.size ≤ g) : NBk v g := by
 obtain ⟨a, b, off, cap, rfl, h2, h3, h4, h5⟩ := h
 obtain rfl := h4 hp
 obtain ⟨u, g1, -, -⟩ := h5 0 (List.length_pos_iff.2 hp)
 have hbl := World.block_lt_of_cell? w _ g1
 simp only at hbl
 intro a n c e
 injection e with e1 e2 e3
 injection e1 with e1
 subst e1
 exact Nat.ne_of_lt (Nat.lt_of_lt_of_le hbl hg)
theorem Fresh.nb {B g : Nat} {v : Value} (h : Fresh B v) (hg : g < B) : NBk v g := by
 obtain ⟨q, n, c, rfl, h2⟩ := h
 intro a n' c' e
 injection e with e1 e2 e3
 have := h2 a e1
 omega
def CutV (vx : Value) (p : List Int) (x s y t : Value) (X Y : Int) (B : Nat) (wb wx : World) (g : Nat) : Prop := B ≤ g ∧ ZC4 x s y t wx g ∧ RP wx vx p ∧ Rz wx s X ∧ Rz wx t Y ∧ Below B wb wx
section
variable {vx x s y t : Value} {p : List Int} {X Y : Int} {B g : Nat} {wb w3 : World} {tt : TypeId} {b0 b1 : Bool} {q q' : Option Addr} {n c n' c' : Nat}
theorem CutV.k1 (hr : RP w3 vx p) (hs : Rz w3 s X) (ht : Rz w3 t Y) (b : Below B wb w3) (hB : B ≤ w3.heap.size) : CutV vx p x s y t X Y B wb (w3.alloc (.cells #[x, s, y, t] tt)) w3.heap.size :=
 have hb := k'56 w3 (.cells #[x, s, y, t] tt)
 ⟨hB, ZC4.made0 _, hr.below hb, hs.below hb, ht.below hb, b.alloc hB _⟩
theorem CutV.k2 (z : ZC4 (.bool b0) (.slice q n c) (.bool b1) (.slice q' n' c') w3 g) (hg : B ≤ g) (hr : RP w3 vx p) (hn : p ≠ [] → NBk vx g) (hs : Rz w3 s X) (ht : Rz w3 t Y) (b : Below B wb w3) :
 CutV vx p x s y t X Y B wb ((((w3.setCell ⟨g, 0, none⟩ x).setCell ⟨g, 1, none⟩ s).setCell ⟨g, 2, none⟩ y).setCell ⟨g, 3, none⟩ t) g :=
 ⟨hg, z.set, hr.set4 hn z _ _ _ _, hs.set4 z _ _ _ _, ht.set4 z _ _ _ _, k'5g b hg _ _ _ _⟩
end
theorem k'ni (L : List (Bool × ByteArray)) (p : List Int) (X Y N D ev sg : Int) (eb nb db : Bool) (es ns ds : ByteArray) (v : Value) (b1 b2 : Bool) (s1 s2 : ByteArray) (w : World) (h : Rw w v L) (z1 : s1.size ≤ 9223372036854775807) (z2 : s2.size ≤ 9223372036854775807)
 (HS : ∀ w', Below w.heap.size w w' → Calls Tryz.prog 11 #[.slice (some ⟨w'.heap.size, 0, none⟩) 1 1] (w'.alloc (.cells #[v] 23)) (BPost true w'))
 (l1 : s1.size ≤ 10)
 (l2 : s2.size ≤ 10)
 (HA : ∀ w', Below w.heap.size w w' → Calls Tryz.prog 42 #[v, .agg #[.bool b1, .string s1, .bool b2, .string s2]] w' (Ret (.tuple #[.agg #[.bool eb, .string es], .int .i64 0]) w'))
 (HB : ∀ w', Below w.heap.size w w' → Calls Tryz.prog 43 #[v, .agg #[.bool b1, .string s1, .bool b2, .string s2]] w' (Ret (.tuple #[.agg #[.bool nb, .string ns, .bool db, .string ds], .int .i64 0]) w'))
 (HC : ∀ w', Below w.heap.size w w' → Calls Tryz.prog 44 #[v, .agg #[.bool b1, .string s1, .bool b2, .string s2]] w' (Ret (.tuple #[.int .i64 sg, .int .i64 0]) w'))
 (HV : ∀ w', Below w.heap.size w w' → Calls Tryz.prog 19 #[.slice (some ⟨w'.heap.size, 0, none⟩) 1 1] (w'.alloc (.cells #[v] 23)) (BPost true w'))
 (HW : ∀ w', Calls Tryz.prog 45 #[.agg #[.bool b1, .string s1, .bool b2, .string s2]] w' (BPost true w'))
 (HF : ∀ w', Below w.heap.size w w' → Calls Tryz.prog 21 #[v] w' (RPFresh w'.heap.size p w'))
 (HG : ∀ w', Calls Tryz.prog 46 #[.agg #[.bool b1, .string s1, .bool b2, .string s2]] w' (RQPost X Y w'))
 (HEv : ∀ w' x v1 v2, RP w' x p → Rz w' v1 X → Rz w' v2 Y → Calls Tryz.prog 47 #[x, qV X Y v1 v2] w' (IntPost ev w'))
 (HVa : ∀ w' x v1 v2, RP w' x p → Rz w' v1 X → Rz w' v2 Y → Calls Tryz.prog 49 #[x, qV X Y v1 v2] w' (RQPost N D w'))
 (HO : ∀ w' v1 v2, Rz w' v1 N → Rz w' v2 D → Calls Tryz.prog 48 #[qV N D v1 v2] w' (Ret (.tuple #[.agg #[.bool nb, .string ns, .bool db, .string ds], .int .i64 0]) w'))
 (HT : ∀ w' u, Rz w' u ev → Calls Tryz.prog 39 #[iV ev u] w' (Ret (.agg #[.bool eb, .string es]) w'))
 (HSg : ∀ w' u, Rz w' u ev → Calls Tryz.prog 50 #[iV ev u] w' (SignPost sg w')) :
 Calls Tryz.prog 6 #[v, .agg #[.bool b1, .string s1, .bool b2, .string s2]] w (Ret (.bool true) w) := by
 obtain ⟨w0, hw0⟩ : ∃ w0 : World, w0 = w.alloc (.cells #[.bool b1, .string s1, .bool b2, .string s2] 59) := ⟨_, rfl⟩
 have I1 : Hid (ZC4 (.bool b1) (.string s1) (.bool b2) (.string s2) w0 w.heap.size) := by rw [hw0]; exact ZC4.made0 w
 have E : Hid (Below w.heap.size w w0) := by rw [hw0]; exact k'56 _ _
 have Hsz : Hid (w.heap.size + 1 ≤ w0.heap.size) := by show _ ≤ _; rw [hw0]; simp
 have HK := i' k'l8
 have HS := i' HS
 have HA := i' HA
 have HB := i' HB
 have HC := i' HC
 have HV := i' HV
 have HW := i' HW
 have HF := i' HF
 have HG := i' HG
 have HEv := i' HEv
 have HVa := i' HVa
 have HO := i' HO
 have HT := i' HT
 have HSg := i' HSg
 have f1 : ¬ (10 : Int) < (s1.size : Int) := by omega
 have f2 : ¬ (10 : Int) < (s2.size : Int) := by omega
 obtain ⟨p1, a1, o1, c1, rfl, -, -, -, -⟩ := h
 generalize L.length = n1 at *
 clear z1 z2 l1 l2
 unfold RPFresh RQPost IntPost SignPost at *
 unfold qV iV at *
 generalize decide (X < 0) = bX at *
 generalize decide (Y < 0) = bY at *
 generalize decide (N < 0) = bN at *
 generalize decide (D < 0) = bD at *
 generalize decide (ev < 0) = bE at *
 unfold BPost at *
 unfold Ret at *
 go_enter Tryz.func6, Tryz.ntmps6
 go_upto_region 1 with (fail)
 rw [← hw0]
 clear hw0
 go_wp2_with fail
 refine (HS.out _ E.out).mono ?_
 rintro e x1 ⟨rfl, d1⟩
 have I1 := i' (I1.out.next d1)
 have E := i' (chain E.out d1)
 have Hsz := i' (Nat.le_trans Hsz.out (Below.size d1))
 clear d1
 obtain ⟨⟨k0, k1, k2, k3⟩, _⟩ := I1.out
 go_wp2_with fail
 clear k0 k1 k2 k3
 refine (HA.out _ E.out).mono ?_
 rintro e x2 ⟨rfl, d2⟩
 have I1 := i' (I1.out.next d2)
 have E := i' (chain E.out d2)
 have Hsz := i' (Nat.le_trans Hsz.out (Below.size d2))
 clear d2
 obtain ⟨⟨k0, k1, k2, k3⟩, _⟩ := I1.out
 clear k0 k1 k2 k3
 obtain ⟨u5, hu⟩ : ∃ u : World, u = x2.alloc (.cells #[.bool eb, .string es] 44) := ⟨_, rfl⟩
 have N9 : Hid (ZC (.bool eb) (.string es) u5 x2.heap.size) := by rw [hu]; exact ZC.new rfl
 have B9 : Hid (Below x2.heap.size x2 u5) := by rw [hu]; exact k'56 _ _
 have E := i' (chain E.out B9.out)
 have Hsz := i' (Nat.le_trans Hsz.out B9.out.size)
 have I1 := i' (I1.out.next B9.out)
 have T5 := N9
 go_upto_region 4 with (fail)
 rw [← hu]
 clear hu B9 N9
 obtain ⟨⟨k0, k1, k2, k3⟩, _⟩ := I1.out
 go_wp2_with fail
 clear k0 k1 k2 k3
 refine (HB.out _ E.out).mono ?_
 rintro e x3 ⟨rfl, d3⟩
 have I1 := i' (I1.out.next d3)
 have T5 := i' (T5.out.next d3)
 have E := i' (chain E.out d3)
 have Hsz := i' (Nat.le_trans Hsz.out (Below.size d3))
 clear d3
 obtain ⟨⟨k0, k1, k2, k3⟩, _⟩ := I1.out
 clear k0 k1 k2 k3
 obtain ⟨u7, hu⟩ : ∃ u : World, u = x3.alloc (.cells #[.bool nb, .string ns, .bool db, .string ds] 59) := ⟨_, rfl⟩
 have N9 : Hid (ZC4 (.bool nb) (.string ns) (.bool db) (.string ds) u7 x3.heap.size) := by rw [hu]; exact ZC4.made0 x3
 have B9 : Hid (Below x3.heap.size x3 u7) := by rw [hu]; exact k'56 _ _
 have E := i' (chain E.out B9.out)
 have Hsz := i' (Nat.le_trans Hsz.out B9.out.size)
 have I1 := i' (I1.out.next B9.out)
 have T5 := i' (T5.out.next B9.out)
 have T7 := N9
 go_upto_region 5 with (fail)
 rw [← hu]
 clear hu B9 N9
 obtain ⟨⟨k0, k1, k2, k3⟩, _⟩ := I1.out
 go_wp2_with fail
 clear k0 k1 k2 k3
 refine (HC.out _ E.out).mono ?_
 rintro e x4 ⟨rfl, d4⟩
 have I1 := i' (I1.out.next d4)
 have T5 := i' (T5.out.next d4)
 have T7 := i' (T7.out.next d4)
 have E := i' (chain E.out d4)
 have Hsz := i' (Nat.le_trans Hsz.out (Below.size d4))
 clear d4
 obtain ⟨⟨k0, k1, k2, k3⟩, _⟩ := I1.out
 go_wp2_with fail
 clear k0 k1 k2 k3
 refine (HV.out _ E.out).mono ?_
 rintro e x5 ⟨rfl, d5⟩
 have I1 := i' (I1.out.next d5)
 have T5 := i' (T5.out.next d5)
 have T7 := i' (T7.out.next d5)
 have E := i' (chain E.out d5)
 have Hsz := i' (Nat.le_trans Hsz.out (Below.size d5))
 clear d5
 obtain ⟨⟨k0, k1, k2, k3⟩, _⟩ := I1.out
 go_wp2_with fail
 clear k0 k1 k2 k3
 refine (HW.out _).mono ?_
 rintro e x6 ⟨rfl, d6⟩
 have I1 := i' (I1.out.next d6)
 have T5 := i' (T5.out.next d6)
 have T7 := i' (T7.out.next d6)
 have E := i' (chain E.out d6)
 have Hsz := i' (Nat.le_trans Hsz.out (Below.size d6))
 clear d6
 obtain ⟨⟨k0, k1, k2, k3⟩, _⟩ := I1.out
 have qa : ¬ w.heap.size = x6.heap.size := by have := Hsz.out; omega
 have qb : ¬ x6.heap.size = w.heap.size := fun e => qa e.symm
 go_upto_region 8 with (fail)
 go_cut [11, 12] (fun s7 s8 wx => ∃ (g7 : Nat) (vx : Value) (y1 y2 : Option Addr) (m1 c1 m2 c2 : Nat), s7 = vx ∧ s8 = .pointer (some ⟨g7, 0, none⟩) ∧ Hid (CutV vx p (.bool bX) (.slice y1 m1 c1) (.bool bY) (.slice y2 m2 c2) X Y x6.heap.size x6 wx g7))
 case first =>
  rename_i J0 K0 hRJ hMK
  go_region_held3 (fun W' => W'.cell? ⟨w.heap.size, 0, none⟩ = some (.bool b1) ∧ W'.cell? ⟨w.heap.size, 1, none⟩ = some (.string s1) ∧ W'.cell? ⟨w.heap.size, 2, none⟩ = some (.bool b2) ∧ W'.cell? ⟨w.heap.size, 3, none⟩ = some (.string s2)) (go_keep)
   (first
    | (go_at_call 21; (with_reducible refine (HF.out _ (chain E.out (by first | exact Below.refl _ _ | exact (Below.refl _ _).drew | exact k'56 _ _ | exact (k'56 _ _).drew | exact ((Below.refl _ _).drew).alloc (Nat.le_refl _) _))).mono ?_); rintro e w1 ⟨vx, rfl, r1, f1, b1⟩; (try (have b1 := k'5b b1)); have d1 : Below x6.heap.size x6 w1 := chain (by first | exact Below.refl _ _ | exact (Below.refl _ _).drew | exact k'56 _ _ | exact (k'56 _ _).drew | exact ((Below.refl _ _).drew).alloc (Nat.le_refl _) _) b1; have j0 := keep1 d1 k0; have j1 := keep1 d1 k1; have j2 := keep1 d1 k2; have j3 := keep1 d1 k3; have ha : ¬ w.heap.size = w1.heap.size := (by have := Hsz.out; have := d1.size; omega); have hb : ¬ w1.heap.size = w.heap.size := fun e => ha e.symm; (try (have A0 := i' (ZC4.made (g := x6.heap.size) rfl b1); have NB0 : Hid (p ≠ [] → NBk vx x6.heap.size) := fun _ => f1.nb (by simp); obtain ⟨⟨A0a, A0b, A0c, A0d⟩, A0e, A0f, A0g, A0h⟩ := A0.out)); have NB1 : Hid (p ≠ [] → NBk vx w1.heap.size) := fun h0 => RP.nb r1 h0 (Nat.le_refl _); have G1 := i' r1; clear r1 f1)
    | (go_at_call 46; (with_reducible refine (HG.out _).mono ?_); rintro e w2 ⟨v1, v2, rfl, r2, q2, b2⟩; (try (have b2 := k'5b b2)); have d2 : Below w1.heap.size w1 w2 := chain (by first | exact Below.refl _ _ | exact (Below.refl _ _).drew | exact k'56 _ _ | exact (k'56 _ _).drew | exact ((Below.refl _ _).drew).alloc (Nat.le_refl _) _) b2; have c2 : Below x6.heap.size x6 w2 := chain d1 d2; have i0 := keep1 c2 k0; have i1 := keep1 c2 k1; have i2 := keep1 c2 k2; have i3 := keep1 c2 k3; (try (have A0 := i' (A0.out.next d2); obtain ⟨⟨A0a, A0b, A0c, A0d⟩, A0e, A0f, A0g, A0h⟩ := A0.out)); (try (have A1 := i' (ZC4.made (g := w1.heap.size) rfl b2); obtain ⟨⟨A1a, A1b, A1c, A1d⟩, A1e, A1f, A1g, A1h⟩ := A1.out)); have G1 := i' (RP.below G1.out d2); have G2 := i' (And.intro r2 q2); obtain ⟨pp2, bb2, oo2, cc2, rfl, rr2⟩ := r2; obtain ⟨pq2, bq2, oq2, cq2, rfl, rq2⟩ := q2; clear rr2 rq2)
    | fail)
  all_goals
   have r := G2.out
   refine hMK _ _ (Met.intro (hRJ _ _ ?_))
   (repeat apply Exists.intro)
   refine ⟨?_, rfl⟩
   refine ⟨_, _, pp2, pq2, (Nm.dg D9 X.natAbs).length, cc2, (Nm.dg D9 Y.natAbs).length, cq2, rfl, rfl, ?_⟩
   show CutV _ _ _ _ _ _ _ _ _ _ _ _
   first
    | with_reducible exact CutV.k1 G1.out r.1 r.2 c2 c2.size
    | with_reducible exact CutV.k2 A0.out (Nat.le_refl _) G1.out NB0.out r.1 r.2 c2
    | with_reducible exact CutV.k2 A1.out d1.size G1.out NB1.out r.1 r.2 c2
    | fail
 obtain ⟨g7, vx, y1, y2, m1, c1, m2, c2, rfl, rfl, hcut⟩ := hcut
 obtain ⟨_, T12, RX, RN, RD, bxx⟩ := hcut.out
 have E := i' (chain E.out bxx)
 have T5 := i' (T5.out.next bxx)
 have T7 := i' (T7.out.next bxx)
 have T12 := i' T12
 have RX := i' RX
 have RN := i' RN
 have RD := i' RD
 obtain ⟨y8, hy8⟩ : ∃ y : World, y = wc := ⟨_, rfl⟩
 subst hy8
 clear bxx hcut k0 k1 k2 k3 I1 qa qb Hsz
 obtain ⟨⟨k0, k1, k2, k3⟩, _⟩ := T12.out
 go_wp2_with fail
 refine (HEv.out _ _ _ _ RX.out RN.out RD.out).mono ?_
 rintro e x20 ⟨ve, rfl, re, d20⟩
 have RX := i' (RX.out.below d20)
 have RN := i' (RN.out.below d20)
 have RD := i' (RD.out.below d20)
 have T5 := i' (T5.out.next d20)
 have T7 := i' (T7.out.next d20)
 have T12 := i' (T12.out.next d20)
 have E := i' (chain E.out d20)
 have RE := i' re
 obtain ⟨pe, be, oe, ce, rfl, -⟩ := re
 generalize (Nm.dg D9 ev.natAbs).length = le at *
 clear d20 k0 k1 k2 k3
 obtain ⟨u13, hu⟩ : ∃ u : World, u = x20.alloc (.cells #[.bool bE, .slice pe le ce] 52) := ⟨_, rfl⟩
 have N9 : Hid (ZC (.bool bE) (.slice pe le ce) u13 x20.heap.size) := by rw [hu]; exact ZC.new rfl
 have B9 : Hid (Below x20.heap.size x20 u13) := by rw [hu]; exact k'56 _ _
 have E := i' (chain E.out B9.out)
 have RX := i' (RX.out.below B9.out)
 have RN := i' (RN.out.below B9.out)
 have RD := i' (RD.out.below B9.out)
 have RE := i' (RE.out.below B9.out)
 have T5 := i' (T5.out.next B9.out)
 have T7 := i' (T7.out.next B9.out)
 have T12 := i' (T12.out.next B9.out)
 have T13 := N9
 go_upto_region 10 with (fail)
 rw [← hu]
 clear hu B9 N9
 obtain ⟨⟨k0, k1, k2, k3⟩, _⟩ := T12.out
 go_wp2_with fail
 refine (HVa.out _ _ _ _ RX.out RN.out RD.out).mono ?_
 rintro e x21 ⟨vn, vd, rfl, rn, rd, d21⟩
 have RX := i' (RX.out.below d21)
 have RN := i' (RN.out.below d21)
 have RD := i' (RD.out.below d21)
 have RE := i' (RE.out.below d21)
 have T5 := i' (T5.out.next d21)
 have T7 := i' (T7.out.next d21)
 have T12 := i' (T12.out.next d21)
 have T13 := i' (T13.out.next d21)
 have E := i' (chain E.out d21)
 have RN := i' rn
 have RD := i' rd
 clear rn rd
 clear d21 k0 k1 k2 k3
 clear T12 RX
 go_wp2_with fail
 refine (HO.out _ _ _ RN.out RD.out).mono ?_
 rintro e x22 ⟨rfl, d22⟩
 have RE := i' (RE.out.below d22)
 have T5 := i' (T5.out.next d22)
 have T7 := i' (T7.out.next d22)
 have T13 := i' (T13.out.next d22)
 have E := i' (chain E.out d22)
 clear d22 RN RD
 obtain ⟨u14, hu⟩ : ∃ u : World, u = x22.alloc (.cells #[.bool nb, .string ns, .bool db, .string ds] 59) := ⟨_, rfl⟩
 have N9 : Hid (ZC4 (.bool nb) (.string ns) (.bool db) (.string ds) u14 x22.heap.size) := by rw [hu]; exact ZC4.made0 x22
 have B9 : Hid (Below x22.heap.size x22 u14) := by rw [hu]; exact k'56 _ _
 have E := i' (chain E.out B9.out)
 have RE := i' (RE.out.below B9.out)
 have T5 := i' (T5.out.next B9.out)
 have T7 := i' (T7.out.next B9.out)
 have T13 := i' (T13.out.next B9.out)
 have T14 := N9
 go_upto_region 11 with (fail)
 rw [← hu]
 clear hu B9 N9
 obtain ⟨k0, k1, _⟩ := T5.out
 obtain ⟨⟨k2, k3, k4, k5⟩, _⟩ := T7.out
 obtain ⟨k6, k7, _⟩ := T13.out
 obtain ⟨⟨k8, k9, k10, k11⟩, _⟩ := T14.out
 clear T5 T7 T13 T14
 go_region_held3 (fun W' => W'.cell? ⟨x2.heap.size, 0, none⟩ = some (.bool eb) ∧ W'.cell? ⟨x2.heap.size, 1, none⟩ = some (.string es) ∧ W'.cell? ⟨x3.heap.size, 0, none⟩ = some (.bool nb) ∧ W'.cell? ⟨x3.heap.size, 1, none⟩ = some (.string ns) ∧ W'.cell? ⟨x3.heap.size, 2, none⟩ = some (.bool db) ∧ W'.cell? ⟨x3.heap.size, 3, none⟩ = some (.string ds) ∧ W'.cell? ⟨x20.heap.size, 0, none⟩ = some (.bool bE) ∧ W'.cell? ⟨x20.heap.size, 1, none⟩ = some (.slice pe le ce) ∧ W'.cell? ⟨x22.heap.size, 0, none⟩ = some (.bool nb) ∧ W'.cell? ⟨x22.heap.size, 1, none⟩ = some (.string ns) ∧ W'.cell? ⟨x22.heap.size, 2, none⟩ = some (.bool db) ∧ W'.cell? ⟨x22.heap.size, 3, none⟩ = some (.string ds)) (go_keep)
  (first
   | (go_at_call 39; (with_reducible refine (HT.out _ _ (Rz.below RE.out ?pva_b)).mono ?_); (first | exact D.out | exact (Below.refl _ _).drew); rintro e y ⟨rfl, b9⟩; have D := i' (show Below u14.heap.size u14 y by first | exact chain D.out b9 | exact chain ((Below.refl _ _).drew) b9); have p0 := keep1 D.out k0; have p1 := keep1 D.out k1; have p2 := keep1 D.out k2; have p3 := keep1 D.out k3; have p4 := keep1 D.out k4; have p5 := keep1 D.out k5; have p6 := keep1 D.out k6; have p7 := keep1 D.out k7; have p8 := keep1 D.out k8; have p9 := keep1 D.out k9; have p10 := keep1 D.out k10; have p11 := keep1 D.out k11; clear b9)
   | (go_at_call 50; (with_reducible refine (HSg.out _ _ (Rz.below RE.out ?pva_c)).mono ?_); (first | exact D.out | exact (Below.refl _ _).drew); rintro e y ⟨rfl, b9⟩; have D := i' (show Below u14.heap.size u14 y by first | exact chain D.out b9 | exact chain ((Below.refl _ _).drew) b9); have p0 := keep1 D.out k0; have p1 := keep1 D.out k1; have p2 := keep1 D.out k2; have p3 := keep1 D.out k3; have p4 := keep1 D.out k4; have p5 := keep1 D.out k5; have p6 := keep1 D.out k6; have p7 := keep1 D.out k7; have p8 := keep1 D.out k8; have p9 := keep1 D.out k9; have p10 := keep1 D.out k10; have p11 := keep1 D.out k11; clear b9)
   | (go_at_call 12; (with_reducible refine (HK.out _).mono ?_); rintro e y ⟨rfl, b9⟩; have D := i' (show Below u14.heap.size u14 y by first | exact chain D.out b9 | exact chain ((Below.refl _ _).drew) b9); have p0 := keep1 D.out k0; have p1 := keep1 D.out k1; have p2 := keep1 D.out k2; have p3 := keep1 D.out k3; have p4 := keep1 D.out k4; have p5 := keep1 D.out k5; have p6 := keep1 D.out k6; have p7 := keep1 D.out k7; have p8 := keep1 D.out k8; have p9 := keep1 D.out k9; have p10 := keep1 D.out k10; have p11 := keep1 D.out k11; clear b9)
   | fail)
 go_wp2
 go_ret
 exact ⟨rfl, chain E.out D.out⟩
def tpw (a b : Int) : Nat → List Int
 | 0 => Pl.trim [1]
 | i + 1 => Pl.trim (Pl.mul (tpw a b i) (Pl.trim [a, b]))
def cof (p : List Int) (d : Int) (i : Nat) : Int := Pl.cf p i * d ^ (p.length - 1 - i)
def sfm (p : List Int) (a b d : Int) : Nat → List Int
 | 0 => []
 | i + 1 => Pl.trim (Pl.add (sfm p a b d i) (Pl.trim (Pl.scl (cof p d i) (tpw a b i))))
theorem sz16 {b : Bool} {s : ByteArray} (hv : vld b s = true) (hl : s.size ≤ 16) {M : Nat} (hM : M = 16) : (sg b (bv s)).natAbs < D9 ^ M := by
 subst hM
 have h1 := bvk (k := 16) rfl hl
 have h2 : (sg b (bv s)).natAbs = bv s := by unfold sg; split <;> omega
 rw [h2]
 exact Nat.lt_of_lt_of_le h1 (Nat.pow_le_pow_left (by decide) 16)
theorem k'oa {a b : Bool} {s t : ByteArray} (h : vldR a s b t = true) : vld a s = true ∧ vld b t = true ∧ 0 < sg b (bv t) := by
 unfold vldR at h
 rw [Bool.and_eq_true, decide_eq_true_eq] at h
 obtain ⟨h1, h2⟩ := h
 have h3 : vld b t = true := by
  cases hv : vld b t with
  | true => rfl
  | false => unfold sgV at h2; rw [hv] at h2; simp at h2
 rw [k'9c h3] at h2
 refine ⟨h1, h3, ?_⟩
 rcases Int.lt_trichotomy (sg b (bv t)) 0 with g | g | g
 ·rw [Int.sign_eq_neg_one_of_neg g] at h2; omega
 ·rw [g] at h2; exact absurd h2 (by decide)
 ·exact g
theorem k'ob {a b : Int} {B : Int} (h1 : lenV (zb a) (zs a) ≤ B) (h2 : lenV (zb b) (zs b) ≤ B) (hB : 0 ≤ B) : glb [(zb a, zs a), (zb b, zs b)] ≤ B := by
 refine k'ic _ B hB ?_
 intro x hx
 simp only [List.mem_cons, List.mem_nil_iff, or_false] at hx
 rcases hx with rfl | rfl <;> assumption
theorem k'oc {L : List (Bool × ByteArray)} {a b : Bool} {s t : ByteArray} (h : (vldP L && vldR a s b t) = false) : ckv L a s b t = 2 := by
 unfold ckv; rw [h]; rfl
theorem k'od {p : List Int} {x y : Int} (hp : VP p) (g : shP (zl p) = true) (hv : vldR (zb x) (zs x) (zb y) (zs y) = true) (hx : (zs x).size ≤ 16) (hy : (zs y).size ≤ 16) (tx : x.natAbs < Top) (ty : y.natAbs < Top) : ckv (zl p) (zb x) (zs x) (zb y) (zs y) = 0 := by
 have l1 := k'dw g hp.len
 have hg2 := k'ob (k'ib hx tx) (k'ib hy ty) (by decide)
 have hgp := k'id g hp
 unfold ckv
 rw [hp.ok, hv, if_pos (show (true && true) = true from rfl), if_neg]
 unfold tlg
 rw [k'cc]
 simp only [decide_eq_true_eq]
 intro ⟨_, h2⟩
 have hb1 := k'fb [(zb x, zs x), (zb y, zs y)]
 have h3 : ((p.length : Int) - 1) * glb [(zb x, zs x), (zb y, zs y)] ≤ 14 * 200 := by
  have e1 : ((p.length : Int) - 1) * glb [(zb x, zs x), (zb y, zs y)] ≤ 14 * glb [(zb x, zs x), (zb y, zs y)] := Int.mul_le_mul_of_nonneg_right (by omega) (by omega)
  omega
 omega
theorem k'oe {n m : Nat} {p : List Int} {x d : Int} (s : Sz n p) (hx : x.natAbs < D9 ^ m) (hd : d.natAbs < D9 ^ m) (hl : p.length ≤ 100) : (evl p x d).natAbs < D9 ^ (n + (m * p.length + 1 + (m * p.length + 1)) + 1) := by
 have h := k'nb s hx hd hl p.length (Nat.le_refl _)
 have e : Pl.ev (Pl.lev p d) x = Pl.evs (Pl.lev p d) x p.length := by rw [← Pl.evs_all, Pl.lev_length]
 unfold evl
 rw [e]
 exact h
theorem k'of (x : Int) : lg x 1 = 1 := by unfold lg; simp
theorem k'og {a b : Int} {n : Nat} (h : a.natAbs < D9 ^ n) : (a / b).natAbs < D9 ^ n := Nat.lt_of_le_of_lt (Int.natAbs_ediv_le_natAbs _ _) h
theorem k'oh (p : List Int) (v : Value) (b1 b2 : Bool) (s1 s2 : ByteArray) (w : World) (h : Rp w v p) (hp : VP p) (g : shP (zl p) = true) (hz : Lim (zl p)) (l1 : s1.size ≤ 10) (l2 : s2.size ≤ 10) (vr : vldR b1 s1 b2 s2 = true) :
 Calls Tryz.prog 6 #[v, .agg #[.bool b1, .string s1, .bool b2, .string s2]] w (Ret (.bool true) w) := by
 have sp := k'i5 g
 obtain ⟨N, hN⟩ : ∃ N : Nat, N = 16 := ⟨_, rfl⟩
 rw [← hN] at sp
 have lp := k'dw g hp.len
 have sm := k'd7 hp.top
 have HS := fun w' (hb : Below w.heap.size w w') => k'lf (h.below hb) hz true g
 have HV := fun w' (hb : Below w.heap.size w w') => k'lg (h.below hb) sm true hp.ok
 have HW := fun w' => k'hg b1 b2 s1 s2 w' (by omega) (by omega)
 rw [vr] at HW
 have HG := fun w' => k'hc b1 b2 s1 s2 w' (by omega) (by omega)
 obtain ⟨v1, v2, hd⟩ := k'oa vr
 have z1 := zb_sg v1
 have z2 := zb_sg v2
 have a1 := sz16 v1 (by omega) hN
 have a2 := sz16 v2 (by omega) hN
 generalize sg b1 (bv s1) = X at *
 generalize sg b2 (bv s2) = Y at *
 obtain ⟨rfl, rfl⟩ := z1
 obtain ⟨rfl, rfl⟩ := z2
 have t1 := k'm0 a1 (by omega)
 have t2 := k'm0 a2 (by omega)
 have hc := k'od hp g vr (by omega) (by omega) t1 t2
 have m1 : N * p.length ≤ 16 * 14 := by rw [hN]; exact Nat.mul_le_mul_left 16 lp
 have m2 : ∀ j, j ≤ p.length - 1 → N * j + 1 ≤ 300 := fun j hj => by have := Nat.mul_le_mul_left N (show j ≤ p.length by omega); omega
 obtain ⟨K, hK⟩ : ∃ K : Nat, K = 600 := ⟨_, rfl⟩
 have hev : (evl p X Y).natAbs < D9 ^ K := Nat.lt_of_lt_of_le (k'oe sp a1 a2 (by omega)) (Nat.pow_le_pow_right (by decide) (by omega))
 have hpw : ∀ j, j ≤ p.length - 1 → (Y ^ j).natAbs < D9 ^ K := fun j hj => Nat.lt_of_lt_of_le (pow9 a2) (Nat.pow_le_pow_right (by decide) (by have := m2 j hj; omega))
 have hY : Y ≠ 0 := by omega
 have sN := k'og (b := lg (evl p X Y) (Y ^ (p.length - 1))) hev
 have sD := k'og (b := lg (evl p X Y) (Y ^ (p.length - 1))) (hpw (p.length - 1) (Nat.le_refl _))
 refine k'ni (zl p) p X Y (evl p X Y / lg (evl p X Y) (Y ^ (p.length - 1))) (Y ^ (p.length - 1) / lg (evl p X Y) (Y ^ (p.length - 1))) (evl p X Y) (evl p X Y).sign _ _ _ _ _ _ v _ _ _ _ w h (by omega) (by omega) HS l1 l2
  (fun w' hb => k'j8 p v X Y w' (h.below hb) hp t1 t2 hc)
  (fun w' hb => k'jb p v X Y w' (h.below hb) hp t1 t2 hc hY (k'm0 hev (by omega)) (fun j hj => k'm0 (hpw j hj) (by omega)))
  (fun w' hb => k'j9 p v X Y w' (h.below hb) hp t1 t2 hc (k'm0 hev (by omega)))
  HV HW (fun w' hb => (k'dj p v w' (h.below hb) (by omega) hp.top).mono fun _ _ ⟨u, h1, h2, h3⟩ => ⟨u, h1, h2.rp, h2.fresh, h3⟩) HG
  (fun w' x v1 v2 hx h1 h2 => k'nc N N p X Y x v1 v2 w' hx h1 h2 (by omega) sp a1 a2 (by omega) (by omega))
  (fun w' x v1 v2 hx h1 h2 => ?_)
  (fun w' v1 v2 h1 h2 => k'hh _ _ v1 v2 w' h1 h2 ((k'i3 sN rfl).len (by omega)) ((k'i3 sD rfl).len (by omega)) (k'5t (k'm0 sN (by omega))) (k'5t (k'm0 sD (by omega))))
  (fun w' u hu => to_zz _ hev (by omega) w' u hu)
  (fun w' u hu => k'7a _ u w' hu)
 by_cases h0 : p = []
 ·subst h0
  have e : RQPost 0 1 w' = RQPost (evl [] X Y / lg (evl [] X Y) (Y ^ ([] : List Int).length.pred)) (Y ^ ([] : List Int).length.pred / lg (evl [] X Y) (Y ^ ([] : List Int).length.pred)) w' := by
   have e1 : evl [] X Y = 0 := rfl
   simp [e1, k'of]
  have := k'nd X Y x v1 v2 w' hx h1 h2
  rw [e] at this
  exact this
 ·exact k'ne N N p X Y x v1 v2 w' hx h0 h1 h2 (by omega) sp a1 a2 (by omega) (by omega) hY
theorem k'oi (L : List (Bool × ByteArray)) (v : Value) (b1 b2 : Bool) (s1 s2 : ByteArray) (w : World) (h : Rw w v L) (z : Lim L) (z1 : s1.size ≤ 9223372036854775807) (z2 : s2.size ≤ 9223372036854775807) :
 Calls Tryz.prog 6 #[v, .agg #[.bool b1, .string s1, .bool b2, .string s2]] w (Ret (.bool true) w) := by
 cases hs : shP L with
 | false => exact k'n5 L v _ _ _ _ w h z1 z2 (fun w' hb => k'lf (h.below hb) z _ hs)
 | true =>
  have HS := fun w' (hb : Below w.heap.size w w') => k'lf (h.below hb) z _ hs
  by_cases l1 : s1.size ≤ 10
  ·by_cases l2 : s2.size ≤ 10
   ·have sm := k'dt hs
    have HA := fun hbad w' (hb : Below w.heap.size w w') => k'j0 L v b1 b2 s1 s2 2 w' (h.below hb) sm (by omega) (by omega) (k'oc hbad) (by decide)
    have HB := fun hbad w' (hb : Below w.heap.size w w') => k'n4 L v b1 b2 s1 s2 2 w' (h.below hb) sm (by omega) (by omega) (k'oc hbad) (by decide)
    have HC := fun hbad w' (hb : Below w.heap.size w w') => k'j1 L v b1 b2 s1 s2 2 w' (h.below hb) sm (by omega) (by omega) (k'oc hbad) (by decide)
    have HV := fun w' (hb : Below w.heap.size w w') => k'lg (h.below hb) sm _ rfl
    have HW := fun w' => k'hg b1 b2 s1 s2 w' (by omega) (by omega)
    cases hv : vldP L with
    | false =>
     rw [hv] at HV
     have hb : (vldP L && vldR b1 s1 b2 s2) = false := by rw [hv]; rfl
     exact k'n8 L v _ _ _ _ w h z1 z2 HS l1 l2 (HA hb) (HB hb) (HC hb) HV
    | true =>
     rw [hv] at HV
     cases hr : vldR b1 s1 b2 s2 with
     | false =>
      rw [hr] at HW
      have hb : (vldP L && vldR b1 s1 b2 s2) = false := by rw [hv, hr]; rfl
      exact k'n9 L v _ _ _ _ w h z1 z2 HS l1 l2 (HA hb) (HB hb) (HC hb) HV HW
     | true =>
      obtain ⟨p, hp, rfl⟩ := VP.of hv
      exact k'oh p v _ _ _ _ w h hp hs z l1 l2 hr
   ·exact k'n7 L v _ _ _ _ w h z1 z2 HS l1 (by omega)
  ·exact k'n6 L v _ _ _ _ w h z1 z2 HS (by omega)
end Go.Proofs.YtepddegphdlbeaaGreat
