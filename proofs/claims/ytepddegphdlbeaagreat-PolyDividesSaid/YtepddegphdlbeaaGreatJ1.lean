/- What the theorem leans on, part J1. -/
import Derived.Test.YtepddegphdlbeaaGreatG8
import Derived.Test.YtepddegphdlbeaaGreatG7
import Derived.Test.YtepddegphdlbeaaGreatG6
import Derived.Test.YtepddegphdlbeaaGreatJ0
import Derived.Test.YtepddegphdlbeaaGreatG4
import Derived.Test.YtepddegphdlbeaaGreatG3
import Derived.Test.YtepddegphdlbeaaGreatG2
import Derived.Test.YtepddegphdlbeaaGreatG1
import Derived.Test.YtepddegphdlbeaaGreatG0
import Derived.Test.YtepddegphdlbeaaGreatProg
import Derived.WalkKit
import Derived.WalkSpells
import Derived.WalkLawsBesides
import Derived.Lib.Hide
import Derived.Deep.QuietTactic
import Derived.BigQuiet
import Derived.Shelf.Small.Bits
import Derived.Shelf.Small.Wraps
import Derived.Shelf.Strconv.Itoa0
import Derived.Shelf.Bits.Mul64
import Derived.Ground.Names2Prog
import Derived.Shelf.Slices.SearchI
import Derived.Shelf.Spec.BitsCarry
import Derived.Deep.LoopGhost
import Derived.Deep.RegionHeld3
import Derived.Deep.DeepCutAuto
import Derived.Test.YtepddegphdlbeaaGreatG5
import Derived.Laws.AppendOwnNone
import Derived.Below
import Derived.Test.YtepddegphdlbeaaGreatG9
import Derived.Test.YtepddegphdlbeaaGreatG11
import Derived.Test.YtepddegphdlbeaaGreatG10
import Derived.RangeFuncNested
import Derived.RangeFuncBound
import Derived.RangeFuncCalls
import Derived.RangeFuncLeaves
import Derived.Shelf.Abstract
import Derived.Shelf.RegionOpen
import Derived.OwnWalkIn
import Derived.TacticsInMore
import Derived.LoopNIn
import Derived.LoopIn
import Derived.OrdersIn
import Derived.Deep.RegionHeld
import Derived.Maps.AppendAt
import Derived.Lib.SliceRun
import Derived.IntWalk
import Derived.Test.YtepddegphdlbeaaGreatG12
import Derived.Test.YtepddegphdlbeaaGreatG13
import Derived.Laws.StructEq
import Derived.Test.YtepddegphdlbeaaGreatG14
import Derived.Test.YtepddegphdlbeaaGreatG16
import Derived.Test.YtepddegphdlbeaaGreatG15
set_option maxRecDepth 100000
set_option maxHeartbeats 16000000
set_option linter.all false
namespace Go.Proofs.YtepddegphdlbeaaGreat
namespace Pl
theorem dvs_length (q : List Int) (n : Nat) (r a : List Int) (h : dvs q n r = some a) : a.length = n := by
 induction n generalizing r a with
 | zero =>
  rw [dvs] at h
  split at h
  ·simp at h; subst h; rfl
  ·cases h
 | succ n ih =>
  rw [dvs] at h
  split at h
  ·cases h2 : dvs q n (step 1 (lead r / lead q) q r) with
   | none => rw [h2] at h; cases h
   | some b =>
    rw [h2] at h
    simp at h
    subst h
    simp [ih _ _ h2]
  ·cases h
end Pl
namespace Pl
theorem prim_ne {p : List Int} (h : p ≠ []) : prim p ≠ [] := by
 intro e
 have := prim_length p
 rw [e] at this
 exact h (List.eq_nil_of_length_eq_zero this.symm)
theorem lead_prim (p : List Int) : lead p = cont p * lead (prim p) := by
 conv => lhs; rw [← scl_prim p]
 exact lead_scl _ _
theorem lead_prim_sign {p : List Int} (hp : Nrm p) (h0 : p ≠ []) : (lead (prim p)).sign = (lead p).sign := by
 have h1 : (cont p : Int).sign = 1 := Int.sign_eq_one_of_pos (by have := cont_pos hp h0; omega)
 rw [lead_prim p, Int.sign_mul, h1, Int.one_mul]
end Pl
namespace Pl
theorem mx_prim (p : List Int) : mx (prim p) ≤ mx p := mx_le fun k _ => by
 rw [cf_prim]; exact Nat.le_trans (Int.natAbs_ediv_le_natAbs _ _) (mx_cf p k)
end Pl
end Go.Proofs.YtepddegphdlbeaaGreat
namespace Go.Proofs.YtepddegphdlbeaaGreat
open Go.RowKit
theorem k'dd {p : List Int} {us : List Value} (h : us.length = p.length) : (rv p us).length = p.length * 2 := by
 induction p generalizing us with
 | nil => cases us with
  | nil => rfl
  | cons u us => simp at h
 | cons z p ih =>
  cases us with
  | nil => simp at h
  | cons u us => simp only [rv, List.length_cons] at h ⊢; rw [ih (by omega)]; omega
theorem k'dk (p : List Int) (v : Value) (w : World) (h : Rp w v p) (hl : p.length ≤ 1000) (ht : ∀ a ∈ p, a.natAbs < Top) : Calls Tryz.prog 21 #[v] w (RPPost p w) :=
 (k'dj p v w h hl ht).mono fun _ _ ⟨u, h1, h2, h3⟩ => ⟨u, h1, h2.rp, h3⟩
theorem k'do (w : World) {v1 v2 : Value} {L1 L2 : List (Bool × ByteArray)} (h1 : Rw w v1 L1) (h2 : Rw w v2 L2) : Rl (w.alloc (.cells #[v1, v2] 23)) (.slice (some ⟨w.heap.size, 0, none⟩) 2 2) [L1, L2] :=
 ⟨w.heap.size, 0, 2, rfl, fun k hk => by
  match k, hk with
  | 0, _ => exact ⟨v1, by simp [go_sem], h1.below ((Below.refl _ _).alloc (Nat.le_refl _) _)⟩
  | 1, _ => exact ⟨v2, by simp [go_sem], h2.below ((Below.refl _ _).alloc (Nat.le_refl _) _)⟩
  | j + 2, h => simp at h; omega⟩
theorem k'fz (L1 L2 : List (Bool × ByteArray)) (v1 v2 : Value) (e : Int) (w : World) (h1 : Rw w v1 L1) (h2 : Rw w v2 L2) (z1 : Small L1) (z2 : Small L2) (he : ckd L1 L2 = e) (h0 : e ≠ 0) :
 Calls Tryz.prog 53 #[v1, v2] w (ResE e w) := by
 have HD := i' (k'fd L1 L2 v1 v2 w h1 h2 z1 z2)
 rw [he] at HD
 have n0 : (e == 0) = false := by simpa using h0
 have n1 : (e != 0) = true := by simpa using h0
 clear h1 h2 z1 z2 he h0
 go_enter Tryz.func53, Tryz.ntmps53
 go_wp2_with fail
 refine HD.out.mono ?_
 rintro en w1 ⟨rfl, b1⟩
 have B1 := i' b1
 clear b1
 go_wp2
 go_ret2
 exact ⟨rfl, B1.out⟩
end Go.Proofs.YtepddegphdlbeaaGreat
namespace Go.Proofs.YtepddegphdlbeaaGreat
namespace Pl
theorem sub_trim (p q : List Int) : sub p (trim q) = sub p q := nrm_ext (sub_nrm _ _) (sub_nrm _ _) fun k => by rw [cf_sub, cf_sub, cf_trim]
theorem length_le_of_cf {p : List Int} (hp : Nrm p) {n : Nat} (h : ∀ k, n ≤ k → cf p k = 0) : p.length ≤ n := by
 rcases Nat.lt_or_ge n p.length with g | g
 ·exact absurd (h (p.length - 1) (by omega)) (nrm_cf hp (by omega))
 ·exact g
theorem DInv.bad {p q r a : List Int} {n : Nat} (h : DInv p q (n + 1) r a) (hr : cf r (n + q.length - 1) % lead q ≠ 0) (hq : 0 < q.length) : dvs q (p.length + 1 - q.length) p = none := by
 obtain ⟨s, h1, h2, h3⟩ := h
 rw [h2, show n + q.length - 1 = s.length - 1 by omega] at hr
 rw [h3, dvs, if_neg (by exact hr)]
 rfl
end Pl
end Go.Proofs.YtepddegphdlbeaaGreat
namespace Go.Proofs.YtepddegphdlbeaaGreat
open Go.RowKit
theorem k'h6 (w : World) : Rz w (.slice none 0 0) 0 := by
 have h := Ri.nil w
 exact h
theorem k'h7 (p : List Int) (v : Value) (k : Nat) (w : World) (h : RP w v p) (hk : k ≤ 9223372036854775807) : Calls Tryz.prog 84 #[v, .int .i64 (k : Int)] w (IntPost (Pl.cf p k) w) := by
 have hlen := h.len
 obtain ⟨w0, hw0⟩ : ∃ w0 : World, w0 = w.alloc (.cells #[.bool false, .slice none 0 0] 52) := ⟨_, rfl⟩
 have hb0 : Hid (Below w.heap.size w w0) := by rw [hw0]; exact k'56 _ _
 have I2 : Hid (Bz w0 w.heap.size 0) := by rw [hw0]; exact Bz.made (k'h6 w)
 have Hw0 := i' hw0
 clear hw0
 obtain ⟨a, b, off, cap, rfl, -, -, h4, h5⟩ := h
 obtain ⟨n, hn⟩ : ∃ n, n = p.length := ⟨_, rfl⟩
 have hk0 : (0 : Int) ≤ (k : Int) := by omega
 obtain ⟨_, _, -, m0, m1, m2, m3⟩ := I2.out.open_
 by_cases hlt : k < p.length
 ·obtain ⟨u, g0, g1, g2⟩ := h5 k hlt
  obtain rfl := h4 (by intro e; rw [e] at hlt; exact absurd hlt (Nat.not_lt_zero _))
  rw [Pl.cf_lt hlt]
  have HG : Hid (Rz w0 u p[k]) := g2.below hb0.out
  have hkk : (k : Int) < (n : Int) := by omega
  have c0 := keep1 hb0.out g0
  have c1 := keep1 hb0.out g1
  rw [← hn] at hlen ⊢
  generalize p[k] = z at *
  clear h4 h5 g2 g0 g1 hlt hn
  obtain ⟨pu, bu, ou, cu, rfl, -⟩ := HG.out
  have HZ := i' (k'5c hb0.out (g := w.heap.size) (Nat.le_refl _) (.bool (decide (z < 0))) (.slice pu (Nm.dg D9 z.natAbs).length cu))
  have HR2 := i' (HG.out.stored I2.out (.bool (decide (z < 0))) (.slice pu (Nm.dg D9 z.natAbs).length cu))
  go_enter Tryz.func84, Tryz.ntmps84
  go_upto_region 1 with (fail)
  rw [← Hw0.out]
  go_wp2
  exact bodyPost_ret (v := .agg #[.bool (decide (z < 0)), .slice pu (Nm.dg D9 z.natAbs).length cu]) (by simp [results, Tryz.results84, go_sem, m0, m1]) rfl ⟨_, rfl, HR2.out, HZ.out⟩
 ·rw [Pl.cf_ge (by omega)]
  have hkk : (n : Int) ≤ (k : Int) := by omega
  rw [← hn] at hlen ⊢
  clear h4 h5 hlt hn
  have HZ := i' (k'5c hb0.out (g := w.heap.size) (Nat.le_refl _) (.bool false) (.slice none 0 0))
  have HR2 := i' ((k'h6 w0).stored I2.out (.bool false) (.slice none 0 0))
  go_enter Tryz.func84, Tryz.ntmps84
  go_upto_region 1 with (fail)
  rw [← Hw0.out]
  go_wp2
  exact bodyPost_ret (v := .agg #[.bool false, .slice none 0 0]) (by simp [results, Tryz.results84, go_sem, m0, m1]) rfl ⟨_, rfl, HR2.out, HZ.out⟩
theorem k'hs (f : Nat → Int) (n : Nat) : tab f n ++ [f n] = tab f (n + 1) := by simp [tab, List.range_succ]
theorem k'ht (f : Nat → Int) (n : Nat) : (tab f n).length = n := by simp [tab]
theorem k'hu (f : Nat → Int) (n k : Nat) : Pl.cf (tab f n) k = if k < n then f k else 0 := Pl.cf_map_range f n k
theorem k'hv (n : Nat) (hn : n ≤ 90000) (p q : List Int) (v1 v2 : Value) (w : World) (h1 : RP w v1 p) (h2 : RP w v2 q) (l1 : p.length ≤ 1000) (l2 : q.length ≤ 1000) (s1 : Sz n p) (s2 : Sz n q) :
 Calls Tryz.prog 29 #[v1, v2] w (RPPost (Pl.trim (Pl.add p q)) w) := by
 have HA1 := i' (fun k (hk : k ≤ 1000) w' (hb : Below w.heap.size w w') => k'h7 p v1 k w' (h1.below hb) (Nat.le_trans hk (by decide)))
 have HA2 := i' (fun k (hk : k ≤ 1000) w' (hb : Below w.heap.size w w') => k'h7 q v2 k w' (h2.below hb) (Nat.le_trans hk (by decide)))
 obtain ⟨f, hf⟩ : ∃ f : Nat → Int, f = fun k => Pl.cf p k + Pl.cf q k := ⟨_, rfl⟩
 have HS := i' (fun k u1 u2 w' g1 g2 => k'7c (Pl.cf p k) (Pl.cf q k) u1 u2 w' g1 g2 (Nat.le_trans (s1.len k) (by omega)) (Nat.le_trans (s2.len k) (by omega)))
 obtain ⟨a1, b1, o1, c1, rfl, -, -, -, -⟩ := h1
 obtain ⟨a2, b2, o2, c2, rfl, -, -, -, -⟩ := h2
 have HT : Hid (Pl.trim (tab f (max p.length q.length)) = Pl.trim (Pl.add p q)) := Pl.trim_ext fun k => by
  rw [k'hu, Pl.cf_add, hf]
  split
  ·rfl
  ·next h => rw [Pl.cf_ge (p := p) (by omega), Pl.cf_ge (p := q) (by omega)]; rfl
 have HF : ∀ k, Pl.cf p k + Pl.cf q k = f k := fun k => by rw [hf]
 simp only [HF] at HS
 clear s1 s2 hn HF hf
 obtain ⟨n1, hn1⟩ : ∃ n, n = p.length := ⟨_, rfl⟩
 obtain ⟨n2, hn2⟩ : ∃ n, n = q.length := ⟨_, rfl⟩
 rw [← hn1] at HT l1 HA1 ⊢
 rw [← hn2] at HT l2 HA2 ⊢
 generalize Pl.trim (Pl.add p q) = res at *
 clear hn1 hn2
 obtain ⟨N, hN⟩ : ∃ N, N = max n1 n2 := ⟨_, rfl⟩
 rw [← hN] at HT
 have HN := i' hN
 have hN1 : N ≤ 1000 := by omega
 clear hN
 go_enter Tryz.func29, Tryz.ntmps29
 go_wp2
 go_loopw [5, 6] (fun v iv wr => ∃ (wz : World) (k : Nat), wz = wr ∧ k ≤ N ∧ iv = .int .i64 (k : Int) ∧ Hid (RowP wz w.heap.size v (tab f k)) ∧ Hid (Below w.heap.size w wz))
  (fun _ iv _ => N - (intOf iv).toNat)
 case atStart => exact ⟨w, 0, rfl, Nat.zero_le _, rfl, RowP.nil _ _, Below.refl _ _⟩
 case round =>
  obtain ⟨wz, k, rfl, hk, rfl, hrow, hbl⟩ := hrel
  have hk0 : (0 : Int) ≤ (k : Int) := by omega
  by_cases hlt : k < N
  ·have hk2 : k ≤ 1000 := by omega
   have HS := i' (HS.out k)
   have HM := i' (k'hs f k)
   obtain ⟨x, hx⟩ : ∃ x, x = Pl.cf p k := ⟨_, rfl⟩
   obtain ⟨y, hy⟩ : ∃ y, y = Pl.cf q k := ⟨_, rfl⟩
   have HA1 := i' (HA1.out k hk2)
   have HA2 := i' (HA2.out k hk2)
   rw [← hx] at HA1 HS
   rw [← hy] at HA2 HS
   generalize f k = z at *
   clear hx hy
   have hcond : (k : Int) < (n1 : Int) ∨ ((n1 : Int) ≤ (k : Int) ∧ (k : Int) < (n2 : Int)) := by have := HN.out; omega
   rcases hcond with hc1 | ⟨hc1, hc2⟩
   all_goals
    go_wp2_with fail
    refine (HA1.out _ hbl.out).mono ?_
    rintro e w3 ⟨u1, rfl, r1, b1⟩
    have HB3 := i' (chain hbl.out b1)
    have HR1 := i' r1
    have HX3 := i' (hrow.out.below b1)
    clear r1 b1
    unfold iV
    go_wp2_with fail
    refine (HA2.out _ HB3.out).mono ?_
    rintro e w4 ⟨u2, rfl, r2, b2⟩
    have HB4 := i' (chain HB3.out b2)
    have HR2 := i' (And.intro (HR1.out.below b2) r2)
    have HX4 := i' (HX3.out.below b2)
    clear r2 b2
    unfold iV
    go_wp2_with fail
    refine (HS.out _ _ _ HR2.out.1 HR2.out.2).mono ?_
    rintro e w5 ⟨u, rfl, r5, b5⟩
    have HB5 := i' (chain HB4.out b5)
    have HR5 := i' r5
    have HX5 := i' (HX4.out.below b5)
    clear r5 b5
    unfold iV
    go_wp2_with (at_builtin; refine k'h5 rfl rfl _ _ rfl rfl rfl HX5.out HR5.out (by rw [k'ht]; omega) HB5.out ?_)
    intro v' w1 hrow1 hb1 _
    have HN1 := i' hrow1
    have HB1 := i' hb1
    rw [HM.out] at HN1
    clear hrow1 hb1
    go_wp2
    go_roundw
    case rel => exact ⟨_, k + 1, rfl, by omega, by go_num, HN1.out, HB1.out⟩
    case measure => simp [intOf]; omega
  ·obtain rfl : k = N := by omega
   have hNN := HN.out
   have hc1 : (n1 : Int) ≤ (k : Int) := by omega
   have hc2 : (n2 : Int) ≤ (k : Int) := by omega
   clear hNN
   go_wp2_with fail
   refine (k'dh _ _ _ hrow.out.rp).mono ?_
   rintro e w6 ⟨v6, rfl, r6, b6⟩
   have HR6 := i' r6
   rw [HT.out] at HR6
   have HB6 := i' (chain hbl.out b6)
   clear r6 b6
   go_wp2
   go_ret
   exact ⟨_, rfl, HR6.out, HB6.out⟩
theorem k'hw (n m : Nat) (hn : n ≤ 90000) (hm : m ≤ 90000) (p : List Int) (c : Int) (v u : Value) (w : World) (h : RP w v p) (hu : Rz w u c) (l : p.length ≤ 1000) (s : Sz n p) (sc : c.natAbs < D9 ^ m) :
 Calls Tryz.prog 36 #[v, iV c u] w (RPPost (Pl.trim (Pl.scl c p)) w) := by
 obtain ⟨w0, hw0⟩ : ∃ w0 : World, w0 = w.alloc (.cells #[.bool (decide (c < 0)), u] 52) := ⟨_, rfl⟩
 have hb0 : Hid (Below w.heap.size w w0) := by rw [hw0]; exact k'56 _ _
 have HBx : Hid (ZC (.bool (decide (c < 0))) u w0 w.heap.size) := by rw [hw0]; exact ZC.new rfl
 have HRu : Hid (Rz w0 u c) := hu.below hb0.out
 have HRP := i' (h.below hb0.out)
 obtain ⟨f, hf⟩ : ∃ f : Nat → Int, f = fun k => Pl.cf p k * c := ⟨_, rfl⟩
 have HM := i' (fun k u1 w' (g1 : Rz w' u1 (Pl.cf p k)) (hb : Below w0.heap.size w0 w') => k'7b (Pl.cf p k) c u1 u w' g1 (HRu.out.below hb) (Nat.le_trans (s.len k) (by omega)) (Nat.le_trans (len9 sc) (by omega)))
 have HT : Hid (Pl.trim (tab f p.length) = Pl.trim (Pl.scl c p)) := Pl.trim_ext fun k => by
  rw [k'hu, Pl.cf_scl, hf]
  split
  ·exact Int.mul_comm _ _
  ·next h => rw [Pl.cf_ge (p := p) (by omega)]; simp
 have HF : ∀ k, Pl.cf p k * c = f k := fun k => by rw [hf]
 simp only [HF] at HM
 have Hw0 := i' hw0
 clear hw0 HF hf s sc hn hm hu h
 obtain ⟨a1, b1, o1, c1, rfl, -, -, h4, h5⟩ := HRP.out
 have H4 := i' h4
 have H5 := i' h5
 obtain ⟨pu, bu, ou, cu, hup, -⟩ := HRu.out
 subst hup
 clear h4 h5 HRP
 obtain ⟨n1, hn1⟩ : ∃ n, n = p.length := ⟨_, rfl⟩
 rw [← hn1] at HT l ⊢
 have HN := i' hn1
 generalize Pl.trim (Pl.scl c p) = res at *
 obtain ⟨lu, hlu⟩ : ∃ lu, lu = (Nm.dg D9 c.natAbs).length := ⟨_, rfl⟩
 rw [← hlu] at HM HBx HRu Hw0 ⊢
 unfold iV at HM ⊢
 generalize decide (c < 0) = bc at *
 clear hn1 hlu
 go_enter Tryz.func36, Tryz.ntmps36
 go_upto_region 3 with (fail)
 rw [← Hw0.out]
 go_wp2
 go_loopw [5, 6] (fun v iv wr => ∃ (wz : World) (k : Nat), wz = wr ∧ k ≤ n1 ∧ iv = .int .i64 (k : Int) ∧ Hid (RowP wz w0.heap.size v (tab f k)) ∧ Hid (Below w0.heap.size w0 wz))
  (fun _ iv _ => n1 - (intOf iv).toNat)
 case atStart => exact ⟨w0, 0, rfl, Nat.zero_le _, rfl, RowP.nil _ _, Below.refl _ _⟩
 case round =>
  obtain ⟨wz, k, rfl, hk, rfl, hrow, hbl⟩ := hrel
  have hk0 : (0 : Int) ≤ (k : Int) := by omega
  by_cases hlt : k < n1
  ·have hkp : k < p.length := by have h5 : n1 = p.length := HN.out; omega
   have hkk : (k : Int) < (n1 : Int) := by omega
   obtain rfl := H4.out (by intro e; rw [e] at hkp; exact absurd hkp (Nat.not_lt_zero _))
   obtain ⟨uk, g0, g1, g2⟩ := H5.out k hkp
   rw [← Pl.cf_lt hkp] at g0 g2
   have HM := i' (fun w' (hb : Below w0.heap.size w0 w') => HM.out k uk w' (g2.below hb) hb)
   have HS := i' (k'hs f k)
   generalize Pl.cf p k = x at *
   generalize f k = z at *
   have G0 := i' (And.intro g0 g1)
   have c0 := keep1 hbl.out G0.out.1
   have c1 := keep1 hbl.out G0.out.2
   obtain ⟨c2, c3, -, -⟩ := HBx.out.next hbl.out
   obtain ⟨pk, bk, ok, ck, rfl, -⟩ := g2
   clear g0 g1
   go_upto_region 5 with (fail)
   go_region_held3 (fun W' => W'.cell? ⟨b1, o1 + k * 2, none⟩ = some (.bool (decide (x < 0))) ∧ W'.cell? ⟨b1, o1 + k * 2 + 1, none⟩ = some (.slice pk (Nm.dg D9 x.natAbs).length ck) ∧ W'.cell? ⟨w.heap.size, 0, none⟩ = some (.bool bc) ∧ W'.cell? ⟨w.heap.size, 1, none⟩ = some (.slice pu lu cu)) (go_keep)
    (first
     | (go_at_call 83; (with_reducible refine (HM.out _ ((hbl.out).drew)).mono ?_); rintro e w5 ⟨u5, rfl, r5, b5⟩; unfold iV; have d5 := chain (hbl.out.drew) b5; have p0 := keep1 d5 G0.out.1; have p1 := keep1 d5 G0.out.2; obtain ⟨p2, p3, _⟩ := HBx.out.next d5; have HR5 := i' r5; have HX5 := i' (hrow.out.below (chain ((Below.refl _ _).drew) b5)); have HB5 := i' d5; clear r5 b5 d5)
     | (rw [if_pos (by rfl)]; refine k'h4 rfl _ _ rfl rfl rfl HX5.out HR5.out (by rw [k'ht]; omega) HB5.out ?_; intro v' w1 hrow1 hb1 _; have p0 := keep1 hb1 G0.out.1; have p1 := keep1 hb1 G0.out.2; obtain ⟨p2, p3, _⟩ := HBx.out.next hb1; have HN1 := i' hrow1; have HB1 := i' hb1; clear hrow1 hb1)
     | fail)
   rw [HS.out] at HN1
   go_wp2
   go_roundw
   case rel => exact ⟨_, k + 1, rfl, by omega, by go_num, HN1.out, HB1.out⟩
   case measure => simp [intOf]; omega
  ·obtain rfl : k = n1 := by omega
   go_wp2_with fail
   refine (k'dh _ _ _ hrow.out.rp).mono ?_
   rintro e w6 ⟨v6, rfl, r6, b6⟩
   have HR6 := i' r6
   rw [HT.out] at HR6
   have HB6 := i' (chain hb0.out (chain hbl.out b6))
   clear r6 b6
   go_wp2
   go_ret
   exact ⟨_, rfl, HR6.out, HB6.out⟩
theorem k'hx (n : Nat) (hn : n ≤ 90000) (p : List Int) (v : Value) (w : World) (h : RP w v p) (l : p.length ≤ 1000) (s : Sz n p) :
 Calls Tryz.prog 85 #[v] w (RPPost (Pl.trim (Pl.scl (-1) p)) w) := by
 obtain ⟨m1, hm1⟩ : ∃ m1 : Int, m1 = -1 := ⟨_, rfl⟩
 have HN : Hid (∀ w, Calls Tryz.prog 74 #[.int .i64 (-1)] w (IntPost m1 w)) := fun w => by rw [hm1]; exact k'8f (-1) w (by decide) (by decide)
 have HS := i' (fun u w' (hu : Rz w' u m1) (hb : Below w.heap.size w w') => k'hw n 1 hn (by decide) p m1 v u w' (h.below hb) hu l s (by rw [hm1]; decide))
 rw [← hm1]
 clear hm1
 obtain ⟨a1, b1, o1, c1, rfl, -, -, -, -⟩ := h
 generalize Pl.trim (Pl.scl m1 p) = res at *
 unfold iV at HS
 unfold IntPost iV at HN
 generalize decide (m1 < 0) = bm at *
 go_enter Tryz.func85, Tryz.ntmps85
 go_wp2_with fail
 refine (HN.out _).mono ?_
 rintro e w3 ⟨u, rfl, r1, b1⟩
 have HB3 := i' b1
 have HR3 := i' r1
 clear r1 b1
 go_wp2_with fail
 refine (HS.out _ _ HR3.out HB3.out).mono ?_
 rintro e w4 ⟨v4, rfl, r4, b4⟩
 have HB4 := i' (chain HB3.out b4)
 have HR4 := i' r4
 clear r4 b4
 go_wp2
 go_ret
 exact ⟨_, rfl, HR4.out, HB4.out⟩
theorem k'hy (n : Nat) (hn : n ≤ 80000) (p q : List Int) (v1 v2 : Value) (w : World) (h1 : RP w v1 p) (h2 : RP w v2 q) (l1 : p.length ≤ 1000) (l2 : q.length ≤ 1000) (s1 : Sz n p) (s2 : Sz n q) :
 Calls Tryz.prog 30 #[v1, v2] w (RPPost (Pl.sub p q) w) := by
 have HN := i' (k'hx n (by omega) q v2 w h2 l2 s2)
 have HS := i' (fun u w' (hu : RP w' u (Pl.trim (Pl.scl (-1) q))) (hb : Below w.heap.size w w') => k'hv n (by omega) p _ v1 u w' (h1.below hb) hu l1 (Nat.le_trans (Pl.trim_length _) (by rw [Pl.scl_length]; exact l2)) s1 s2.neg.trim)
 have HE : Hid (Pl.trim (Pl.add p (Pl.trim (Pl.scl (-1) q))) = Pl.sub p q) := Pl.trim_ext fun k => by rw [Pl.cf_add, Pl.cf_add, Pl.cf_trim]
 rw [HE.out] at HS
 obtain ⟨a1, b1, o1, c1, rfl, -, -, -, -⟩ := h1
 obtain ⟨a2, b2, o2, c2, rfl, -, -, -, -⟩ := h2
 generalize Pl.sub p q = res at *
 generalize Pl.trim (Pl.scl (-1) q) = nq at *
 clear s1 s2 l1 l2 hn HE
 go_enter Tryz.func30, Tryz.ntmps30
 go_wp2_with fail
 refine HN.out.mono ?_
 rintro e w3 ⟨u, rfl, r1, b1⟩
 have HB3 := i' b1
 have HR3 := i' r1
 clear r1 b1
 go_wp2_with fail
 refine (HS.out _ _ HR3.out HB3.out).mono ?_
 rintro e w4 ⟨v4, rfl, r4, b4⟩
 have HB4 := i' (chain HB3.out b4)
 have HR4 := i' r4
 clear r4 b4
 go_wp2
 go_ret
 exact ⟨_, rfl, HR4.out, HB4.out⟩
theorem k'hz (p : List Int) (v : Value) (d : Int) (w : World) (h : RP w v p) (h0 : 0 ≤ d) (hk : d ≤ 9223372036854775807) : Calls Tryz.prog 84 #[v, .int .i64 d] w (IntPost (Pl.cf p d.toNat) w) := by
 have := k'h7 p v d.toNat w h (by omega)
 rwa [Int.toNat_of_nonneg h0] at this
theorem k'ib {z : Int} (h : (zs z).size ≤ 16) (ht : z.natAbs < Top) : lenV (zb z) (zs z) ≤ 200 := by
 rw [k'9f (k'5s ht)]
 unfold lenB
 split
 ·have : Lib.bitLen (zs z)[0].toNat ≤ 8 := Lib.bitLen_le8 ⟨(zs z)[0].toNat, UInt8.toNat_lt _⟩
  omega
 ·omega
theorem k'ic (L : List (Bool × ByteArray)) (B : Int) (hB : 0 ≤ B) (h : ∀ x ∈ L, lenV x.1 x.2 ≤ B) : glb L ≤ B := by
 have key : ∀ (L : List (Bool × ByteArray)) (m : Int), m ≤ B → (∀ x ∈ L, lenV x.1 x.2 ≤ B) → L.foldl (fun m x => max m (lenV x.1 x.2)) m ≤ B := by
  intro L
  induction L with
  | nil => intro m hm _; exact hm
  | cons x L ih =>
   intro m hm hx
   refine ih _ ?_ (fun y hy => hx y (List.mem_cons_of_mem _ hy))
   have := hx x List.mem_cons_self
   show max m (lenV x.1 x.2) ≤ B
   omega
 exact key L 0 hB h
theorem k'id {p : List Int} (h : shP (zl p) = true) (hp : VP p) : glb (zl p) ≤ 200 := by
 refine k'ic _ 200 (by decide) ?_
 intro x hx
 have h1 := k'du h x hx
 obtain ⟨z, hz, rfl⟩ := List.mem_map.1 hx
 exact k'ib h1 (hp.top z hz)
theorem k'ij (p : List Int) (v : Value) (w : World) (h : RP w v p) (ht : ∀ a ∈ p, a.natAbs < Top) (hd : ∀ a ∈ p, (Nm.dg D9 a.natAbs).length ≤ 1000000) : Calls Tryz.prog 20 #[v] w (IPost (glb (zl p)) w) := by
 have hlen := h.len
 obtain ⟨a, b, off, cap, rfl, -, -, h4, h5⟩ := h
 have HF := i' (fun k (hk : k < p.length) u w (h : Rz w u (p[k]'hk)) => k'99 p[k] u w h (hd _ (List.getElem_mem hk)) (Nat.le_trans (k'5t (ht _ (List.getElem_mem hk))) (by decide)))
 have HL := i' (fun k (hk : k < p.length) => show glb ((zl p).take (k + 1)) = max (glb ((zl p).take k)) (lenB (zs p[k])) by
  rw [List.take_succ_eq_append_getElem (by rw [k'cc]; exact hk), k'db, k'cd p k hk]
  simp only
  unfold lenV
  rw [if_pos (k'5s (ht _ (List.getElem_mem hk)))])
 obtain ⟨f, hf⟩ : ∃ f : Nat → Int, f = fun k => glb ((zl p).take k) := ⟨_, rfl⟩
 have HF0 : ∀ k, glb ((zl p).take k) = f k := fun k => by rw [hf]
 have H0 : Hid (f 0 = 0) := by show _ = _; rw [hf]; rfl
 have HE : Hid (f p.length = glb (zl p)) := by show _ = _; rw [hf]; simp only; rw [List.take_of_length_le (by rw [k'cc]; exact Nat.le_refl _)]
 simp only [HF0] at HL
 generalize glb (zl p) = res at *
 have H4 := i' h4
 have H5 := i' h5
 clear h4 h5 ht hd HF0 hf
 obtain ⟨n, hn⟩ : ∃ n, n = p.length := ⟨_, rfl⟩
 rw [← hn] at HE hlen ⊢
 have HN := i' hn
 clear hn
 go_enter Tryz.func20, Tryz.ntmps20
 go_wp2
 go_loopw [3, 4] (fun nv iv wr => ∃ (wz : World) (k : Nat), wz = wr ∧ k ≤ n ∧ nv = .int .i64 (f k) ∧ iv = .int .i64 (k : Int) ∧ Hid (Below w.heap.size w wz))
  (fun _ iv _ => n - (intOf iv).toNat)
 case atStart => exact ⟨w, 0, rfl, Nat.zero_le _, by rw [H0.out], rfl, Below.refl _ _⟩
 case round =>
  obtain ⟨wz, k, rfl, hk, rfl, rfl, hbl⟩ := hrel
  have hk0 : (0 : Int) ≤ (k : Int) := by omega
  by_cases hlt : k < n
  ·have hkp : k < p.length := by have h5 : n = p.length := HN.out; omega
   have hkk : (k : Int) < (n : Int) := by omega
   obtain rfl := H4.out (by intro e; rw [e] at hkp; exact absurd hkp (Nat.not_lt_zero _))
   obtain ⟨u, g0, g1, g2⟩ := H5.out k hkp
   have HFk := i' (fun w' (hb : Below w.heap.size w w') => HF.out k hkp u w' (g2.below hb))
   have HLk := i' (HL.out k hkp)
   have c0 := keep1 hbl.out g0
   have c1 := keep1 hbl.out g1
   have G0 := i' (And.intro g0 g1)
   obtain ⟨pu, bu, ou, cu, rfl, -⟩ := g2
   unfold iV at HFk
   generalize (Nm.dg D9 (p[k]).natAbs).length = lu at *
   generalize p[k] = z at *
   generalize lenB (zs z) = t at *
   generalize f k = m at *
   clear hkp g0 g1
   by_cases hgt : m < t
   ·have HM : Hid (f (k + 1) = t) := by show _ = _; rw [HLk.out]; omega
    go_wp2_with fail
    refine (HFk.out _ hbl.out).mono ?_
    rintro e w5 ⟨rfl, b5⟩
    have HB5 := i' (chain hbl.out b5)
    clear b5 c0 c1
    have c0 := keep1 HB5.out G0.out.1
    have c1 := keep1 HB5.out G0.out.2
    go_wp2_with fail
    refine (HFk.out _ HB5.out).mono ?_
    rintro e w6 ⟨rfl, b6⟩
    have HB6 := i' (chain HB5.out b6)
    clear b6 c0 c1
    go_wp2
    go_roundw
    case rel => exact ⟨_, k + 1, rfl, by omega, by rw [HM.out], by go_num, HB6.out⟩
    case measure => simp [intOf]; omega
   ·have HM : Hid (f (k + 1) = m) := by show _ = _; rw [HLk.out]; omega
    go_wp2_with fail
    refine (HFk.out _ hbl.out).mono ?_
    rintro e w5 ⟨rfl, b5⟩
    have HB5 := i' (chain hbl.out b5)
    clear b5 c0 c1
    go_wp2
    go_roundw
    case rel => exact ⟨_, k + 1, rfl, by omega, by rw [HM.out], by go_num, HB5.out⟩
    case measure => simp [intOf]; omega
  ·obtain rfl : k = n := by omega
   rw [HE.out]
   go_wp2
   go_ret
   exact ⟨rfl, hbl.out⟩
theorem k'im (p : List Int) (v : Value) (w : World) (h : RP w v p) (hl : p.length ≤ 25) (ht : ∀ a ∈ p, a.natAbs < Top) (hd : ∀ a ∈ p, (Nm.dg D9 a.natAbs).length ≤ 1000000) :
 Calls Tryz.prog 76 #[v] w (ResP p w) := by
 have HB := i' (k'ij p v w h ht hd)
 have HT := i' (fun w' (hb : Below w.heap.size w w') => k'ih p v w' (h.below hb) (by omega) hd)
 have hb1 := k'fb (zl p)
 obtain ⟨a, b, off, cap, rfl, -, -, -, -⟩ := h
 generalize glb (zl p) = g at *
 generalize hn : p.length = n at *
 have hn0 : (n : Int) ≤ 25 := by omega
 have hg1 : g ≤ 65536 := hb1.2
 clear hn ht hd hb1
 go_enter Tryz.func76, Tryz.ntmps76
 go_wp2_with fail
 refine HB.out.mono ?_
 rintro e w5 ⟨rfl, b5⟩
 have HB5 := i' b5
 clear b5
 go_wp2_with fail
 refine (HT.out _ HB5.out).mono ?_
 rintro e w6 ⟨v6, rfl, r6, b6⟩
 have HB6 := i' (chain HB5.out b6)
 have HR6 := i' r6
 clear b6 r6
 go_wp2
 go_ret2
 exact ⟨_, rfl, HR6.out, HB6.out⟩
theorem k'jj (p : List Int) (v vx : Value) (w : World) (hv : Rp w v p) (h : RP w vx p) (hl : p.length ≤ 25) (ht : ∀ a ∈ p, a.natAbs < Top) (hd : ∀ a ∈ p, (Nm.dg D9 a.natAbs).length ≤ 1000000) : Calls Tryz.prog 24 #[v, .int .i64 0, vx] w (BPost true w) := by
 have HO := i' (k'im p vx w h hl ht hd)
 have HS := i' (fun v2 w' (hb : Below w.heap.size w w') (h2 : Rp w' v2 p) => k'iq (zl p) (zl p) v v2 w' (hv.below hb) h2)
 rw [k'jh] at HS
 obtain ⟨a, b, off, cap, rfl, -, -, -, -⟩ := h
 obtain ⟨a1, b1, o1, c1, rfl, -, -, -, -⟩ := hv.open_
 generalize hTl : p.length = tl at *
 clear ht hd hv hTl
 go_enter Tryz.func24, Tryz.ntmps24
 go_wp2_with fail
 refine HO.out.mono ?_
 rintro e w1 ⟨v1, rfl, r1, b1⟩
 have R1 := i' r1
 have B1 := i' b1
 clear r1 b1
 go_wp2_with fail
 refine (HS.out _ _ B1.out R1.out).mono ?_
 rintro e w2 ⟨rfl, b2⟩
 have B2 := i' (chain B1.out b2)
 clear b2
 go_wp2
 go_ret
 exact ⟨rfl, B2.out⟩
theorem k'jp (L1 L2 : List (Bool × ByteArray)) (v1 v2 : Value) (e : Int) (w : World) (h1 : Rw w v1 L1) (h2 : Rw w v2 L2) (z1 : Small L1) (z2 : Small L2) (he : ckd L1 L2 = e) (h0 : e ≠ 0) :
 Calls Tryz.prog 54 #[v1, v2] w (ResE e w) := by
 have HD := i' (k'fd L1 L2 v1 v2 w h1 h2 z1 z2)
 rw [he] at HD
 have n0 : (e == 0) = false := by simpa using h0
 have n1 : (e != 0) = true := by simpa using h0
 clear h1 h2 z1 z2 he h0
 go_enter Tryz.func54, Tryz.ntmps54
 go_wp2_with fail
 refine HD.out.mono ?_
 rintro en w1 ⟨rfl, b1⟩
 have B1 := i' b1
 clear b1
 go_wp2
 go_ret2
 exact ⟨rfl, B1.out⟩
theorem k'jv (L1 L2 : List (Bool × ByteArray)) (v1 v2 : Value) (e : Int) (w : World) (h1 : Rw w v1 L1) (h2 : Rw w v2 L2) (z1 : Small L1) (z2 : Small L2) (he : ckg L1 L2 = e) (h0 : e ≠ 0) :
 Calls Tryz.prog 55 #[v1, v2] w (ResE e w) := by
 have HV1 := i' (fun w' (hb : Below w.heap.size w w') => k'd6 L1 v1 w' (h1.below hb) z1)
 have HV2 := i' (fun w' (hb : Below w.heap.size w w') => k'd6 L2 v2 w' (h2.below hb) z2)
 have HD1 := i' (fun w' (hb : Below w.heap.size w w') => k'da L1 v1 w' (h1.below hb))
 have HD2 := i' (fun w' (hb : Below w.heap.size w w') => k'da L2 v2 w' (h2.below hb))
 have HG1 := i' (fun w' (hb : Below w.heap.size w w') => k'dc L1 v1 w' (h1.below hb) z1)
 have HG2 := i' (fun w' (hb : Below w.heap.size w w') => k'dc L2 v2 w' (h2.below hb) z2)
 have G1 := k'fb L1
 have G2 := k'fb L2
 have L1b := k'fc (L := L1)
 have L2b := k'fc (L := L2)
 unfold ckg at he
 obtain ⟨p1, b1, o1, c1, rfl, -, -, -, -⟩ := h1
 obtain ⟨p2, b2, o2, c2, rfl, -, -, -, -⟩ := h2
 clear z1 z2
 generalize vldP L1 = x1 at *
 generalize vldP L2 = x2 at *
 generalize glb L1 = g1 at *
 generalize glb L2 = g2 at *
 generalize L1.length = n1 at *
 generalize L2.length = n2 at *
 cases x1
 ·have HR : Hid (e = 2) := he.symm
  clear he L1b L2b
  go_enter Tryz.func55, Tryz.ntmps55
  go_wp2_with fail
  refine (HV1.out _ (Below.refl _ _)).mono ?_
  rintro e w1 ⟨rfl, b1⟩
  have B1 := i' (b1)
  clear b1
  go_wp2
  go_ret2
  exact ⟨by rw [HR.out]; rfl, B1.out⟩
 have hn1 := L1b rfl
 clear L1b
 cases x2
 ·have HR : Hid (e = 2) := he.symm
  clear he L2b
  go_enter Tryz.func55, Tryz.ntmps55
  go_wp2_with fail
  refine (HV1.out _ (Below.refl _ _)).mono ?_
  rintro e w1 ⟨rfl, b1⟩
  have B1 := i' (b1)
  clear b1
  go_wp2_with fail
  refine (HV2.out _ B1.out).mono ?_
  rintro e w2 ⟨rfl, b2⟩
  have B2 := i' (chain B1.out b2)
  clear b2
  go_wp2
  go_ret2
  exact ⟨by rw [HR.out]; rfl, B2.out⟩
 have hn2 := L2b rfl
 clear L2b
 rw [show (true && true) = true from rfl, if_pos rfl] at he
 have HH := he
 clear he
 obtain ⟨sd, hsd⟩ : ∃ sd : Int, max ((n1 : Int) - 1) ((n2 : Int) - 1) = sd := ⟨_, rfl⟩
 obtain ⟨gb, hgb⟩ : ∃ gb : Int, max g1 g2 = gb := ⟨_, rfl⟩
 rw [hsd, hgb] at HH
 have hsd1 : -1 ≤ sd ∧ sd ≤ 24 := by omega
 have hgb1 : 0 ≤ gb ∧ gb ≤ 65536 := by omega
 obtain ⟨s2, hs2⟩ : ∃ s2 : Int, (sd + 3) * (sd + 3) = s2 := ⟨_, rfl⟩
 have hs21 : 0 ≤ s2 ∧ s2 ≤ 27 * 27 := by
  have h1 := Int.mul_le_mul (show sd + 3 ≤ 27 by omega) (show sd + 3 ≤ 27 by omega) (by omega) (by omega)
  have h2 := Int.mul_nonneg (show 0 ≤ sd + 3 by omega) (show 0 ≤ sd + 3 by omega)
  omega
 obtain ⟨m, hm⟩ : ∃ m : Int, s2 * (gb + 8) = m := ⟨_, rfl⟩
 have hm1 : 0 ≤ m ∧ m ≤ 27 * 27 * 65544 := by
  have h1 := Int.mul_le_mul hs21.2 (show gb + 8 ≤ 65544 by omega) (by omega) (by omega)
  have h2 := Int.mul_nonneg hs21.1 (show 0 ≤ gb + 8 by omega)
  omega
 have w1' : IntKind.i64.wrap ((sd + 3) * (sd + 3)) = s2 := by rw [hs2]; exact IntWalk.i64_in _ (by omega)
 have w2' : IntKind.i64.wrap (s2 * (gb + 8)) = m := by rw [hm]; exact IntWalk.i64_in _ (by omega)
 rw [hs2, hm] at HH
 by_cases hz : 0 < n1 ∧ 0 < n2 ∧ m > 65536
 ·rw [if_pos hz] at HH
  obtain ⟨hz1, hz2, hz3⟩ := hz
  have HR : Hid (e = 7) := HH.symm
  have hz4 : decide (65536 < m) = true := decide_eq_true hz3
  clear HH hs2 hm
  go_enter Tryz.func55, Tryz.ntmps55
  go_wp2_with fail
  refine (HV1.out _ (Below.refl _ _)).mono ?_
  rintro e w1 ⟨rfl, b1⟩
  have B1 := i' (b1)
  clear b1
  go_wp2_with fail
  refine (HV2.out _ B1.out).mono ?_
  rintro e w2 ⟨rfl, b2⟩
  have B2 := i' (chain B1.out b2)
  clear b2
  go_wp2_with fail
  refine (HD1.out _ B2.out).mono ?_
  rintro e w3 ⟨rfl, b3⟩
  have B3 := i' (chain B2.out b3)
  clear b3
  go_wp2_with fail
  refine (HD2.out _ B3.out).mono ?_
  rintro e w4 ⟨rfl, b4⟩
  have B4 := i' (chain B3.out b4)
  clear b4
  go_wp2_with fail
  refine (HG1.out _ B4.out).mono ?_
  rintro e w5 ⟨rfl, b5⟩
  have B5 := i' (chain B4.out b5)
  clear b5
  go_wp2_with fail
  refine (HG2.out _ B5.out).mono ?_
  rintro e w6 ⟨rfl, b6⟩
  have B6 := i' (chain B5.out b6)
  clear b6
  go_wp2
  go_ret2
  exact ⟨by rw [HR.out]; rfl, B6.out⟩
 ·rw [if_neg hz] at HH
  exact absurd HH.symm h0
theorem k'l9 {L1 L2 : List (Bool × ByteArray)} {v1 v2 : Value} {w : World} (h1 : Rw w v1 L1) (h2 : Rw w v2 L2) (z1 : Lim L1) (z2 : Lim L2) (r : Bool) (hr : (shP L1 && shP L2) = r) :
 Calls Tryz.prog 11 #[.slice (some ⟨w.heap.size, 0, none⟩) 2 2] (w.alloc (.cells #[v1, v2] 23)) (BPost r w) := by
 have h := k'ds [L1, L2] _ _ (k'do w h1 h2) (by intro L hL; simp at hL; rcases hL with rfl | rfl <;> assumption) (by simp)
 have e : [L1, L2].all shP = r := by rw [← hr]; simp
 rw [e] at h
 exact h.mono fun e w' ⟨h1, h2⟩ => ⟨h1, chain (k'56 _ _) h2⟩
theorem k'la {L1 L2 : List (Bool × ByteArray)} {v1 v2 : Value} {w : World} (h1 : Rw w v1 L1) (h2 : Rw w v2 L2) (z1 : Small L1) (z2 : Small L2) (r : Bool) (hr : (vldP L1 && vldP L2) = r) :
 Calls Tryz.prog 19 #[.slice (some ⟨w.heap.size, 0, none⟩) 2 2] (w.alloc (.cells #[v1, v2] 23)) (BPost r w) := by
 have h := k'dr [L1, L2] _ _ (k'do w h1 h2) (by intro L hL; simp at hL; rcases hL with rfl | rfl <;> assumption) (by simp)
 have e : [L1, L2].all vldP = r := by rw [← hr]; simp
 rw [e] at h
 exact h.mono fun e w' ⟨h1, h2⟩ => ⟨h1, chain (k'56 _ _) h2⟩
theorem k'mf (p : List Int) (k : Nat) (h : k < p.length) : Nat.gcd (Pl.cont (p.take k)) (p[k]).natAbs = Pl.cont (p.take (k + 1)) := by
 unfold Pl.cont
 rw [List.take_succ_eq_append_getElem h, List.foldl_append]
 rfl
theorem k'mg {n : Nat} {p : List Int} (s : Sz n p) (k : Nat) : Pl.cont (p.take k) < D9 ^ n := by
 induction k with
 | zero => simp [Pl.cont]; exact Nat.pow_pos (by decide)
 | succ k ih =>
  by_cases h : k < p.length
  ·rw [← k'mf p k h]
   rcases Nat.eq_zero_or_pos (Pl.cont (p.take k)) with h0 | h0
   ·rw [h0, Nat.gcd_zero_left]
    have := s k
    rwa [Pl.cf_lt h] at this
   ·exact Nat.lt_of_le_of_lt (Nat.gcd_le_left _ h0) ih
  ·rw [List.take_of_length_le (by omega)]
   rw [List.take_of_length_le (by omega)] at ih
   exact ih
theorem Sz.prim {n : Nat} {p : List Int} (s : Sz n p) : Sz n (Pl.prim p) := fun k => by
 rw [Pl.cf_prim]
 exact Nat.lt_of_le_of_lt (Int.natAbs_ediv_le_natAbs _ _) (s k)
theorem k'mh (n : Nat) (hn : n ≤ 90000) (p : List Int) (v : Value) (w : World) (h : RP w v p) (l : p.length ≤ 1000) (s : Sz n p) :
 Calls Tryz.prog 40 #[v] w (IntPost (Pl.cont p : Nat) w) := by
 obtain ⟨w0, hw0⟩ : ∃ w0 : World, w0 = (w.alloc (.cells #[.bool false, .slice none 0 0] 52)).alloc (.cells #[.bool false, .slice none 0 0] 52) := ⟨_, rfl⟩
 have hb0 : Hid (Below w.heap.size w w0) := by rw [hw0]; exact (k'56 _ _).alloc (by simp) _
 have I2 : Hid (Bz w0 w.heap.size 0) := by rw [hw0]; exact (Bz.made (k'h6 w)).alloc _
 have T0 : Hid (Bz w0 (w.heap.size + 1) 0) := by
  show Bz _ _ _
  rw [hw0]
  have := Bz.made (k'h6 (w.alloc (.cells #[.bool false, .slice none 0 0] 52)))
  simpa using this
 have HZ0 : Hid (w0.heap.size = w.heap.size + 2) := by show _ = _; rw [hw0]; simp
 have HG := i' (fun k (hk : k < p.length) u1 u2 w' (g1 : Rz w' u1 ((Pl.cont (p.take k) : Nat) : Int)) (g2 : Rz w' u2 p[k]) => k'7j _ _ u1 u2 w' g1 g2 (by
  refine Nat.le_trans (len9 (k := n) ?_) (by omega)
  rw [Int.natAbs_natCast]; exact k'mg s k) (by
  have := s.len k
  rw [Pl.cf_lt hk] at this
  omega))
 have HC : ∀ k (hk : k < p.length), (Nat.gcd ((Pl.cont (p.take k) : Nat) : Int).natAbs (p[k]).natAbs) = Pl.cont (p.take (k + 1)) := fun k hk => by rw [Int.natAbs_natCast]; exact k'mf p k hk
 have HG : Hid (∀ k (hk : k < p.length) u1 u2 w', Rz w' u1 ((Pl.cont (p.take k) : Nat) : Int) → Rz w' u2 p[k] → Calls Tryz.prog 97 #[iV ((Pl.cont (p.take k) : Nat) : Int) u1, iV p[k] u2] w' (IntPost ((Pl.cont (p.take (k + 1)) : Nat) : Int) w')) := fun k hk u1 u2 w' g1 g2 => by rw [← HC k hk]; exact HG.out k hk u1 u2 w' g1 g2
 have Hw0 := i' hw0
 clear hw0 s hn HC
 obtain ⟨f, hf⟩ : ∃ f : Nat → Int, f = fun k => ((Pl.cont (p.take k) : Nat) : Int) := ⟨_, rfl⟩
 have HF : ∀ k, ((Pl.cont (p.take k) : Nat) : Int) = f k := fun k => by rw [hf]
 simp only [HF] at HG
 have E0 : Hid (f 0 = 0) := by show _ = _; rw [hf]; rfl
 have EN : Hid (((Pl.cont p : Nat) : Int) = f p.length) := by show _ = _; rw [hf]; simp only; rw [List.take_length]
 rw [EN.out]
 obtain ⟨a1, b1, o1, c1, rfl, -, -, h4, h5⟩ := h
 have H4 := i' h4
 have H5 := i' h5
 obtain ⟨n1, hn1⟩ : ∃ n, n = p.length := ⟨_, rfl⟩
 rw [← hn1] at l ⊢
 have HN := i' hn1
 clear h4 h5 HF hf EN hn1
 go_enter Tryz.func40, Tryz.ntmps40
 go_upto_region 2 with (fail)
 rw [← Hw0.out]
 clear Hw0
 go_wp2
 go_loopw [4] (fun iv wr => ∃ (wz : World) (k : Nat), wz = wr ∧ iv = .int .i64 (k : Int) ∧ k ≤ n1 ∧ Hid (Bz wz (w.heap.size + 1) (f k)) ∧ Hid (Bz wz w.heap.size 0) ∧ Hid (Below w.heap.size w wz))
  (fun iv _ => n1 - (intOf iv).toNat)
 case atStart => exact ⟨w0, 0, rfl, rfl, Nat.zero_le _, by rw [E0.out]; exact T0.out, I2.out, hb0.out⟩
 case round =>
  obtain ⟨wz, k, rfl, rfl, hk, ht, hI, hd⟩ := hrel
  clear T0
  obtain ⟨pz, cz, R, k0, k1, k2, k3⟩ := ht.out.open_
  have HR := i' R
  clear R
  by_cases hlt : k < n1
  ·have hkp : k < p.length := by have h5 : n1 = p.length := HN.out; omega
   have hkk : (k : Int) < (n1 : Int) := by omega
   have hk0 : (0 : Int) ≤ (k : Int) := by omega
   obtain rfl := H4.out (by intro e; rw [e] at hkp; exact absurd hkp (Nat.not_lt_zero _))
   obtain ⟨uk, g0, g1, g2⟩ := H5.out k hkp
   have G0 := i' (And.intro g0 g1)
   have hbl1 := World.block_lt_of_cell? w _ g0
   simp only at hbl1
   have c0 := keep1 hd.out g0
   have c1 := keep1 hd.out g1
   have HG := i' (fun w' (h1 : Rz w' (.slice pz (Nm.dg D9 (f k).natAbs).length cz) (f k)) (hb : Below wz.heap.size wz w') => HG.out k hkp _ uk w' h1 ((g2.below hd.out).below hb))
   have q1 : ¬ b1 = w.heap.size + 1 := by omega
   generalize p[k] = x at *
   obtain ⟨pk, bk, ok, ck, rfl, -⟩ := g2
   unfold iV at HG
   clear g0 g1 hkp
   go_upto_region 5 with (fail)
   refine wp_region_noPanic ?_
   refine wp_region_held_drew (S := (fun W' => W'.cell? ⟨b1, o1 + k * 2, none⟩ = some (.bool (decide (x < 0))) ∧ W'.cell? ⟨b1, o1 + k * 2 + 1, none⟩ = some (.slice pk (Nm.dg D9 x.natAbs).length ck))) (by kernel_rfl) ?_ (fun hHeld => ?_)
   ·(try dsimp only)
    exact ⟨c0, c1⟩
   refine wpAnyH_take (i := 1) (oi := ?oi1) (v := ?v1) ?hi1 (by kernel_rfl) (by kernel_rfl) (by kernel_rfl) (fun _ _ _ h => h) (Or.inl ⟨?hw1, ?hy1⟩) (by assumption) ?rest1
   case hi1 => simp only [List.getElem?_toArray, List.getElem?_cons_succ, List.getElem?_cons_zero]; rfl
   case hw1 => rfl
   case hy1 =>
    intro w hSw
    (try dsimp only at hSw)
    go_simp
    (try with_reducible rfl)
   (try simp only [Act.put, List.setIfInBounds_toArray, List.set_cons_zero, List.set_cons_succ])
   refine wpAnyH_take (i := 2) (oi := ?oi2) (v := ?v2) ?hi2 (by kernel_rfl) (by kernel_rfl) (by kernel_rfl) (fun _ _ _ h => h) (Or.inl ⟨?hw2, ?hy2⟩) (by assumption) ?rest2
   case hi2 => simp only [List.getElem?_toArray, List.getElem?_cons_succ, List.getElem?_cons_zero]; rfl
   case hw2 => rfl
   case hy2 =>
    intro w hSw
    (try dsimp only at hSw)
    go_simp
    (try with_reducible rfl)
   (try simp only [Act.put, List.setIfInBounds_toArray, List.set_cons_zero, List.set_cons_succ])
   refine wpAnyH_take (i := 3) (oi := ?oi3) (v := ?v3) ?hi3 (by kernel_rfl) (by kernel_rfl) (by kernel_rfl) (fun _ _ _ h => h) (Or.inl ⟨?hw3, ?hy3⟩) (by assumption) ?rest3
   case hi3 => simp only [List.getElem?_toArray, List.getElem?_cons_succ, List.getElem?_cons_zero]; rfl
   case hw3 => rfl
   case hy3 =>
    intro w hSw
    (try dsimp only at hSw)
    go_simp
    (try with_reducible rfl)
   (try simp only [Act.put, List.setIfInBounds_toArray, List.set_cons_zero, List.set_cons_succ])
   refine wpAnyH_take (i := 4) (oi := ?oi4) (v := ?v4) ?hi4 (by kernel_rfl) (by kernel_rfl) (by kernel_rfl) (fun _ _ _ h => h) (Or.inl ⟨?hw4, ?hy4⟩) (by assumption) ?rest4
   case hi4 => simp only [List.getElem?_toArray, List.getElem?_cons_succ, List.getElem?_cons_zero]; rfl
   case hw4 => rfl
   case hy4 =>
    intro w hSw
    (try dsimp only at hSw)
    go_simp
    (try with_reducible rfl)
   (try simp only [Act.put, List.setIfInBounds_toArray, List.set_cons_zero, List.set_cons_succ])
   refine wpAnyH_ready (rs := [0]) (by kernel_rfl) (by simp) ?_
   refine AllReadyH.cons (o := ?oi5) ?hi5 ?rest5 AllReadyH.nil
   case hi5 => simp only [List.getElem?_toArray, List.getElem?_cons_succ, List.getElem?_cons_zero]; rfl
   intro K hK
   go_simp
   refine hK.out _ _ ?_ (fun hHeld => ?_)
   ·(try dsimp only)
    exact ⟨c0, c1⟩
   clear hK K
   (try simp only [Act.put, List.setIfInBounds_toArray, List.set_cons_zero, List.set_cons_succ])
   refine wpAnyH_ready (rs := [5]) (by kernel_rfl) (by simp) ?_
   refine AllReadyH.cons (o := ?oi6) ?hi6 ?rest6 AllReadyH.nil
   case hi6 => simp only [List.getElem?_toArray, List.getElem?_cons_succ, List.getElem?_cons_zero]; rfl
   intro K hK
   go_simp
   (with_reducible refine (HG.out wz.drew HR.out.drew (Below.refl _ _).drew).mono ?_)
   rintro e y ⟨v2, rfl, r2, b2⟩
   have d2 := chain ((Below.refl wz.heap.size wz).drew) b2
   unfold iV
   have ZZ := i' (ht.out.below d2)
   have C2 := i' (k'5c (chain hd.out d2) (g := w.heap.size + 1) (by omega) (.bool (decide (f (k + 1) < 0))) v2)
   have CI := i' ((hI.out.below d2).other ZZ.out (by omega) (.bool (decide (f (k + 1) < 0))) v2)
   have TT := i' (ZZ.out.store r2)
   have p0 := keep1 d2 c0
   have p1 := keep1 d2 c1
   obtain ⟨_, _, -, j0, j1, j2, j3⟩ := ZZ.out.open_
   obtain ⟨pq2, bb2, oo2, cc2, rfl, rr2⟩ := r2
   clear b2 d2 rr2
   (try go_wp2_with fail)
   refine hK.out _ _ ?_ (fun hHeld => ?_)
   ·(try dsimp only)
    exact ⟨p0, p1⟩
   clear hK K
   (try simp only [Act.put, List.setIfInBounds_toArray, List.set_cons_zero, List.set_cons_succ])
   refine wpAnyH_ready (rs := [6]) (by kernel_rfl) (by simp) ?_
   refine AllReadyH.cons (o := ?oi7) ?hi7 ?rest7 AllReadyH.nil
   case hi7 => simp only [List.getElem?_toArray, List.getElem?_cons_succ, List.getElem?_cons_zero]; rfl
   intro K hK
   go_simp
   refine hK.out _ _ ?_ (fun hHeld => ?_)
   ·(try dsimp only)
    exact ⟨far2 (by simp only; omega) p0, far2 (by simp only; omega) p1⟩
   clear hK K
   (try simp only [Act.put, List.setIfInBounds_toArray, List.set_cons_zero, List.set_cons_succ])
   refine wpAnyH_done (by kernel_rfl) ?_ _
   refine NoPanic.normal ?_
   (try dsimp only [Exit.then])
   go_wp2
   go_roundw
   case rel => exact ⟨_, k + 1, rfl, by go_num, by omega, TT.out, CI.out, C2.out⟩
   case measure => simp [intOf]; omega
  ·obtain rfl : k = n1 := by omega
   have ZI := hI
   obtain ⟨_, _, -, m0, m1, m2, m3⟩ := ZI.out.open_
   have f1 : ¬ w.heap.size + 1 = w.heap.size := by omega
   have f2 : ¬ w.heap.size = w.heap.size + 1 := by omega
   have HZ := i' (k'5c hd.out (g := w.heap.size) (Nat.le_refl _) (.bool (decide (f k < 0))) (.slice pz (Nm.dg D9 (f k).natAbs).length cz))
   have HR2 := i' (HR.out.stored ZI.out (.bool (decide (f k < 0))) (.slice pz (Nm.dg D9 (f k).natAbs).length cz))
   go_wp2
   exact bodyPost_ret (v := .agg #[.bool (decide (f k < 0)), .slice pz (Nm.dg D9 (f k).natAbs).length cz]) (by simp [results, Tryz.results40, go_sem, m0, m1]) rfl ⟨_, rfl, HR2.out, HZ.out⟩
theorem k'mi (n : Nat) (hn : n ≤ 80000) (p : List Int) (v : Value) (w : World) (h : RP w v p) (l : p.length ≤ 1000) (s : Sz n p) (hnr : Pl.Nrm p) :
 Calls Tryz.prog 41 #[v] w (RPPost (Pl.prim p) w) := by
 have HC := i' (k'mh n (by omega) p v w h l s)
 have HQ := i' (fun k (hk : k < p.length) u1 u2 w' (g1 : Rz w' u1 p[k]) (g2 : Rz w' u2 ((Pl.cont p : Nat) : Int)) => k'ad p[k] ((Pl.cont p : Nat) : Int) u1 u2 w' (n + 1) (by omega) (by
  have := s k
  rw [Pl.cf_lt hk] at this
  exact Nat.lt_of_lt_of_le this (Nat.pow_le_pow_right (by decide) (Nat.le_succ _))) (by
  have := k'mg s p.length
  rw [List.take_length] at this
  rw [Int.natAbs_natCast]
  exact Nat.lt_of_lt_of_le this (Nat.pow_le_pow_right (by decide) (Nat.le_succ _))) g1 g2 (by
  have := Pl.cont_pos hnr (by intro e; rw [e] at hk; exact absurd hk (Nat.not_lt_zero _))
  omega))
 obtain ⟨f, hf⟩ : ∃ f : Nat → Int, f = fun k => Pl.cf p k / ((Pl.cont p : Nat) : Int) := ⟨_, rfl⟩
 have HF := i' (fun k (hk : k < p.length) => show p[k] / ((Pl.cont p : Nat) : Int) = f k by rw [hf]; simp only; rw [Pl.cf_lt hk])
 have HT : Hid (tab f p.length = Pl.prim p) := Pl.ext_cf (by rw [k'ht, Pl.prim_length]) fun k hk => by
  rw [k'ht] at hk
  rw [k'hu, Pl.cf_prim, hf, if_pos hk]
 rw [← HT.out]
 generalize ((Pl.cont p : Nat) : Int) = g at *
 clear hf s hn hnr HT
 obtain ⟨a1, b1, o1, c1, rfl, -, -, h4, h5⟩ := h
 have H4 := i' h4
 have H5 := i' h5
 obtain ⟨n1, hn1⟩ : ∃ n, n = p.length := ⟨_, rfl⟩
 rw [← hn1] at l HC ⊢
 have HN := i' hn1
 clear h4 h5 hn1
 unfold IntPost iV at HC
 generalize hbg : decide (g < 0) = bg at *
 have HBG := i' hbg
 clear hbg
 go_enter Tryz.func41, Tryz.ntmps41
 go_wp2_with fail
 refine HC.out.mono ?_
 rintro e y0 ⟨v0, rfl, r0, b0⟩
 obtain ⟨u0, hu0⟩ : ∃ u0 : World, u0 = y0.alloc (.cells #[.bool bg, v0] 52) := ⟨_, rfl⟩
 have T0 : Hid (ZC (.bool bg) v0 u0 y0.heap.size) := by rw [hu0]; exact ZC.new rfl
 have R0 : Hid (Rz u0 v0 g) := by rw [hu0]; exact r0.allocd _
 have D0 : Hid (Below w.heap.size w u0) := by rw [hu0]; exact b0.alloc b0.size _
 obtain ⟨p0, bb0, o0, c0, rfl, rr0⟩ := r0
 have Hu0 := i' hu0
 clear b0 rr0 hu0 HC
 generalize (Nm.dg D9 g.natAbs).length = lg at *
 go_upto_region 2 with (fail)
 rw [← Hu0.out]
 clear Hu0
 go_wp2
 go_loopw [4, 5] (fun v iv wr => ∃ (wz : World) (k : Nat), wz = wr ∧ k ≤ n1 ∧ iv = .int .i64 (k : Int) ∧ Hid (RowP wz u0.heap.size v (tab f k)) ∧ Hid (Below u0.heap.size u0 wz))
  (fun _ iv _ => n1 - (intOf iv).toNat)
 case atStart => exact ⟨u0, 0, rfl, Nat.zero_le _, rfl, RowP.nil _ _, Below.refl _ _⟩
 case round =>
  obtain ⟨wz, k, rfl, hk, rfl, hrow, hd⟩ := hrel
  have hk0 : (0 : Int) ≤ (k : Int) := by omega
  by_cases hlt : k < n1
  ·have hkp : k < p.length := by have h5 : n1 = p.length := HN.out; omega
   have hkk : (k : Int) < (n1 : Int) := by omega
   obtain rfl := H4.out (by intro e; rw [e] at hkp; exact absurd hkp (Nat.not_lt_zero _))
   obtain ⟨uk, g0, g1, g2⟩ := H5.out k hkp
   have d0 := keep1 (chain D0.out hd.out) g0
   have d1 := keep1 (chain D0.out hd.out) g1
   obtain ⟨d2, d3, -, -⟩ := T0.out.next hd.out
   have HQ := i' (fun w' (hb : Below wz.heap.size wz w') => HQ.out k hkp uk (.slice p0 lg c0) w' ((g2.below (chain D0.out hd.out)).below hb) ((R0.out.below hd.out).below hb))
   rw [HF.out k hkp] at HQ
   have HS := i' (k'hs f k)
   have hb1 := World.block_lt_of_cell? w _ g0
   simp only at hb1
   have hy0 := T0.out.lt
   have hw0 := hd.out.size
   have hdw := D0.out.size
   have e1 : ¬ b1 = wz.heap.size := by omega
   have e2 : ¬ b1 = wz.heap.size + 1 := by omega
   have e3 : ¬ y0.heap.size = wz.heap.size := by omega
   have e4 : ¬ y0.heap.size = wz.heap.size + 1 := by omega
   have e5 : ¬ wz.heap.size = b1 := by omega
   have e6 : ¬ wz.heap.size + 1 = b1 := by omega
   have e7 : ¬ wz.heap.size = y0.heap.size := by omega
   have e8 : ¬ wz.heap.size + 1 = y0.heap.size := by omega
   generalize p[k] = x at *
   generalize f k = z at *
   generalize x % g = zr at *
   obtain ⟨pk, bk, ok, ck, rfl, -⟩ := g2
   unfold iV at HQ
   rw [HBG.out] at HQ
   unfold QIPost iV at HQ
   generalize (Nm.dg D9 x.natAbs).length = lx at *
   generalize decide (x < 0) = bx at *
   obtain ⟨bz, hbz⟩ : ∃ b, decide (z < 0) = b := ⟨_, rfl⟩
   obtain ⟨bzr, hbzr⟩ : ∃ b, decide (zr < 0) = b := ⟨_, rfl⟩
   rw [hbz, hbzr] at HQ
   have HBZ := i' hbz
   clear g0 g1 hkp hbz hbzr hb1 hw0 hdw hy0
   go_upto_region 6 with (fail)
   go_cut [6, 7] (fun sa sb wx => ∃ (ga gb : Nat) (pa pb : Option Addr) (na ca nb cb : Nat), sa = .pointer (some ⟨ga, 0, none⟩) ∧ sb = .pointer (some ⟨gb, 0, none⟩) ∧ Hid (CutI (.bool bz) (.bool bzr) (.slice pa na ca) (.slice pb nb cb) (Nm.dg D9 z.natAbs) (Nm.dg D9 zr.natAbs) wz.heap.size wz wx ga gb))
   case first =>
    rename_i J0 K0 hRJ hMK
    go_region_held3 (fun W' => W'.cell? ⟨b1, o1 + k * 2, none⟩ = some (.bool bx) ∧ W'.cell? ⟨b1, o1 + k * 2 + 1, none⟩ = some (.slice pk lx ck) ∧ W'.cell? ⟨y0.heap.size, 0, none⟩ = some (.bool bg) ∧ W'.cell? ⟨y0.heap.size, 1, none⟩ = some (.slice p0 lg c0)) (go_keep)
     (first
      | (go_at_call 98; (with_reducible refine (HQ.out _ (by first | exact Below.refl _ _ | exact (Below.refl _ _).drew | exact k'56 _ _ | exact k'57 _ _ _ | exact (k'56 _ _).drew | exact (k'57 _ _ _).drew)).mono ?_); rintro e y9 ⟨v9, x9, rfl, r9, s9, b9⟩; (try unfold iV); (try (have b9 := k'5b b9)); have c9 : Below wz.heap.size wz y9 := chain (by first | exact Below.refl _ _ | exact (Below.refl _ _).drew | exact k'56 _ _ | exact k'57 _ _ _ | exact (k'56 _ _).drew | exact (k'57 _ _ _).drew) b9; have p0a := keep1 c9 d0; have p0b := keep1 c9 d1; have p0c := keep1 c9 d2; have p0d := keep1 c9 d3; have hz9 := c9.size; (try (have A0 := i' (ZC.made (g := wz.heap.size) rfl b9); obtain ⟨A0a, A0b, A0c, A0d⟩ := A0.out)); (try (have A0 := i' (ZC.made1 (g := wz.heap.size) rfl b9); have B0 := i' (ZC.made (g := wz.heap.size + 1) (by simp) b9); obtain ⟨A0a, A0b, A0c, A0d⟩ := A0.out; obtain ⟨B0a, B0b, B0c, B0d⟩ := B0.out)); (try (have L01 := i' (k'58 (g := wz.heap.size) rfl b9); obtain ⟨l01x, l01y, l01z⟩ := L01.out)); (try (have MM := i' (k'59 (g := wz.heap.size) rfl b9); have L01 := i' MM.out.1; have M01 := i' MM.out.2; clear MM; obtain ⟨l01x, l01y, l01z⟩ := L01.out; obtain ⟨m01x, m01y, m01z⟩ := M01.out)); have G9 := i' (And.intro r9 s9); obtain ⟨pq9, bq9, oq9, cq9, rfl, rrq9⟩ := r9; obtain ⟨ps9, bs9, os9, cs9, rfl, rrs9⟩ := s9; clear rrq9 rrs9)
      | fail)
    all_goals
     obtain ⟨r1, r2⟩ := G9.out
     refine hMK _ _ (Met.intro (hRJ _ _ ?_))
     (repeat apply Exists.intro)
     refine ⟨?_, rfl⟩
     refine ⟨_, _, pq9, ps9, (Nm.dg D9 z.natAbs).length, cq9, (Nm.dg D9 zr.natAbs).length, cs9, rfl, rfl, ?_⟩
     show CutI (.bool bz) (.bool bzr) (.slice pq9 _ cq9) (.slice ps9 _ cs9) (Nm.dg D9 z.natAbs) (Nm.dg D9 zr.natAbs) wz.heap.size wz _ _ _
     have sA0 : wz.heap.size ≤ wz.heap.size := Nat.le_refl _
     have sB0 : wz.heap.size ≤ wz.heap.size + 1 := Nat.le_succ _
     have sA2 : wz.heap.size ≤ y9.heap.size := c9.size
     have n0 : ¬ wz.heap.size = wz.heap.size + 1 := Nat.ne_of_lt (Nat.lt_succ_self _)
     have m0 : ¬ wz.heap.size + 1 = wz.heap.size := fun e => n0 e.symm
     first
      | with_reducible exact CutI.s1 r1 r2 c9 sA2
      | with_reducible exact CutI.s2 r1 r2 c9 sA2
      | with_reducible exact CutI.s3 A0.out sA0 r1 r2 c9 sA2
      | with_reducible exact CutI.s4 A0.out sA0 r1 r2 c9 sA2
      | with_reducible exact CutI.s3 B0.out sB0 r1 r2 c9 sA2
      | with_reducible exact CutI.s4 B0.out sB0 r1 r2 c9 sA2
      | with_reducible exact CutI.s5 A0.out sA0 B0.out sB0 n0 r1 r2 c9
      | with_reducible exact CutI.s5 B0.out sB0 A0.out sA0 m0 r1 r2 c9
      | fail
   obtain ⟨ga, gb, pa, pb, na, ca, nb, cb, rfl, rfl, hcut⟩ := hcut
   obtain ⟨_, T6, -, R6, -, bxx⟩ := hcut.out
   obtain ⟨k0, k1, -, -⟩ := T6
   have HX5 := i' (hrow.out.below bxx)
   have HB5 := i' (chain hd.out bxx)
   have HR5 := i' R6
   clear bxx R6 d0 d1 d2 d3 hcut e1 e2 e3 e4 e5 e6 e7 e8
   have HLk : Hid ((tab f k).length ≤ 100000) := by show _ ≤ _; rw [k'ht]; omega
   go_wp2_with (at_builtin; rw [← HBZ.out]; refine k'h5 rfl rfl _ _ rfl rfl rfl HX5.out HR5.out HLk.out HB5.out ?_)
   intro v' w1 hrow1 hb1 _
   have HN1 := i' hrow1
   have HB1 := i' hb1
   rw [HS.out] at HN1
   clear hrow1 hb1
   go_wp2
   go_roundw
   case rel => exact ⟨_, k + 1, rfl, by omega, by go_num, HN1.out, HB1.out⟩
   case measure => simp [intOf]; omega
  ·obtain rfl : k = n1 := by omega
   have HRo := i' hrow.out.rp
   have HB6 := i' (chain D0.out hd.out)
   go_wp2
   go_ret
   exact ⟨_, rfl, HRo.out, HB6.out⟩
def Ap (w : World) (g : Nat) (p : List Int) : Prop := ∃ us : List Value, us.length = p.length ∧ w.heap[g]? = some (.cells (rv p us).toArray 52 (0, 0)) ∧ ∀ k (h : k < us.length) (h2 : k < p.length), Rz w us[k] p[k]
theorem Ap.lt {w : World} {g : Nat} {p : List Int} (h : Ap w g p) : g < w.heap.size := by obtain ⟨us, _, h, _⟩ := h; exact lt_of_block h
theorem Ap.cell {w : World} {g : Nat} {p : List Int} (h : Ap w g p) (k : Nat) (hk : k < p.length) : ∃ u, w.cell? ⟨g, k * 2, none⟩ = some (.bool (decide (p[k] < 0))) ∧ w.cell? ⟨g, k * 2 + 1, none⟩ = some u ∧ Rz w u p[k] := by
 obtain ⟨us, hl, h, hz⟩ := h
 obtain ⟨h1, h2⟩ := k'df hl k hk
 exact ⟨us[k], by rw [cell_of_row w g _ _ _ _ h, List.getElem?_toArray]; exact h1, by rw [cell_of_row w g _ _ _ _ h, List.getElem?_toArray]; exact h2, hz k (by omega) hk⟩
theorem Ap.free {w : World} {g : Nat} {p : List Int} (h : Ap w g p) (k : Nat) : w.frozen? ⟨g, k, none⟩ = false := by obtain ⟨us, _, h, _⟩ := h; exact frozen_of_row w g k _ _ h
theorem Ap.below {w w' : World} {g : Nat} {p : List Int} (h : Ap w g p) (hb : Below w.heap.size w w') : Ap w' g p := by
 obtain ⟨us, hl, h, hz⟩ := h
 exact ⟨us, hl, (hb.block g (lt_of_block h)).trans h, fun k h1 h2 => (hz k h1 h2).below hb⟩
theorem Ap.row {w : World} {g B n : Nat} {p : List Int} (h : Ap w g p) (hB : B ≤ g) (hn : p.length = n) (hm : n ≤ maxLen) : RowP w B (.slice (some ⟨g, 0, none⟩) n n) p := by
 obtain ⟨us, hl, h, hz⟩ := h
 subst hn
 refine ⟨us, hl, ⟨k'dd hl, Or.inr ⟨g, p.length, _, rfl, hB, h, Nat.le_refl _, hm, ?_, ?_⟩⟩, hz⟩
 ·simp [k'dd hl]
 ·simp only [List.toList_toArray]
  rw [List.take_of_length_le (by rw [k'dd hl]; exact Nat.le_refl _)]
theorem k'ml {p : List Int} {us : List Value} (h : us.length = p.length) (k : Nat) (z : Int) (u : Value) : ((rv p us).set (k * 2) (.bool (decide (z < 0)))).set (k * 2 + 1) u = rv (p.set k z) (us.set k u) := by
 induction p generalizing us k with
 | nil => cases us with
  | nil => rfl
  | cons u us => simp at h
 | cons y p ih =>
  cases us with
  | nil => simp at h
  | cons x us =>
   cases k with
   | zero => rfl
   | succ k =>
    have h2 : us.length = p.length := by simpa using h
    rw [show (k + 1) * 2 = k * 2 + 1 + 1 by omega]
    simp only [rv, List.set_cons_succ]
    rw [ih h2]
theorem Rz.set {w : World} {v old u : Value} {z : Int} {p : Addr} (h : Rz w v z) (hp : w.cell? p = some old) (hno : ∀ n, old ≠ .int .i64 n) : Rz (w.setCell p u) v z := by
 obtain ⟨q, b, off, cap, h1, h2, h3, h4, h5, h6⟩ := h
 refine ⟨q, b, off, cap, h1, h2, h3, h4, h5.imp id (fun g => ⟨g.1, g.2.set _ _⟩), fun k hk => ?_⟩
 rw [World.cell?_setCell_other]
 ·exact h6 k hk
 ·intro e
  subst e
  rw [h6 k hk] at hp
  exact hno _ (Option.some.inj hp).symm
theorem Ap.set {w : World} {g : Nat} {p : List Int} {z : Int} {u : Value} (h : Ap w g p) (k : Nat) (hk : k < p.length) (hu : Rz w u z) : Ap ((w.setCell ⟨g, k * 2, none⟩ (.bool (decide (z < 0)))).setCell ⟨g, k * 2 + 1, none⟩ u) g (p.set k z) := by
 obtain ⟨u0, g0, g1, g2⟩ := h.cell k hk
 obtain ⟨us, hl, h, hz⟩ := h
 have h1 := heap_setCell_same w g (k * 2) _ _ (.bool (decide (z < 0))) h
 have h2 := heap_setCell_same _ g (k * 2 + 1) _ _ u h1
 have hs : ∀ {v' : Value} {z' : Int}, Rz w v' z' → Rz ((w.setCell ⟨g, k * 2, none⟩ (.bool (decide (z < 0)))).setCell ⟨g, k * 2 + 1, none⟩ u) v' z' := fun h' =>
  (h'.set (u := .bool (decide (z < 0))) g0 (fun _ => by simp)).set (old := u0) ((World.cell?_setCell_other w ⟨g, k * 2, none⟩ ⟨g, k * 2 + 1, none⟩ (.bool (decide (z < 0))) (by simp)).trans g1) g2.noint
 refine ⟨us.set k u, by simp [hl], h2.trans ?_, fun j h3 h4 => ?_⟩
 ·rw [← k'ml hl]
  simp
 ·by_cases e : j = k
  ·subst e
   have e1 : (us.set j u)[j]'h3 = u := by simp
   have e2 : (p.set j z)[j]'h4 = z := by simp
   rw [e1, e2]
   exact hs hu
  ·have e1 : (us.set k u)[j]'h3 = us[j]'(by simpa using h3) := by rw [List.getElem_set_ne (Ne.symm e)]
   have e2 : (p.set k z)[j]'h4 = p[j]'(by simpa using h4) := by rw [List.getElem_set_ne (Ne.symm e)]
   rw [e1, e2]
   exact hs (hz j _ _)
theorem Ap.stored {w : World} {g : Nat} {p : List Int} (h : Ap w g p) (k : Nat) (hk : k < p.length) {v : Value} {z : Int} (hv : Rz w v z) (x : Value) (u : Value) : Rz ((w.setCell ⟨g, k * 2, none⟩ x).setCell ⟨g, k * 2 + 1, none⟩ u) v z := by
 obtain ⟨u0, g0, g1, g2⟩ := h.cell k hk
 exact (hv.set (u := x) g0 (fun _ => by simp)).set (old := u0) ((World.cell?_setCell_other w ⟨g, k * 2, none⟩ ⟨g, k * 2 + 1, none⟩ x (by simp)).trans g1) g2.noint
theorem k'mm (n : Nat) : madeCells #[.bool false, .slice none 0 0] (n * 2) = (rv (List.replicate n 0) (List.replicate n (.slice none 0 0))).toArray := by
 have hl : (List.replicate n (Value.slice none 0 0)).length = (List.replicate n (0 : Int)).length := by simp
 apply Array.ext
 ·simp [madeCells, k'dd hl]
 ·intro i h1 h2
  have h3 : i < n * 2 := by simpa [madeCells] using h1
  have hk : i / 2 < (List.replicate n (0 : Int)).length := by simp; omega
  obtain ⟨g1, g2⟩ := k'df hl (i / 2) hk
  have hz : (List.replicate n (0 : Int))[i / 2] = 0 := by simp
  rw [hz] at g1
  have h4 : (rv (List.replicate n 0) (List.replicate n (Value.slice none 0 0))).toArray[i] = (rv (List.replicate n 0) (List.replicate n (Value.slice none 0 0)))[i]'(by simpa using h2) := by simp
  rw [h4]
  rcases Nat.mod_two_eq_zero_or_one i with e | e
  ·have e2 : i / 2 * 2 = i := by omega
   rw [e2, List.getElem?_eq_getElem (by simpa using h2)] at g1
   rw [Option.some.inj g1]
   simp [madeCells, e]
  ·have e2 : i / 2 * 2 + 1 = i := by omega
   rw [e2, List.getElem?_eq_getElem (by simpa using h2)] at g2
   rw [Option.some.inj g2]
   simp [madeCells, e]
theorem mk_ps (n : Nat) (w : World) (hn : n ≤ 1000) :
 (Instr.makeSlice 34 (.int .i64 (n : Int)) (.int .i64 (n : Int))).run Tryz.prog w = .ok (.slice (some ⟨w.heap.size, 0, none⟩) n n) (w.alloc (.cells (rv (List.replicate n 0) (List.replicate n (.slice none 0 0))).toArray 52)) := by
 have hi : (Tryz.prog.info? 52).map (fun i => (i.zero, i.size, i.bytes)) = some (some (.agg #[.bool false, .slice none 0 0]), 2, 32) := by kernel_rfl
 obtain ⟨i, hi, hz, hs, hb⟩ := info_parts hi
 rw [run_make w 34 52 i (.agg #[.bool false, .slice none 0 0]) Tryz.underlying34 hi hz .i64 .i64 n n (by omega) (by omega) (by rw [hb]; omega) (by omega)]
 simp only [Int.toNat_natCast, hs]
 have hm : madeCells (Value.cells (.agg #[.bool false, .slice none 0 0])) (n * 2) = (rv (List.replicate n 0) (List.replicate n (.slice none 0 0))).toArray := k'mm n
 rw [hm]
theorem Ap.made (w : World) (n : Nat) : Ap (w.alloc (.cells (rv (List.replicate n 0) (List.replicate n (.slice none 0 0))).toArray 52)) w.heap.size (List.replicate n 0) :=
 ⟨List.replicate n (.slice none 0 0), by simp, heap_alloc_new w _, fun k h1 h2 => by
  have e1 : (List.replicate n (Value.slice none 0 0))[k]'h1 = .slice none 0 0 := by simp
  have e2 : (List.replicate n (0 : Int))[k]'h2 = 0 := by simp
  rw [e1, e2]
  exact k'h6 _⟩
theorem pow9 {m k : Nat} {x : Int} (h : x.natAbs < D9 ^ m) : (x ^ k).natAbs < D9 ^ (m * k + 1) := by
 rw [Int.natAbs_pow]
 have h1 : x.natAbs ^ k ≤ (D9 ^ m) ^ k := Nat.pow_le_pow_left (Nat.le_of_lt h) k
 rw [← Nat.pow_mul] at h1
 exact Nat.lt_of_le_of_lt h1 (Nat.pow_lt_pow_right (by decide) (Nat.lt_succ_self _))
theorem k'mn (n m : Nat) (hn : n ≤ 1000) (hm : m * n ≤ 90000) (hm0 : m ≤ 90000) (x : Int) (sx : x.natAbs < D9 ^ m) (u : Value) (w : World) (hu : Rz w u x) :
 Calls Tryz.prog 104 #[iV x u, .int .i64 (n : Int)] w (IntPost (x ^ n) w) := by
 obtain ⟨w0, hw0⟩ : ∃ w0 : World, w0 = (w.alloc (.cells #[.bool (decide (x < 0)), u] 52)).alloc (.cells #[.bool false, .slice none 0 0] 52) := ⟨_, rfl⟩
 have hb0 : Hid (Below w.heap.size w w0) := by rw [hw0]; exact (k'56 _ _).alloc (by simp) _
 have HX : Hid (Bz w0 w.heap.size x) := by rw [hw0]; exact (Bz.made hu).alloc _
 have I2 : Hid (Bz w0 (w.heap.size + 1) 0) := by
  show Bz _ _ _
  rw [hw0]
  have := Bz.made (k'h6 (w.alloc (.cells #[.bool (decide (x < 0)), u] 52)))
  simpa using this
 have HZ0 : Hid (w0.heap.size = w.heap.size + 2) := by show _ = _; rw [hw0]; simp
 have HN : Hid (∀ w, Calls Tryz.prog 74 #[.int .i64 1] w (IntPost (x ^ 0) w)) := fun w => by rw [Int.pow_zero]; exact k'8f 1 w (by decide) (by decide)
 have HM := i' (fun k (hk : k < n) u1 u2 w' (g1 : Rz w' u1 (x ^ k)) (g2 : Rz w' u2 x) => k'7b (x ^ k) x u1 u2 w' g1 g2 (Nat.le_trans (len9 (pow9 sx)) (by have := Nat.mul_le_mul_left m (Nat.le_of_lt hk); omega)) (Nat.le_trans (len9 sx) (by omega)))
 have HP : ∀ k, x ^ k * x = x ^ (k + 1) := fun k => (Int.pow_succ x k).symm
 simp only [HP] at HM
 have Hw0 := i' hw0
 obtain ⟨pu, bu, ou, cu, hup, -⟩ := hu
 subst hup
 clear hw0 HP sx hm hm0
 obtain ⟨f, hf⟩ : ∃ f : Nat → Int, f = fun k => x ^ k := ⟨_, rfl⟩
 have HF : ∀ k, x ^ k = f k := fun k => by rw [hf]
 simp only [HF] at HM HN ⊢
 unfold iV at HM ⊢
 unfold IntPost iV at HN
 clear HF hf
 go_enter Tryz.func104, Tryz.ntmps104
 go_wp2_with fail
 rw [← Hw0.out]
 refine (HN.out _).mono ?_
 rintro e y0 ⟨v0, rfl, r0, b0⟩
 obtain ⟨u0, hu0⟩ : ∃ u0 : World, u0 = y0.alloc (.cells #[.bool (decide (f 0 < 0)), v0] 52) := ⟨_, rfl⟩
 have T0 : Hid (Bz u0 y0.heap.size (f 0)) := by rw [hu0]; exact Bz.made r0
 have D0 : Hid (Below w0.heap.size w0 u0) := by rw [hu0]; exact b0.alloc b0.size _
 have G0 : Hid (w0.heap.size ≤ y0.heap.size) := b0.size
 obtain ⟨p0, bb0, o0, c0, rfl, rr0⟩ := r0
 have Hu0 := i' hu0
 clear b0 rr0 hu0 Hw0
 go_wp2
 rw [← Hu0.out]
 clear Hu0
 go_loopw [6] (fun iv wr => ∃ (wz : World) (k : Nat), wz = wr ∧ iv = .int .i64 (k : Int) ∧ k ≤ n ∧ Hid (Bz wz y0.heap.size (f k)) ∧ Hid (Below w0.heap.size w0 wz))
  (fun iv _ => n - (intOf iv).toNat)
 case atStart => exact ⟨u0, 0, rfl, rfl, Nat.zero_le _, T0.out, D0.out⟩
 case round =>
  obtain ⟨wz, k, rfl, rfl, hk, ht, hd⟩ := hrel
  clear T0 D0
  obtain ⟨pz, cz, R, k0, k1, k2, k3⟩ := ht.out.open_
  have HR := i' R
  clear R
  by_cases hlt : k < n
  ·have hkk : (k : Int) < (n : Int) := by omega
   obtain ⟨px, cx, RX, x0, x1, -, -⟩ := (HX.out.below hd.out).open_
   have HMk := i' (HM.out k hlt _ _ wz HR.out RX)
   clear RX
   go_wp2_with fail
   refine HMk.out.mono ?_
   rintro e y2 ⟨v2, rfl, r2, b2⟩
   unfold iV
   have ZZ := i' (ht.out.below b2)
   have C2 := i' (k'5c (chain hd.out b2) (g := y0.heap.size) G0.out (.bool (decide (f (k + 1) < 0))) v2)
   have TT := i' (ZZ.out.store r2)
   obtain ⟨_, _, -, j0, j1, j2, j3⟩ := ZZ.out.open_
   obtain ⟨pq2, bb2, oo2, cc2, rfl, rr2⟩ := r2
   clear b2 rr2 k0 k1 k2 k3
   go_wp2
   go_roundw
   case rel => exact ⟨_, k + 1, rfl, by go_num, by omega, TT.out, C2.out⟩
   case measure => simp [intOf]; omega
  ·obtain rfl : k = n := by omega
   have ZI := i' (I2.out.below hd.out)
   obtain ⟨_, _, -, m0, m1, m2, m3⟩ := ZI.out.open_
   have f1 : ¬ y0.heap.size = w.heap.size + 1 := by have := G0.out; have := HZ0.out; omega
   have f2 : ¬ w.heap.size + 1 = y0.heap.size := by have := G0.out; have := HZ0.out; omega
   have HZ := i' (k'5c (chain hb0.out hd.out) (g := w.heap.size + 1) (by omega) (.bool (decide (f k < 0))) (.slice pz (Nm.dg D9 (f k).natAbs).length cz))
   have HR2 := i' (HR.out.stored ZI.out (.bool (decide (f k < 0))) (.slice pz (Nm.dg D9 (f k).natAbs).length cz))
   go_wp2
   exact bodyPost_ret (v := .agg #[.bool (decide (f k < 0)), .slice pz (Nm.dg D9 (f k).natAbs).length cz]) (by simp [results, Tryz.results104, go_sem, m0, m1]) rfl ⟨_, rfl, HR2.out, HZ.out⟩
theorem mx_lt {n : Nat} {p : List Int} (s : Sz n p) : Pl.mx p < D9 ^ n := by
 have h : Pl.mx p ≤ D9 ^ n - 1 := Pl.mx_le fun k _ => by have := s k; omega
 have : 0 < D9 ^ n := Nat.pow_pos (by decide)
 omega
theorem k'mo {a b : Nat} {p q r : List Int} {m : Nat} (sp : Sz a p) (sq : Sz b q) (h : Pl.RInv p q r m) : Sz ((b + 1) * (p.length + 1 - q.length) + a) r := fun k => by
 refine Nat.lt_of_le_of_lt (Nat.le_trans (Pl.mx_cf r k) h.mx) ?_
 rw [Nat.pow_add, Nat.pow_mul]
 have h1 : 2 * Pl.mx q ≤ D9 ^ (b + 1) := by
  have := mx_lt sq
  rw [Nat.pow_succ, show D9 = 1000000000 from rfl]
  rw [show D9 = 1000000000 from rfl] at this
  omega
 exact Nat.lt_of_le_of_lt (Nat.mul_le_mul_right _ (Nat.pow_le_pow_left h1 _)) (Nat.mul_lt_mul_of_pos_left (mx_lt sp) (Nat.pow_pos (Nat.pow_pos (by decide))))
theorem k'mp {p q q' : List Int} (h : ∀ k, Pl.cf q k = Pl.cf q' k) : Pl.sub p q = Pl.sub p q' := Pl.nrm_ext (Pl.sub_nrm _ _) (Pl.sub_nrm _ _) fun k => by rw [Pl.cf_sub, Pl.cf_sub, h]
theorem k'mq (z : Int) (q : List Int) (d k : Nat) : Pl.cf (List.replicate d 0 ++ tab (fun i => z * Pl.cf q i) q.length) k = Pl.cf (Pl.scl z (Pl.shift d q)) k := by
 rw [Pl.cf_scl, Pl.cf_shift]
 have h0 : Pl.cf (List.replicate d 0 ++ tab (fun i => z * Pl.cf q i) q.length) k = Pl.cf (Pl.shift d (tab (fun i => z * Pl.cf q i) q.length)) k := rfl
 rw [h0, Pl.cf_shift, k'hu]
 split
 ·split
  ·rfl
  ·next h => rw [Pl.cf_ge (p := q) (by omega)]; simp
 ·simp
theorem k'mr (f : Nat → Int) : tab f 0 = [] := rfl
theorem k'ms {p : List Int} {j : Nat} (h : p.length = j + 1) : Pl.lead p = p[j] := by
 have e : p.length - 1 = j := by omega
 unfold Pl.lead
 rw [← Pl.cf_lt (p := p) (k := j) (by omega), e]
theorem k'mt (a b : Nat) (p q : List Int) (v1 v2 : Value) (w : World) (h1 : RP w v1 p) (h2 : RP w v2 q) (l1 : p.length ≤ 100) (l2 : q.length ≤ 100) (hp : Pl.Nrm p) (hq : Pl.Nrm q) (hq0 : q ≠ []) (sp : Sz a p) (sq : Sz b q)
 (hab : (b + 1) * (p.length + 1 - q.length) + a ≤ 20000) (hb0 : b ≤ 20000) :
 Calls Tryz.prog 57 #[v1, v2] w (RPPost (Pl.rest p q) w) := by
 obtain ⟨K, hK⟩ : ∃ K, K = (b + 1) * (p.length + 1 - q.length) + a := ⟨_, rfl⟩
 have hK2 : K ≤ 20000 := by omega
 have hbn : b * (p.length + 1 - q.length) ≤ 20000 := by have := Nat.mul_le_mul_right (p.length + 1 - q.length) (show b ≤ b + 1 by omega); omega
 have hpl : ∀ n, n = p.length - q.length + 1 → q.length ≤ p.length → b * n ≤ 20000 := fun n hn hl => by rw [hn, show p.length - q.length + 1 = p.length + 1 - q.length by omega]; exact hbn
 have HSz := i' (fun r m (h : Pl.RInv p q r m) => show Sz K r by rw [hK]; exact k'mo sp sq h)
 have HLen := i' (fun r m (h : Pl.RInv p q r m) => show r.length ≤ 100 by have h5 := h.len; obtain ⟨h0, j, hj, _⟩ := h; omega)
 have hql := List.length_pos_iff.2 hq0
 obtain ⟨m2, hm2⟩ : ∃ m2, q.length = m2 + 1 := ⟨q.length - 1, by omega⟩
 have HL := i' (k'ms hm2)
 have HQ0 := i' (fun r m u1 u2 w' (h : Pl.RInv p q r m) (g1 : Rz w' u1 (Pl.lead r)) (g2 : Rz w' u2 (Pl.lead q)) => k'ad (Pl.lead r) (Pl.lead q) u1 u2 w' (K + b) (by omega) (Nat.lt_of_lt_of_le (HSz.out r m h _) (Nat.pow_le_pow_right (by decide) (by omega))) (Nat.lt_of_lt_of_le (sq _) (Nat.pow_le_pow_right (by decide) (by omega))) g1 g2 (Pl.lead_ne hq hq0))
 have HZs := i' (fun r m (h : Pl.RInv p q r m) => show (Pl.lead r / Pl.lead q).natAbs < D9 ^ K from Nat.lt_of_le_of_lt (Int.natAbs_ediv_le_natAbs _ _) (HSz.out r m h _))
 have HMl := i' (fun (z : Int) (hz : z.natAbs < D9 ^ K) i u1 u2 w' (g1 : Rz w' u1 z) (g2 : Rz w' u2 (Pl.cf q i)) => k'7b z (Pl.cf q i) u1 u2 w' g1 g2 (Nat.le_trans (len9 hz) (by omega)) (Nat.le_trans (sq.len i) (by omega)))
 have HSb := i' (fun r m (h : Pl.RInv p q r m) (z : Int) (hz : z.natAbs < D9 ^ K) (d : Nat) (hd : d ≤ 200) u1 u2 w' (g1 : RP w' u1 r) (g2 : RP w' u2 (List.replicate d 0 ++ tab (fun i => z * Pl.cf q i) q.length)) => show Calls Tryz.prog 30 #[u1, u2] w' (RPPost (Pl.sub r (Pl.scl z (Pl.shift d q))) w') by
  have s2 : Sz (K + b) (List.replicate d 0 ++ tab (fun i => z * Pl.cf q i) q.length) := fun k => by
   rw [k'mq, Pl.cf_scl, Pl.cf_shift, Int.natAbs_mul]
   split
   ·exact mulD9 hz (sq _)
   ·simp; exact Nat.pow_pos (by decide)
  have h5 := k'hy (K + b) (by omega) r _ u1 u2 w' g1 g2 (by have := HLen.out r m h; omega) (by simp [k'ht]; omega) ((HSz.out r m h).mono (by omega)) s2
  rw [k'mp (k'mq z q d)] at h5
  exact h5)
 have HSt := i' (fun r m (h : Pl.RInv p q r m) (hl : q.length ≤ r.length) => (Pl.RInv.step hq h hl).2)
 have HDn := i' (fun r m (h : Pl.RInv p q r m) (hl : r.length < q.length) => Pl.RInv.done hq h hl)
 have HIn := i' (fun (hl : q.length ≤ p.length) => Pl.RInv.start hl hql)
 have HSh := i' (fun (hl : p.length < q.length) => Pl.rest_short hp hl)
 have HPw := i' (fun n (hn : n = p.length - q.length + 1) (hl : q.length ≤ p.length) u w' (hu : Rz w' u (Pl.lead q)) => k'mn n b (by omega) (by have := hpl n hn hl; omega) (by omega) (Pl.lead q) (sq _) u w' hu)
 have HSc := i' (fun n (hn : n = p.length - q.length + 1) (hl : q.length ≤ p.length) u w' (hu : Rz w' u (Pl.lead q ^ n)) (hb : Below w.heap.size w w') => k'hw a (b * n + 1) (by omega) (by have := hpl n hn hl; omega) p (Pl.lead q ^ n) v1 u w' (h1.below hb) hu (by omega) sp (pow9 (sq _)))
 have H1 := i' h1
 clear hpl sp sq hab hK hbn hq hp hK2 hb0
 obtain ⟨a1, b1, o1, c1, rfl, -, -, -, -⟩ := h1
 obtain ⟨a2, b2, o2, c2, rfl, -, -, g4, g5⟩ := h2
 obtain rfl := g4 hq0
 have G5 := i' g5
 clear g4 g5 hq0 hql
 have HM2 := i' hm2
 generalize hrs : Pl.rest p q = res at *
 clear hrs
 obtain ⟨n1, hn1⟩ : ∃ n, n = p.length := ⟨_, rfl⟩
 have HN1 := i' hn1
 rw [← hn1] at l1 HSc HPw ⊢
 rw [hm2]
 rw [hm2] at l2
 rw [hm2] at HPw HSc
 by_cases hlt : n1 < m2 + 1
 ·have hlti : (n1 : Int) < (m2 : Int) + 1 := by omega
  have HR := i' (HSh.out (by omega))
  clear HL hn1 hm2 hlt
  go_enter Tryz.func57, Tryz.ntmps57
  go_wp2
  go_ret
  exact ⟨_, rfl, by rw [HR.out, HN1.out]; exact H1.out, Below.refl _ _⟩
 ·have hlti : ¬ (n1 : Int) < (m2 : Int) + 1 := by omega
  have hle : m2 + 1 ≤ n1 := by omega
  have HIn := i' (HIn.out (by omega))
  obtain ⟨e, he⟩ : ∃ e, e = n1 - (m2 + 1) + 1 := ⟨_, rfl⟩
  have HPw := i' (HPw.out e he hle)
  have HSc := i' (HSc.out e he hle)
  have HIn : Hid (Pl.RInv p q (Pl.trim (Pl.scl (Pl.lead q ^ e) p)) e) := by
   have h5 := HIn.out
   rw [← hn1, hm2, ← he] at h5
   exact h5
  have hwe : IntKind.i64.wrap ((n1 : Int) - ((m2 : Int) + 1) + 1) = (e : Int) := by rw [IntWalk.i64_in _ (by omega)]; omega
  have hwd : IntKind.i64.wrap ((n1 : Int) - ((m2 : Int) + 1)) = (n1 : Int) - ((m2 : Int) + 1) := IntWalk.i64_in _ (by omega)
  have hwm : IntKind.i64.wrap ((m2 : Int)) = (m2 : Int) := IntWalk.i64_in _ (by omega)
  obtain ⟨ul, g0, g1, g2⟩ := G5.out m2 (by omega)
  rw [← HL.out] at g0 g2
  generalize Pl.lead q = ld at *
  clear HL hn1 hm2 hlt he
  have HRl := i' g2
  obtain ⟨pl, bpl, opl, cl, hul, -⟩ := g2
  subst hul
  generalize (Nm.dg D9 ld.natAbs).length = ll at *
  obtain ⟨bl, hbl'⟩ : ∃ bl, decide (ld < 0) = bl := ⟨_, rfl⟩
  unfold iV at HPw HSc
  unfold QIPost iV at HQ0
  rw [hbl'] at HPw g0
  simp only [hbl'] at HQ0
  obtain ⟨u0, hu0⟩ : ∃ u0 : World, u0 = w.alloc (.cells #[.bool bl, .slice pl ll cl] 52) := ⟨_, rfl⟩
  have T0 : Hid (ZC (.bool bl) (.slice pl ll cl) u0 w.heap.size) := by rw [hu0]; exact ZC.new rfl
  have D0 : Hid (Below w.heap.size w u0) := by rw [hu0]; exact k'56 _ _
  have Hu0 := i' hu0
  obtain ⟨t0, t1, -, -⟩ := T0.out
  clear hu0 hbl'
  go_enter Tryz.func57, Tryz.ntmps57
  go_upto_region 4 with (fail)
  rw [← Hu0.out]
  clear Hu0 g0 g1
  go_wp2_with fail
  refine (HPw.out _ _ (HRl.out.below D0.out)).mono ?_
  rintro en y1 ⟨u1, rfl, r1, b1⟩
  have D1 := i' (chain D0.out b1)
  have E1 := i' b1
  have R1 := i' r1
  clear r1 b1 t0 t1
  unfold iV
  go_wp2_with fail
  refine (HSc.out _ _ R1.out D1.out).mono ?_
  rintro en y2 ⟨v6, rfl, r2, b2⟩
  have E2 := i' (chain E1.out b2)
  have R2 := i' r2
  clear r2 b2 D1 E1 R1 HPw HSc hwe
  go_wp2
  go_loopw [6] (fun v wr => ∃ (wz : World) (r : List Int) (m : Nat), wz = wr ∧ Hid (RP wz v r) ∧ Hid (Pl.RInv p q r m) ∧ Hid (Below u0.heap.size u0 wz)) (fun v _ => lenOf v)
  case atStart => exact ⟨y2, _, e, rfl, R2.out, HIn.out, E2.out⟩
  case round =>
   clear R2 E2 HIn
   obtain ⟨wz, r, m, rfl, hr, hinv, hd⟩ := hrel
   have hrl := HLen.out r m hinv.out
   obtain ⟨ar, br, obr, cr, rfl, -, -, r4, r5⟩ := hr.out
   obtain ⟨k, hk⟩ : ∃ k, k = r.length := ⟨_, rfl⟩
   have HK := i' hk
   by_cases hge : m2 + 1 ≤ k
   ·obtain ⟨j, rfl⟩ : ∃ j, k = j + 1 := ⟨k - 1, by omega⟩
    have hgei : (m2 : Int) + 1 ≤ (j : Int) + 1 := by omega
    obtain ⟨d, hdd⟩ : ∃ d, d = j - m2 := ⟨_, rfl⟩
    have hd200 : d ≤ 200 := by omega
    have hwj : IntKind.i64.wrap ((j : Int) + 1 - ((m2 : Int) + 1)) = (d : Int) := by rw [IntWalk.i64_in _ (by omega)]; omega
    have HDD : Hid (r.length - q.length = d) := by have h5 := HK.out; have h6 := HM2.out; show _ = _; omega
    have hwj1 : IntKind.i64.wrap (j : Int) = (j : Int) := IntWalk.i64_in _ (by omega)
    have hwj2 : IntKind.i64.wrap ((j : Int) + 1 - 1) = (j : Int) := by rw [IntWalk.i64_in _ (by omega)]; omega
    have hj0 : (0 : Int) ≤ (j : Int) := by omega
    have hj1 : (j : Int) ≤ 1000 := by omega
    have hj2 : (j : Int) < (j : Int) + 1 := by omega
    have hmk := fun w => mk_ps d w (by omega)
    obtain rfl := r4 (by intro e; rw [e] at hk; simp at hk)
    obtain ⟨uk, g0, g1, g2⟩ := r5 j (by omega)
    have HLr := k'ms (p := r) (j := j) hk.symm
    rw [← HLr] at g0 g2
    have HQ := i' (fun w' (hb : Below wz.heap.size wz w') => HQ0.out r m uk (.slice pl ll cl) w' hinv.out (g2.below hb) (((HRl.out.below D0.out).below hd.out).below hb))
    have HZs := i' (HZs.out r m hinv.out)
    have HSb := i' (HSb.out r m hinv.out (Pl.lead r / ld) HZs.out d hd200)
    have HMl := i' (HMl.out (Pl.lead r / ld) HZs.out)
    have HNx := i' (HSt.out r m hinv.out (by have h5 := HK.out; have h6 := HM2.out; omega))
    rw [HDD.out] at HNx
    have HNl : Hid ((Pl.sub r (Pl.scl (Pl.lead r / ld) (Pl.shift d q))).length < j + 1) := by
     have h5 := HNx.out.len
     have h6 := HM2.out
     show _ < _
     omega
    have d0 := g0
    have d1 := g1
    obtain ⟨d2, d3, -, -⟩ := T0.out.next hd.out
    have hbr := World.block_lt_of_cell? wz _ g0
    simp only at hbr
    have hw0 := hd.out.size
    have hw1 := T0.out.lt
    have e1 : ¬ br = wz.heap.size := by omega
    have e2 : ¬ br = wz.heap.size + 1 := by omega
    have e3 : ¬ w.heap.size = wz.heap.size := by omega
    have e4 : ¬ w.heap.size = wz.heap.size + 1 := by omega
    have e5 : ¬ wz.heap.size = br := by omega
    have e6 : ¬ wz.heap.size + 1 = br := by omega
    have e7 : ¬ wz.heap.size = w.heap.size := by omega
    have e8 : ¬ wz.heap.size + 1 = w.heap.size := by omega
    rw [← hk]
    rw [← hk] at hr
    clear HZs hw0 hw1 hbr hk HLr r4 r5 g0 g1 hge hdd
    generalize Pl.sub r (Pl.scl (Pl.lead r / ld) (Pl.shift d q)) = nr at *
    generalize Pl.lead r / ld = z at *
    generalize Pl.lead r % ld = zr at *
    generalize Pl.lead r = x at *
    obtain ⟨pk, bk, okk, ck, hukk, -⟩ := g2
    subst hukk
    generalize (Nm.dg D9 x.natAbs).length = lx at *
    generalize decide (x < 0) = bx at *
    obtain ⟨bz, hbz⟩ : ∃ b, decide (z < 0) = b := ⟨_, rfl⟩
    obtain ⟨bzr, hbzr⟩ : ∃ b, decide (zr < 0) = b := ⟨_, rfl⟩
    rw [hbz, hbzr] at HQ
    unfold iV at HMl
    rw [hbz] at HMl
    clear hbz hbzr
    go_upto_region 6 with (fail)
    go_cut [7, 8] (fun sa sb wx => ∃ (ga gb : Nat) (pa pb : Option Addr) (na ca nb cb : Nat), sa = .pointer (some ⟨ga, 0, none⟩) ∧ sb = .pointer (some ⟨gb, 0, none⟩) ∧ Hid (CutI (.bool bz) (.bool bzr) (.slice pa na ca) (.slice pb nb cb) (Nm.dg D9 z.natAbs) (Nm.dg D9 zr.natAbs) wz.heap.size wz wx ga gb))
    case first =>
     rename_i J0 K0 hRJ hMK
     go_region_held3 (fun W' => W'.cell? ⟨br, obr + j * 2, none⟩ = some (.bool bx) ∧ W'.cell? ⟨br, obr + j * 2 + 1, none⟩ = some (.slice pk lx ck) ∧ W'.cell? ⟨w.heap.size, 0, none⟩ = some (.bool bl) ∧ W'.cell? ⟨w.heap.size, 1, none⟩ = some (.slice pl ll cl)) (go_keep)
      (first
       | (go_at_call 98; (with_reducible refine (HQ.out _ (by first | exact Below.refl _ _ | exact (Below.refl _ _).drew | exact k'56 _ _ | exact k'57 _ _ _ | exact (k'56 _ _).drew | exact (k'57 _ _ _).drew)).mono ?_); rintro e y9 ⟨v9, x9, rfl, r9, s9, b9⟩; (try unfold iV); (try (have b9 := k'5b b9)); have c9 : Below wz.heap.size wz y9 := chain (by first | exact Below.refl _ _ | exact (Below.refl _ _).drew | exact k'56 _ _ | exact k'57 _ _ _ | exact (k'56 _ _).drew | exact (k'57 _ _ _).drew) b9; have p0a := keep1 c9 d0; have p0b := keep1 c9 d1; have p0c := keep1 c9 d2; have p0d := keep1 c9 d3; have hz9 := c9.size; (try (have A0 := i' (ZC.made (g := wz.heap.size) rfl b9); obtain ⟨A0a, A0b, A0c, A0d⟩ := A0.out)); (try (have A0 := i' (ZC.made1 (g := wz.heap.size) rfl b9); have B0 := i' (ZC.made (g := wz.heap.size + 1) (by simp) b9); obtain ⟨A0a, A0b, A0c, A0d⟩ := A0.out; obtain ⟨B0a, B0b, B0c, B0d⟩ := B0.out)); (try (have L01 := i' (k'58 (g := wz.heap.size) rfl b9); obtain ⟨l01x, l01y, l01z⟩ := L01.out)); (try (have MM := i' (k'59 (g := wz.heap.size) rfl b9); have L01 := i' MM.out.1; have M01 := i' MM.out.2; clear MM; obtain ⟨l01x, l01y, l01z⟩ := L01.out; obtain ⟨m01x, m01y, m01z⟩ := M01.out)); have G9 := i' (And.intro r9 s9); obtain ⟨pq9, bq9, oq9, cq9, rfl, rrq9⟩ := r9; obtain ⟨ps9, bs9, os9, cs9, rfl, rrs9⟩ := s9; clear rrq9 rrs9)
       | fail)
     all_goals
      obtain ⟨r1, r2⟩ := G9.out
      refine hMK _ _ (Met.intro (hRJ _ _ ?_))
      (repeat apply Exists.intro)
      refine ⟨?_, rfl⟩
      refine ⟨_, _, pq9, ps9, (Nm.dg D9 z.natAbs).length, cq9, (Nm.dg D9 zr.natAbs).length, cs9, rfl, rfl, ?_⟩
      show CutI (.bool bz) (.bool bzr) (.slice pq9 _ cq9) (.slice ps9 _ cs9) (Nm.dg D9 z.natAbs) (Nm.dg D9 zr.natAbs) wz.heap.size wz _ _ _
      have sA0 : wz.heap.size ≤ wz.heap.size := Nat.le_refl _
      have sB0 : wz.heap.size ≤ wz.heap.size + 1 := Nat.le_succ _
      have sA2 : wz.heap.size ≤ y9.heap.size := c9.size
      have n0 : ¬ wz.heap.size = wz.heap.size + 1 := Nat.ne_of_lt (Nat.lt_succ_self _)
      have m0 : ¬ wz.heap.size + 1 = wz.heap.size := fun e => n0 e.symm
      first
       | with_reducible exact CutI.s1 r1 r2 c9 sA2
       | with_reducible exact CutI.s2 r1 r2 c9 sA2
       | with_reducible exact CutI.s3 A0.out sA0 r1 r2 c9 sA2
       | with_reducible exact CutI.s4 A0.out sA0 r1 r2 c9 sA2
       | with_reducible exact CutI.s3 B0.out sB0 r1 r2 c9 sA2
       | with_reducible exact CutI.s4 B0.out sB0 r1 r2 c9 sA2
       | with_reducible exact CutI.s5 A0.out sA0 B0.out sB0 n0 r1 r2 c9
       | with_reducible exact CutI.s5 B0.out sB0 A0.out sA0 m0 r1 r2 c9
       | fail
    obtain ⟨ga, gb, pa, pb, na, ca, nb, cb, rfl, rfl, hcut⟩ := hcut
    obtain ⟨_, T7, -, R7, -, bxx⟩ := hcut.out
    have T7 := i' T7
    have R7 := i' (show Rz wc (.slice pa na ca) z from R7)
    have Dc := i' (chain hd.out bxx)
    have hr2 := i' (hr.out.below bxx)
    clear bxx hcut d0 d1 d2 d3 e1 e2 e3 e4 e5 e6 e7 e8 hr HQ
    go_wp2
    clear hmk
    obtain ⟨wm, hwm'⟩ : ∃ wm : World, wm = wc.alloc (.cells (rv (List.replicate d 0) (List.replicate d (.slice none 0 0))).toArray 52) := ⟨_, rfl⟩
    have A0 : Hid (RowP wm wc.heap.size (.slice (some ⟨wc.heap.size, 0, none⟩) d d) (List.replicate d 0 ++ tab (fun i => z * Pl.cf q i) 0)) := by
     rw [k'mr, List.append_nil, hwm']
     exact (Ap.made wc d).row (Nat.le_refl _) (by simp) (by unfold maxLen; omega)
    have B0 : Hid (Below wc.heap.size wc wm) := by rw [hwm']; exact k'56 _ _
    rw [← hwm']
    clear hwm'
    go_loopw [9, 10] (fun mv iv wq => ∃ (wy : World) (i : Nat), wy = wq ∧ i ≤ m2 + 1 ∧ iv = .int .i64 (i : Int) ∧ Hid (RowP wy wc.heap.size mv (List.replicate d 0 ++ tab (fun i => z * Pl.cf q i) i)) ∧ Hid (Below wc.heap.size wc wy))
     (fun _ iv _ => m2 + 1 - (intOf iv).toNat)
    case atStart => exact ⟨wm, 0, rfl, Nat.zero_le _, rfl, A0.out, B0.out⟩
    case round =>
     clear A0 B0
     obtain ⟨wy, i, rfl, hi, rfl, hrow, hbw⟩ := hrel
     have hi0 : (0 : Int) ≤ (i : Int) := by omega
     by_cases hlt : i < m2 + 1
     ·have hii : (i : Int) < (m2 : Int) + 1 := by omega
      have hiq : i < q.length := by have h6 := HM2.out; omega
      have DD := i' (chain Dc.out hbw.out)
      obtain ⟨ui, g0, g1, g2⟩ := G5.out i hiq
      rw [← Pl.cf_lt hiq] at g0 g2
      have HMi := i' (fun w' (hb : Below wy.heap.size wy w') => HMl.out i (.slice pa na ca) ui w' ((R7.out.below hbw.out).below hb) (g2.below (chain D0.out (chain DD.out hb))))
      have HS := i' (show (List.replicate d 0 ++ tab (fun i => z * Pl.cf q i) i) ++ [z * Pl.cf q i] = List.replicate d 0 ++ tab (fun i => z * Pl.cf q i) (i + 1) by rw [List.append_assoc, k'hs (fun i => z * Pl.cf q i) i])
      have HLn : Hid ((List.replicate d 0 ++ tab (fun i => z * Pl.cf q i) i).length ≤ 100000) := by show _ ≤ _; rw [List.length_append, k'ht, List.length_replicate]; omega
      have c0 := keep1 (chain D0.out DD.out) g0
      have c1' := keep1 (chain D0.out DD.out) g1
      obtain ⟨c2', c3', -, -⟩ := T7.out.next hbw.out
      generalize z * Pl.cf q i = zi at *
      generalize Pl.cf q i = xi at *
      obtain ⟨pi', bi', oi', ci', hui, -⟩ := g2
      subst hui
      generalize (Nm.dg D9 xi.natAbs).length = li at *
      generalize decide (xi < 0) = bi at *
      have CC := i' (And.intro g0 g1)
      clear g0 g1 hiq
      go_upto_region 11 with (fail)
      go_region_held3 (fun W' => W'.cell? ⟨b2, o2 + i * 2, none⟩ = some (.bool bi) ∧ W'.cell? ⟨b2, o2 + i * 2 + 1, none⟩ = some (.slice pi' li ci') ∧ W'.cell? ⟨ga, 0, none⟩ = some (.bool bz) ∧ W'.cell? ⟨ga, 1, none⟩ = some (.slice pa na ca)) (go_keep)
       (first
        | (go_at_call 83; (with_reducible refine (HMi.out _ ((Below.refl _ _).drew)).mono ?_); rintro e w5 ⟨u5, rfl, r5, b5⟩; unfold iV; have d5 := chain ((Below.refl wy.heap.size wy).drew) b5; have p0 := keep1 d5 c0; have p1 := keep1 d5 c1'; have p2 := keep1 d5 c2'; have p3 := keep1 d5 c3'; have HR5 := i' r5; have HX5 := i' (hrow.out.below d5); have HB5 := i' (chain hbw.out d5); clear r5 b5 d5)
        | (rw [if_pos (by rfl)]; refine k'h4 rfl _ _ rfl rfl rfl HX5.out HR5.out HLn.out HB5.out ?_; intro v' w1 hrow1 hb1 hsz1; have hq1 : Below wc.heap.size wc w1 := hb1; have p0 := keep1 (chain D0.out (chain Dc.out hq1)) CC.out.1; have p1 := keep1 (chain D0.out (chain Dc.out hq1)) CC.out.2; obtain ⟨p2, p3, _⟩ := T7.out.next hq1; have HN1 := i' hrow1; have HB1 := i' hb1; clear hrow1 hb1)
        | fail)
      rw [HS.out] at HN1
      go_wp2
      go_roundw
      case rel => exact ⟨_, i + 1, rfl, by omega, by go_num, HN1.out, HB1.out⟩
      case measure => simp [intOf]; omega
     ·obtain rfl : i = m2 + 1 := by omega
      have hii : ¬ ((m2 : Int) + 1) < (m2 : Int) + 1 := by omega
      have HRm : Hid (RP wy u9 (List.replicate d 0 ++ tab (fun i => z * Pl.cf q i) q.length)) := by rw [HM2.out]; exact hrow.out.rp
      go_wp2_with fail
      refine (HSb.out _ _ _ (hr2.out.below hbw.out) HRm.out).mono ?_
      rintro en y5 ⟨v5, rfl, r5, b5⟩
      have HR5 := i' r5
      have HB5 := i' (chain Dc.out (chain hbw.out b5))
      have HV5 : Hid (lenOf v5 < j + 1) := by
       obtain ⟨_, _, _, _, rfl, -⟩ := r5
       exact HNl.out
      clear r5 b5
      go_wp2
      go_roundw
      case rel => exact ⟨_, nr, _, rfl, HR5.out, HNx.out, HB5.out⟩
      case measure => exact HV5.out
   ·have hgei : ¬ (m2 : Int) + 1 ≤ (k : Int) := by omega
    have HE := i' (HDn.out r m hinv.out (by have h5 := HK.out; have h6 := HM2.out; omega))
    have HB6 := i' (chain D0.out hd.out)
    rw [← hk] at hr ⊢
    clear hk hge r4 r5
    go_wp2
    go_ret
    exact ⟨_, rfl, by rw [← HE.out]; exact hr.out, HB6.out⟩
end Go.Proofs.YtepddegphdlbeaaGreat
