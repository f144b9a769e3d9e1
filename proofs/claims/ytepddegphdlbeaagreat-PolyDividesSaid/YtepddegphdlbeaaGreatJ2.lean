/- What the theorem leans on, part J2. -/
import Derived.Test.YtepddegphdlbeaaGreatJ1
import Derived.Test.YtepddegphdlbeaaGreatG12
import Derived.Test.YtepddegphdlbeaaGreatG9
import Derived.Test.YtepddegphdlbeaaGreatG8
import Derived.Test.YtepddegphdlbeaaGreatG7
import Derived.Test.YtepddegphdlbeaaGreatG6
import Derived.Test.YtepddegphdlbeaaGreatJ0
import Derived.Test.YtepddegphdlbeaaGreatG4
import Derived.Test.YtepddegphdlbeaaGreatG3
import Derived.Test.YtepddegphdlbeaaGreatG2
import Derived.Test.YtepddegphdlbeaaGreatG1
import Derived.Test.YtepddegphdlbeaaGreatG0
import Derived.Test.YtepddegphdlbeaaGreatProg
import Derived.WalkKit
import Derived.WalkSpells
import Derived.WalkLawsBesides
import Derived.Lib.Hide
import Derived.Deep.QuietTactic
import Derived.BigQuiet
import Derived.Shelf.Small.Bits
import Derived.Shelf.Small.Wraps
import Derived.Shelf.Strconv.Itoa0
import Derived.Shelf.Bits.Mul64
import Derived.Ground.Names2Prog
import Derived.Shelf.Slices.SearchI
import Derived.Shelf.Spec.BitsCarry
import Derived.Deep.LoopGhost
import Derived.Deep.RegionHeld3
import Derived.Deep.DeepCutAuto
import Derived.Test.YtepddegphdlbeaaGreatG5
import Derived.Laws.AppendOwnNone
import Derived.Below
import Derived.Test.YtepddegphdlbeaaGreatG11
import Derived.Test.YtepddegphdlbeaaGreatG10
import Derived.RangeFuncNested
import Derived.RangeFuncBound
import Derived.RangeFuncCalls
import Derived.RangeFuncLeaves
import Derived.Shelf.Abstract
import Derived.Shelf.RegionOpen
import Derived.OwnWalkIn
import Derived.TacticsInMore
import Derived.LoopNIn
import Derived.LoopIn
import Derived.OrdersIn
import Derived.Deep.RegionHeld
import Derived.Maps.AppendAt
import Derived.Lib.SliceRun
import Derived.IntWalk
import Derived.Test.YtepddegphdlbeaaGreatG13
import Derived.Test.YtepddegphdlbeaaGreatG16
import Derived.Test.YtepddegphdlbeaaGreatG15
import Derived.Laws.StructEq
import Derived.Test.YtepddegphdlbeaaGreatG14
set_option maxRecDepth 100000
set_option maxHeartbeats 16000000
set_option linter.all false
namespace Go.Proofs.YtepddegphdlbeaaGreat
open Go.RowKit
def Fresh (B : Nat) (v : Value) : Prop := ∃ (p : Option Addr) (n c : Nat), v = .slice p n c ∧ ∀ a, p = some a → B ≤ a.block
theorem Fresh.any {B : Nat} {p : Option Addr} {n c : Nat} (h : Fresh B (.slice p n c)) (m : Nat) : Fresh B (.slice p m c) := by
 obtain ⟨q, n', c', h1, h2⟩ := h
 injection h1 with e1 e2 e3
 subst e1
 exact ⟨p, m, c, rfl, h2⟩
theorem Fresh.le {B B' : Nat} {v : Value} (h : Fresh B v) (hb : B' ≤ B) : Fresh B' v := by
 obtain ⟨q, n, c, h1, h2⟩ := h
 exact ⟨q, n, c, h1, fun a ha => Nat.le_trans hb (h2 a ha)⟩
theorem RowP.fresh {w : World} {B : Nat} {v : Value} {p : List Int} (h : RowP w B v p) : Fresh B v := by
 obtain ⟨us, hl, ho, hz⟩ := h
 rcases ho.2 with ⟨rfl, h0⟩ | ⟨g, cap, cur, rfl, hB, hg, hn, hm, hs, ht⟩
 ·exact ⟨none, 0, 0, rfl, fun a h => by cases h⟩
 ·exact ⟨_, _, _, rfl, fun a h => by cases h; exact hB⟩
def RPFresh (B : Nat) (p : List Int) (w : World) (e : Ending) (w' : World) : Prop := ∃ v, e = .returned v ∧ RP w' v p ∧ Fresh B v ∧ Below w.heap.size w w'
theorem k'nf (B : Nat) (v : Value) (xs : List Int) (w : World) (h : RP w v xs) (hF : Fresh B v) : Calls Tryz.prog 75 #[v] w (RPFresh B (Pl.trim xs) w) := by
 have HRP := i' h
 obtain ⟨p, b, off, cap, rfl, h2, h3, h4, h6⟩ := h
 have HFr := i' (show ∀ n, Fresh B (.slice p n cap) from fun n => hF.any n)
 clear hF
 have hc := h3
 unfold maxLen at hc
 have hl : xs.length ≤ 9223372036854775807 := by omega
 have H4 := i' h4
 have H6 := i' h6
 have H23 := i' (And.intro h2 h3)
 clear h2 h3 h4 h6 hc
 go_enter Tryz.func75, Tryz.ntmps75
 go_wp2
 go_loopw [0] (fun v wr => ∃ (wz : World) (k : Nat), wz = wr ∧ k ≤ xs.length ∧ v = .slice p k cap ∧ Hid (∀ i (h : i < xs.length), k ≤ i → xs[i] = 0) ∧ Hid (Below w.heap.size w wz)) (fun v _ => lenOf v)
 case atStart => exact ⟨w, xs.length, rfl, Nat.le_refl _, rfl, fun i h hi => absurd h (by omega), Below.refl _ _⟩
 case round =>
  obtain ⟨wz, k, rfl, hk, rfl, hz, hbl⟩ := hrel
  have hgive : ∀ n, n ≤ xs.length → Pl.trim xs = xs.take n → RP wz (.slice p n cap) (Pl.trim xs) := by
   intro n hn e
   rw [e]
   exact RP.take (HRP.out.below hbl.out) n hn
  have HG := i' hgive
  clear hgive
  rcases Nat.eq_zero_or_pos k with h0 | h0
  ·subst h0
   have e0 : Hid (Pl.trim xs = xs.take 0) := Pl.trim_take (Nat.zero_le _) (fun i h _ => hz.out i h (Nat.zero_le _)) (by rw [List.take_zero]; exact Pl.nrm_nil)
   go_wp2
   go_ret
   exact ⟨_, rfl, HG.out 0 (Nat.zero_le _) e0.out, HFr.out _, hbl.out⟩
  ·obtain ⟨j, rfl⟩ : ∃ j, k = j + 1 := ⟨k - 1, by omega⟩
   have hj : j < xs.length := by omega
   obtain rfl := H4.out (by intro e; rw [e] at hj; exact absurd hj (Nat.not_lt_zero _))
   obtain ⟨u, g0, g1, g2⟩ := H6.out j hj
   have c0 := keep1 hbl.out g0
   have c1 := keep1 hbl.out g1
   have HS := i' (k'7a xs[j] u wz (g2.below hbl.out))
   unfold iV at HS
   have hjc : j ≤ cap := by have := H23.out.1; omega
   clear g0 g1 g2
   by_cases hv : xs[j] = 0
   ·have HV := i' hv
    rw [hv] at HS c0
    have e0 : Hid ((0 : Int).sign = 0) := rfl
    rw [e0.out] at HS
    clear hv e0
    go_wp2_with fail
    refine HS.out.mono ?_
    rintro e w5 ⟨rfl, b5⟩
    have HB2 := i' (chain hbl.out b5)
    clear b5 c0 c1
    go_wp2
    go_roundw
    case rel =>
     refine ⟨_, j, rfl, by omega, rfl, fun i h hi => ?_, HB2⟩
     rcases Nat.lt_or_ge j i with g | g
     ·exact hz.out i h g
     ·obtain rfl : i = j := by omega
      exact HV.out
    case measure => simp [lenOf]
   ·have e0 : Hid (Pl.trim xs = xs.take (j + 1)) := Pl.trim_take hk hz.out (Pl.nrm_take_last hj hv)
    have hsg : (xs[j].sign == 0) = false := by simpa [Int.sign_eq_zero_iff_zero] using hv
    have HGV := i' (HG.out (j + 1) hk e0.out)
    clear hv
    generalize xs[j].sign = sv at *
    generalize decide (xs[j] < 0) = db at *
    go_wp2_with fail
    refine HS.out.mono ?_
    rintro e w5 ⟨rfl, b5⟩
    have HB2 := i' (chain hbl.out b5)
    have HB3 := i' b5
    clear b5 c0 c1
    go_wp2
    go_ret
    exact ⟨_, rfl, HGV.out.below HB3.out, HFr.out _, HB2.out⟩
theorem k'ng (n : Nat) (hn : n ≤ 90000) (p q : List Int) (v1 v2 : Value) (w : World) (h1 : RP w v1 p) (h2 : RP w v2 q) (l1 : p.length ≤ 1000) (l2 : q.length ≤ 1000) (s1 : Sz n p) (s2 : Sz n q) :
 Calls Tryz.prog 29 #[v1, v2] w (RPFresh w.heap.size (Pl.trim (Pl.add p q)) w) := by
 have HA1 := i' (fun k (hk : k ≤ 1000) w' (hb : Below w.heap.size w w') => k'h7 p v1 k w' (h1.below hb) (Nat.le_trans hk (by decide)))
 have HA2 := i' (fun k (hk : k ≤ 1000) w' (hb : Below w.heap.size w w') => k'h7 q v2 k w' (h2.below hb) (Nat.le_trans hk (by decide)))
 obtain ⟨f, hf⟩ : ∃ f : Nat → Int, f = fun k => Pl.cf p k + Pl.cf q k := ⟨_, rfl⟩
 have HS := i' (fun k u1 u2 w' g1 g2 => k'7c (Pl.cf p k) (Pl.cf q k) u1 u2 w' g1 g2 (Nat.le_trans (s1.len k) (by omega)) (Nat.le_trans (s2.len k) (by omega)))
 obtain ⟨a1, b1, o1, c1, rfl, -, -, -, -⟩ := h1
 obtain ⟨a2, b2, o2, c2, rfl, -, -, -, -⟩ := h2
 have HT : Hid (Pl.trim (tab f (max p.length q.length)) = Pl.trim (Pl.add p q)) := Pl.trim_ext fun k => by
  rw [k'hu, Pl.cf_add, hf]
  split
  ·rfl
  ·next h => rw [Pl.cf_ge (p := p) (by omega), Pl.cf_ge (p := q) (by omega)]; rfl
 have HF : ∀ k, Pl.cf p k + Pl.cf q k = f k := fun k => by rw [hf]
 simp only [HF] at HS
 clear s1 s2 hn HF hf
 obtain ⟨n1, hn1⟩ : ∃ n, n = p.length := ⟨_, rfl⟩
 obtain ⟨n2, hn2⟩ : ∃ n, n = q.length := ⟨_, rfl⟩
 rw [← hn1] at HT l1 HA1 ⊢
 rw [← hn2] at HT l2 HA2 ⊢
 generalize Pl.trim (Pl.add p q) = res at *
 clear hn1 hn2
 obtain ⟨N, hN⟩ : ∃ N, N = max n1 n2 := ⟨_, rfl⟩
 rw [← hN] at HT
 have HN := i' hN
 have hN1 : N ≤ 1000 := by omega
 clear hN
 go_enter Tryz.func29, Tryz.ntmps29
 go_wp2
 go_loopw [5, 6] (fun v iv wr => ∃ (wz : World) (k : Nat), wz = wr ∧ k ≤ N ∧ iv = .int .i64 (k : Int) ∧ Hid (RowP wz w.heap.size v (tab f k)) ∧ Hid (Below w.heap.size w wz))
  (fun _ iv _ => N - (intOf iv).toNat)
 case atStart => exact ⟨w, 0, rfl, Nat.zero_le _, rfl, RowP.nil _ _, Below.refl _ _⟩
 case round =>
  obtain ⟨wz, k, rfl, hk, rfl, hrow, hbl⟩ := hrel
  have hk0 : (0 : Int) ≤ (k : Int) := by omega
  by_cases hlt : k < N
  ·have hk2 : k ≤ 1000 := by omega
   have HS := i' (HS.out k)
   have HM := i' (k'hs f k)
   obtain ⟨x, hx⟩ : ∃ x, x = Pl.cf p k := ⟨_, rfl⟩
   obtain ⟨y, hy⟩ : ∃ y, y = Pl.cf q k := ⟨_, rfl⟩
   have HA1 := i' (HA1.out k hk2)
   have HA2 := i' (HA2.out k hk2)
   rw [← hx] at HA1 HS
   rw [← hy] at HA2 HS
   generalize f k = z at *
   clear hx hy
   have hcond : (k : Int) < (n1 : Int) ∨ ((n1 : Int) ≤ (k : Int) ∧ (k : Int) < (n2 : Int)) := by have := HN.out; omega
   rcases hcond with hc1 | ⟨hc1, hc2⟩
   all_goals
    go_wp2_with fail
    refine (HA1.out _ hbl.out).mono ?_
    rintro e w3 ⟨u1, rfl, r1, b1⟩
    have HB3 := i' (chain hbl.out b1)
    have HR1 := i' r1
    have HX3 := i' (hrow.out.below b1)
    clear r1 b1
    unfold iV
    go_wp2_with fail
    refine (HA2.out _ HB3.out).mono ?_
    rintro e w4 ⟨u2, rfl, r2, b2⟩
    have HB4 := i' (chain HB3.out b2)
    have HR2 := i' (And.intro (HR1.out.below b2) r2)
    have HX4 := i' (HX3.out.below b2)
    clear r2 b2
    unfold iV
    go_wp2_with fail
    refine (HS.out _ _ _ HR2.out.1 HR2.out.2).mono ?_
    rintro e w5 ⟨u, rfl, r5, b5⟩
    have HB5 := i' (chain HB4.out b5)
    have HR5 := i' r5
    have HX5 := i' (HX4.out.below b5)
    clear r5 b5
    unfold iV
    go_wp2_with (at_builtin; refine k'h5 rfl rfl _ _ rfl rfl rfl HX5.out HR5.out (by rw [k'ht]; omega) HB5.out ?_)
    intro v' w1 hrow1 hb1 _
    have HN1 := i' hrow1
    have HB1 := i' hb1
    rw [HM.out] at HN1
    clear hrow1 hb1
    go_wp2
    go_roundw
    case rel => exact ⟨_, k + 1, rfl, by omega, by go_num, HN1.out, HB1.out⟩
    case measure => simp [intOf]; omega
  ·obtain rfl : k = N := by omega
   have hNN := HN.out
   have hc1 : (n1 : Int) ≤ (k : Int) := by omega
   have hc2 : (n2 : Int) ≤ (k : Int) := by omega
   clear hNN
   go_wp2_with fail
   refine (k'nf w.heap.size _ _ _ hrow.out.rp hrow.out.fresh).mono ?_
   rintro e w6 ⟨v6, rfl, r6, f6, b6⟩
   have HF6 := i' f6
   have HR6 := i' r6
   rw [HT.out] at HR6
   have HB6 := i' (chain hbl.out b6)
   clear r6 b6 f6
   go_wp2
   go_ret
   exact ⟨_, rfl, HR6.out, HF6.out, HB6.out⟩
theorem k'nh (n : Nat) (hn : n ≤ 80000) (p q : List Int) (v1 v2 : Value) (w : World) (h1 : RP w v1 p) (h2 : RP w v2 q) (l1 : p.length ≤ 1000) (l2 : q.length ≤ 1000) (s1 : Sz n p) (s2 : Sz n q) :
 Calls Tryz.prog 30 #[v1, v2] w (RPFresh w.heap.size (Pl.sub p q) w) := by
 have HN := i' (k'hx n (by omega) q v2 w h2 l2 s2)
 have HS := i' (fun u w' (hu : RP w' u (Pl.trim (Pl.scl (-1) q))) (hb : Below w.heap.size w w') => k'ng n (by omega) p _ v1 u w' (h1.below hb) hu l1 (Nat.le_trans (Pl.trim_length _) (by rw [Pl.scl_length]; exact l2)) s1 s2.neg.trim)
 have HE : Hid (Pl.trim (Pl.add p (Pl.trim (Pl.scl (-1) q))) = Pl.sub p q) := Pl.trim_ext fun k => by rw [Pl.cf_add, Pl.cf_add, Pl.cf_trim]
 rw [HE.out] at HS
 obtain ⟨a1, b1, o1, c1, rfl, -, -, -, -⟩ := h1
 obtain ⟨a2, b2, o2, c2, rfl, -, -, -, -⟩ := h2
 generalize Pl.sub p q = res at *
 generalize Pl.trim (Pl.scl (-1) q) = nq at *
 clear s1 s2 l1 l2 hn HE
 go_enter Tryz.func30, Tryz.ntmps30
 go_wp2_with fail
 refine HN.out.mono ?_
 rintro e w3 ⟨u, rfl, r1, b1⟩
 have HB3 := i' b1
 have HR3 := i' r1
 clear r1 b1
 go_wp2_with fail
 refine (HS.out _ _ HR3.out HB3.out).mono ?_
 rintro e w4 ⟨v4, rfl, r4, f4, b4⟩
 have HF4 := i' (f4.le HB3.out.size)
 have HB4 := i' (chain HB3.out b4)
 have HR4 := i' r4
 clear r4 b4 f4
 go_wp2
 go_ret
 exact ⟨_, rfl, HR4.out, HF4.out, HB4.out⟩
def tpw (a b : Int) : Nat → List Int
 | 0 => Pl.trim [1]
 | i + 1 => Pl.trim (Pl.mul (tpw a b i) (Pl.trim [a, b]))
def cof (p : List Int) (d : Int) (i : Nat) : Int := Pl.cf p i * d ^ (p.length - 1 - i)
def sfm (p : List Int) (a b d : Int) : Nat → List Int
 | 0 => []
 | i + 1 => Pl.trim (Pl.add (sfm p a b d i) (Pl.trim (Pl.scl (cof p d i) (tpw a b i))))
structure ESz (S : List Int → List Int → Prop) : Prop where
 fit : ∀ a b, S a b → ∃ x y, Sz x a ∧ Sz y b ∧ x ≤ 20000 ∧ y ≤ 20000 ∧ (b ≠ [] → (y + 1) * (a.length + 1 - b.length) + x ≤ 20000)
 step : ∀ a b, S a b → Pl.Nrm a → Pl.Nrm b → b ≠ [] → S b (Pl.prim (Pl.rest a b))
structure GInv (S : List Int → List Int → Prop) (G a b : List Int) : Prop where
 na : Pl.Nrm a
 nb : Pl.Nrm b
 la : a.length ≤ 100
 lb : b.length ≤ 100
 g : Pl.gcdP a b = G
 s : S a b
theorem GInv.step {S : List Int → List Int → Prop} (hS : ESz S) {G a b : List Int} (h : GInv S G a b) (hb : b ≠ []) : GInv S G b (Pl.prim (Pl.rest a b)) ∧ (Pl.prim (Pl.rest a b)).length < b.length := by
 have hr := Pl.rest_nrm a b
 have hl := Pl.rest_length (p := a) (q := b) (List.length_pos_iff.2 hb)
 refine ⟨⟨h.nb, Pl.prim_nrm hr, h.lb, by rw [Pl.prim_length]; have := h.lb; omega, ?_, hS.step a b h.s h.na h.nb hb⟩, by rw [Pl.prim_length]; exact hl⟩
 rw [Pl.gcdP_npr (p := b) (q := Pl.prim (Pl.rest a b)) (p' := b) (q' := Pl.rest a b) rfl (Pl.npr_prim hr), ← Pl.gcdP_step h.na h.nb hb, h.g]
theorem k'or {x y : Nat} {a b : List Int} (sa : Sz x a) (sb : Sz y b) (hb : 0 < b.length) (ha : Pl.Nrm a) : Sz ((y + 1) * (a.length + 1 - b.length) + x) (Pl.rest a b) := by
 rcases Nat.lt_or_ge a.length b.length with h | h
 ·rw [Pl.rest_short ha h]; exact sa.mono (by omega)
 ·have h1 : Pl.RInv a b (Pl.rest a b) 0 := ⟨⟨hb, h⟩, a.length + 1 - b.length, rfl, Pl.trim_ext fun k => by rw [Pl.cf_scl]; simp⟩
  exact k'mo sa sb h1
theorem k'os (S : List Int → List Int → Prop) (hS : ESz S) (p q : List Int) (v1 v2 : Value) (w : World) (h1 : RP w v1 p) (h2 : RP w v2 q) (l1 : p.length ≤ 100) (l2 : q.length ≤ 100) (hp : Pl.Nrm p) (hq : Pl.Nrm q) (hs : S p q) :
 Calls Tryz.prog 56 #[v1, v2] w (RPPost (Pl.gcdP p q) w) := by
 have HRest := i' (fun a b u1 u2 w' (h : GInv S (Pl.gcdP p q) a b) (hb : b ≠ []) (g1 : RP w' u1 a) (g2 : RP w' u2 b) => show Calls Tryz.prog 57 #[u1, u2] w' (RPPost (Pl.rest a b) w') by
  obtain ⟨x, y, sx, sy, hx, hy, hxy⟩ := hS.fit a b h.s
  exact k'mt x y a b u1 u2 w' g1 g2 h.la h.lb h.na h.nb hb sx sy (hxy hb) hy)
 have HPrim := i' (fun a b u1 w' (h : GInv S (Pl.gcdP p q) a b) (hb : b ≠ []) (g1 : RP w' u1 (Pl.rest a b)) => show Calls Tryz.prog 41 #[u1] w' (RPPost (Pl.prim (Pl.rest a b)) w') by
  obtain ⟨x, y, sx, sy, hx, hy, hxy⟩ := hS.fit a b h.s
  have hl := Pl.rest_length (p := a) (q := b) (List.length_pos_iff.2 hb)
  have := h.lb
  exact k'mi _ (Nat.le_trans (hxy hb) (by decide)) _ u1 w' g1 (by omega) (k'or sx sy (List.length_pos_iff.2 hb) h.na) (Pl.rest_nrm a b))
 have HEndP := i' (fun a b u1 w' (h : GInv S (Pl.gcdP p q) a b) (g1 : RP w' u1 a) => show Calls Tryz.prog 41 #[u1] w' (RPPost (Pl.prim a) w') by
  obtain ⟨x, y, sx, sy, hx, hy, hxy⟩ := hS.fit a b h.s
  have := h.la
  exact k'mi x (by omega) _ u1 w' g1 (by omega) sx h.na)
 have HNeg := i' (fun a b u1 w' (h : GInv S (Pl.gcdP p q) a b) (g1 : RP w' u1 (Pl.prim a)) => show Calls Tryz.prog 85 #[u1] w' (RPPost (Pl.scl (-1) (Pl.prim a)) w') by
  obtain ⟨x, y, sx, sy, hx, hy, hxy⟩ := hS.fit a b h.s
  have h5 := k'hx x (by omega) (Pl.prim a) u1 w' g1 (by rw [Pl.prim_length]; have := h.la; omega) sx.prim
  rw [Pl.trim_scl (by decide), Pl.trim_nrm (Pl.prim_nrm h.na)] at h5
  exact h5)
 have HStep := i' (fun a b (h : GInv S (Pl.gcdP p q) a b) (hb : b ≠ []) => h.step hS hb)
 have HIn : Hid (GInv S (Pl.gcdP p q) p q) := ⟨hp, hq, l1, l2, rfl, hs⟩
 have H1 := i' h1
 have H2 := i' h2
 have HLa := i' (fun a b (h : GInv S (Pl.gcdP p q) a b) => h.la)
 have HEq := i' (fun a (h : GInv S (Pl.gcdP p q) a []) => show Pl.gcdP p q = Pl.npr a by rw [← h.g]; exact Pl.gcdP_nil a)
 have HNa := i' (fun a b (h : GInv S (Pl.gcdP p q) a b) => h.na)
 generalize Pl.gcdP p q = G at *
 obtain ⟨a1, b1, o1, c1, rfl, -, -, -, -⟩ := h1
 obtain ⟨a2, b2, o2, c2, rfl, -, -, -, -⟩ := h2
 obtain ⟨n1, hn1⟩ : ∃ n, n = p.length := ⟨_, rfl⟩
 obtain ⟨n2, hn2⟩ : ∃ n, n = q.length := ⟨_, rfl⟩
 rw [← hn1] at H1 ⊢
 rw [← hn2] at H2 ⊢
 clear hp hq l1 l2 hs hn1 hn2
 go_enter Tryz.func56, Tryz.ntmps56
 go_wp2
 go_loopw [5, 6] (fun av bv wr => ∃ (wz : World) (a b : List Int), wz = wr ∧ Hid (RP wz av a) ∧ Hid (RP wz bv b) ∧ Hid (GInv S G a b) ∧ Hid (Below w.heap.size w wz))
  (fun _ bv _ => lenOf bv)
 case atStart => exact ⟨w, p, q, rfl, H1.out, H2.out, HIn.out, Below.refl _ _⟩
 case round =>
  clear H1 H2 HIn
  obtain ⟨wz, a, b, rfl, hra, hrb, hinv, hbl⟩ := hrel
  obtain ⟨ab, bb, ob, cb, rfl, -, -, -, -⟩ := hrb.out
  obtain ⟨aa, ba, oa, ca, rfl, -, -, -, -⟩ := hra.out
  obtain ⟨nb, hnb⟩ : ∃ n, n = b.length := ⟨_, rfl⟩
  obtain ⟨na, hna⟩ : ∃ n, n = a.length := ⟨_, rfl⟩
  rcases Nat.eq_zero_or_pos nb with h0 | h0
  ·have hb0 : b = [] := List.eq_nil_of_length_eq_zero (by omega)
   subst hb0
   have hnr := HNa.out a [] hinv.out
   have HE := i' (HEq.out a hinv.out)
   have HP := i' (HEndP.out a [] _ wz hinv.out hra.out)
   have HNeg := i' (fun u1 w' (g1 : RP w' u1 (Pl.prim a)) => HNeg.out a [] u1 w' hinv.out g1)
   have hla := HLa.out a [] hinv.out
   rw [← hnb, h0]
   rw [← hna] at HP ⊢
   have HNA := i' hna
   clear hnb h0 hna hla
   go_wp2_with fail
   refine HP.out.mono ?_
   rintro en y1 ⟨v1, rfl, r1, b1⟩
   have hna := HNA.out
   have hla := HLa.out a [] hinv.out
   have HB1 := i' (chain hbl.out b1)
   have HR1 := i' r1
   obtain ⟨ap, bp, op, cp, rfl, -, -, g4, g5⟩ := r1
   have hpl : (Pl.prim a).length = na := by rw [Pl.prim_length]; exact hna.symm
   rcases Nat.eq_zero_or_pos na with k0 | k0
   ·have ha0 : a = [] := List.eq_nil_of_length_eq_zero (by omega)
    have HG : Hid (G = Pl.prim a) := by show _ = _; rw [HE.out, ha0]; rfl
    rw [hpl, k0] at HR1 ⊢
    clear hpl hna k0 ha0 hnr g4 g5 b1
    go_wp2
    go_ret
    exact ⟨_, rfl, by rw [HG.out]; exact HR1.out, HB1.out⟩
   ·obtain ⟨j, rfl⟩ : ∃ j, na = j + 1 := ⟨na - 1, by omega⟩
    have ha0 : a ≠ [] := fun e => by rw [e] at hna; simp at hna
    have HG := i' (HE.out.trans (Pl.npr_of_lead hnr ha0))
    have hp0 : Pl.prim a ≠ [] := Pl.prim_ne ha0
    obtain rfl := g4 hp0
    obtain ⟨uj, k0', k1, k2⟩ := g5 j (by omega)
    have hlp := k'ms (p := Pl.prim a) (j := j) hpl
    have hsg : (Pl.lead (Pl.prim a)).sign = (Pl.lead a).sign := Pl.lead_prim_sign hnr ha0
    rw [← hlp] at k0' k2
    have HSg := i' (k'7a (Pl.lead (Pl.prim a)) uj y1 k2)
    rw [hsg] at HSg
    obtain ⟨uu, bu, ou, cu, huu, -⟩ := k2
    subst huu
    unfold iV at HSg
    have hwj : IntKind.i64.wrap ((j : Int) + 1 - 1) = (j : Int) := by rw [IntWalk.i64_in _ (by omega)]; omega
    have hwj1 : IntKind.i64.wrap (j : Int) = (j : Int) := IntWalk.i64_in _ (by omega)
    have hj0 : (0 : Int) ≤ (j : Int) := by omega
    have hj1 : (j : Int) < (j : Int) + 1 := by omega
    have hj2 : (0 : Int) < (j : Int) + 1 := by omega
    rw [hpl] at HR1 ⊢
    have HNeg := i' (HNeg.out (.slice (some ⟨bp, op, none⟩) (j + 1) cp))
    have HLs : Hid ((Pl.lead a).sign < 0 ↔ Pl.lead a < 0) := by
     show _ ↔ _
     rcases Int.lt_trichotomy (Pl.lead a) 0 with g | g | g
     ·rw [Int.sign_eq_neg_one_of_neg g]; simp [g]
     ·rw [g]; simp
     ·rw [Int.sign_eq_one_of_pos g]; omega
    generalize (Nm.dg D9 (Pl.lead (Pl.prim a)).natAbs).length = lu at *
    generalize decide (Pl.lead (Pl.prim a) < 0) = bu' at *
    generalize hsx : (Pl.lead a).sign = sx at *
    clear hpl hna ha0 hnr g4 g5 b1 hp0 hlp hsg hsx k0
    by_cases hneg : Pl.lead a < 0
    ·have hsn : sx < 0 := HLs.out.2 hneg
     rw [if_pos hneg] at HG
     clear hneg HLs
     go_wp2_with fail
     refine HSg.out.mono ?_
     rintro en y2 ⟨rfl, b2⟩
     have HB2 := i' b2
     clear b2 k0' k1
     go_wp2_with fail
     refine (HNeg.out _ (HR1.out.below HB2.out)).mono ?_
     rintro en y3 ⟨v3, rfl, r3, b3⟩
     have HR3 := i' r3
     have HB3 := i' (chain HB1.out (chain HB2.out b3))
     clear r3 b3
     go_wp2
     go_ret
     exact ⟨_, rfl, by rw [HG.out]; exact HR3.out, HB3.out⟩
    ·have hsn : ¬ sx < 0 := fun h => hneg (HLs.out.1 h)
     rw [if_neg hneg] at HG
     clear hneg HLs
     go_wp2_with fail
     refine HSg.out.mono ?_
     rintro en y2 ⟨rfl, b2⟩
     have HB2 := i' b2
     clear b2 k0' k1
     have HB3 := i' (chain HB1.out HB2.out)
     go_wp2
     go_ret
     exact ⟨_, rfl, by rw [HG.out]; exact HR1.out.below HB2.out, HB3.out⟩
  ·have hb0 : b ≠ [] := fun e => by rw [hnb, e] at h0; simp at h0
   have HRs := i' (HRest.out a b _ _ wz hinv.out hb0 hra.out hrb.out)
   have HPr := i' (fun u1 w' => HPrim.out a b u1 w' hinv.out hb0)
   obtain ⟨hst1, hst2⟩ := HStep.out a b hinv.out hb0
   have HSt := i' hst1
   have HLt := i' hst2
   rw [← hnb] at HRs hrb HLt ⊢
   rw [← hna] at HRs hra ⊢
   have hnbi : (0 : Int) < (nb : Int) := by omega
   generalize Pl.rest a b = rs at *
   clear hnb hna h0 hb0 hst1 hst2
   go_wp2_with fail
   refine HRs.out.mono ?_
   rintro en y1 ⟨v1, rfl, r1, b1⟩
   have HB1 := i' (chain hbl.out b1)
   have HR1 := i' r1
   have HRb := i' (hrb.out.below b1)
   clear r1 b1
   go_wp2_with fail
   refine (HPr.out _ _ HR1.out).mono ?_
   rintro en y2 ⟨v2, rfl, r2, b2⟩
   have HB2 := i' (chain HB1.out b2)
   have HR2 := i' r2
   have HRb2 := i' (HRb.out.below b2)
   have HM : Hid (lenOf v2 < nb) := by
    obtain ⟨_, _, _, _, rfl, -⟩ := r2
    exact HLt.out
   clear r2 b2
   go_wp2
   go_roundw
   case rel => exact ⟨_, b, Pl.prim rs, rfl, HRb2.out, HR2.out, HSt.out, HB2.out⟩
   case measure => exact HM.out
def Nt : Nat → Nat
 | 10 => 64
 | 9 => 129
 | 8 => 324
 | 7 => 779
 | 6 => 1884
 | 5 => 4549
 | 4 => 10984
 | 3 => 26519
 | 2 => 64024
 | _ => 200000
def b0 (i : Nat) : Nat := if i = 9 then 64 else 66
def SE (p q : List Int) : Prop := p.length ≤ 9 ∧ q.length ≤ 9 ∧ ((Pl.mx p < 2 ^ b0 p.length ∧ Pl.mx q < 2 ^ b0 q.length) ∨ (q.length < p.length ∧ Pl.mx p < 2 ^ Nt (p.length + 1) ∧ Pl.mx q < 2 ^ Nt p.length))
theorem k'ot : ∀ i : Fin 10, ∀ j : Fin 10, 1 ≤ j.val → j.val ≤ i.val → b0 j.val ≤ Nt (j.val + 1) ∧ b0 i.val + (i.val + 1 - j.val) * (b0 j.val + 1) ≤ Nt j.val := by decide
theorem k'ou : ∀ i : Fin 10, ∀ j : Fin 10, 1 ≤ j.val → j.val < i.val → Nt i.val ≤ Nt (j.val + 1) ∧ Nt (i.val + 1) + (i.val + 1 - j.val) * (Nt i.val + 1) ≤ Nt j.val := by decide
theorem k'ov : ∀ j : Fin 11, 2 ≤ j.val → Nt j.val ≤ 65000 := by decide
theorem nt_sz : ∀ i : Fin 10, ∀ j : Fin 10, 1 ≤ j.val → j.val < i.val → (Nt i.val / 29 + 1 + 1) * (i.val + 1 - j.val) + (Nt (i.val + 1) / 29 + 1) ≤ 20000 := by decide
theorem k'ow : ∀ i : Fin 11, Nt i.val / 29 + 1 ≤ 20000 := by decide
theorem k'ox {p q : List Int} {a b : Nat} (hp : Pl.mx p < 2 ^ a) (hq : Pl.mx q < 2 ^ b) : (2 * Pl.mx q) ^ (p.length + 1 - q.length) * Pl.mx p < 2 ^ (a + (p.length + 1 - q.length) * (b + 1)) := by
 have h1 : (2 * Pl.mx q) ^ (p.length + 1 - q.length) ≤ (2 ^ (b + 1)) ^ (p.length + 1 - q.length) := Nat.pow_le_pow_left (by rw [Nat.pow_succ]; omega) _
 rw [← Nat.pow_mul] at h1
 rw [Nat.add_comm a, Nat.pow_add, Nat.mul_comm (p.length + 1 - q.length)]
 exact Nat.mul_lt_mul_of_le_of_lt h1 hp (Nat.pow_pos (by decide))
theorem k'oy {p q : List Int} {a b c : Nat} (hp : Pl.mx p < 2 ^ a) (hq : Pl.mx q < 2 ^ b) (hc : a + (p.length + 1 - q.length) * (b + 1) ≤ c) : Pl.mx (Pl.prim (Pl.rest p q)) < 2 ^ c :=
 Nat.lt_of_le_of_lt (Pl.mx_prim _) (Nat.lt_of_le_of_lt (Pl.mx_rest p q) (Nat.lt_of_lt_of_le (k'ox hp hq) (Nat.pow_le_pow_right (by decide) hc)))
theorem mx_up {p : List Int} {a b : Nat} (h : Pl.mx p < 2 ^ a) (hab : a ≤ b) : Pl.mx p < 2 ^ b := Nat.lt_of_lt_of_le h (Nat.pow_le_pow_right (by decide) hab)
theorem SE.step {p q : List Int} (h : SE p q) (h1 : 1 ≤ q.length) (h2 : q.length ≤ p.length) : SE q (Pl.prim (Pl.rest p q)) := by
 obtain ⟨l1, l2, h⟩ := h
 have hl := Pl.rest_length (p := p) (q := q) (by omega)
 refine ⟨l2, by rw [Pl.prim_length]; omega, Or.inr ⟨by rw [Pl.prim_length]; exact hl, ?_⟩⟩
 rcases h with ⟨a1, a2⟩ | ⟨a0, a1, a2⟩
 ·have := k'ot ⟨p.length, by omega⟩ ⟨q.length, by omega⟩ h1 h2
  exact ⟨mx_up a2 this.1, k'oy a1 a2 this.2⟩
 ·have := k'ou ⟨p.length, by omega⟩ ⟨q.length, by omega⟩ h1 a0
  exact ⟨mx_up a2 this.1, k'oy a1 a2 this.2⟩
theorem k'oz {p : List Int} {a : Nat} (h : Pl.mx p < 2 ^ a) (ha : a ≤ 65000) : ∀ x ∈ p, x.natAbs < Top := fun x hx => by
 exact Nat.lt_of_le_of_lt (Pl.mx_mem hx) (Nat.lt_of_lt_of_le h (k'j4 (by omega)))
def SEk (p q : List Int) : Prop := SE p q ∧ Pl.prim p = p ∧ Pl.prim q = q ∧ Pl.Nrm p ∧ Pl.Nrm q
theorem k'p1 : Pl.Euk SEk := by
 refine ⟨fun p q h => ?_, fun p q h => ?_, fun p q h h1 h2 => ?_, fun p q h h1 h2 => ?_⟩
 ·obtain ⟨⟨l1, l2, h⟩, e1, e2, n1, n2⟩ := h
  rcases h with ⟨a1, a2⟩ | ⟨a0, a1, a2⟩
  ·exact k'oz a1 (by unfold b0; split <;> omega)
  ·exact k'oz a1 (k'ov ⟨p.length + 1, by omega⟩ (by simp; omega))
 ·obtain ⟨⟨l1, l2, h⟩, e1, e2, n1, n2⟩ := h
  rcases h with ⟨a1, a2⟩ | ⟨a0, a1, a2⟩
  ·exact k'oz a2 (by unfold b0; split <;> omega)
  ·rcases Nat.lt_or_ge 1 p.length with g | g
   ·exact k'oz a2 (k'ov ⟨p.length, by omega⟩ g)
   ·obtain rfl := List.eq_nil_of_length_eq_zero (show q.length = 0 by omega)
    intro x hx; cases hx
 ·obtain ⟨⟨l1, l2, h⟩, e1, e2, n1, n2⟩ := h
  have key : ∀ c, c ≤ 65000 → 2 ^ c ≤ Top := fun c hc => k'j4 (by omega)
  rcases h with ⟨a1, a2⟩ | ⟨a0, a1, a2⟩
  ·have h3 := (k'ot ⟨p.length, by omega⟩ ⟨q.length, by omega⟩ (by simp; omega) h2).2
   exact Nat.lt_of_lt_of_le (k'ox a1 a2) (key _ (Nat.le_trans h3 (k'ov ⟨q.length, by omega⟩ h1)))
  ·have h3 := (k'ou ⟨p.length, by omega⟩ ⟨q.length, by omega⟩ (by simp; omega) a0).2
   exact Nat.lt_of_lt_of_le (k'ox a1 a2) (key _ (Nat.le_trans h3 (k'ov ⟨q.length, by omega⟩ h1)))
 ·obtain ⟨s, e1, e2, n1, n2⟩ := h
  exact ⟨s.step (by omega) h2, e2, Pl.prim_prim (Pl.rest_nrm p q), n2, Pl.prim_nrm (Pl.rest_nrm p q)⟩
theorem k'p2 {p : List Int} {a : Nat} (h : Pl.mx p < 2 ^ a) : Sz (a / 29 + 1) p := fun k => by
 refine Nat.lt_of_le_of_lt (Pl.mx_cf p k) (Nat.lt_of_lt_of_le h ?_)
 have h1 : 2 ^ a ≤ 2 ^ (29 * (a / 29 + 1)) := Nat.pow_le_pow_right (by decide) (by omega)
 refine Nat.le_trans h1 ?_
 rw [Nat.pow_mul]
 exact Nat.pow_le_pow_left (by unfold D9; decide) _
theorem k'p3 : ESz SE := by
 refine ⟨fun a b h => ?_, fun a b h ha hb hb0 => ?_⟩
 ·obtain ⟨l1, l2, h⟩ := h
  rcases h with ⟨a1, a2⟩ | ⟨a0, a1, a2⟩
  ·refine ⟨_, _, k'p2 (mx_up a1 (show _ ≤ 66 by unfold b0; split <;> omega)), k'p2 (mx_up a2 (show _ ≤ 66 by unfold b0; split <;> omega)), by decide, by decide, fun hb => ?_⟩
   have : (66 / 29 + 1 + 1) * (a.length + 1 - b.length) ≤ (66 / 29 + 1 + 1) * 10 := Nat.mul_le_mul_left _ (by omega)
   omega
  ·refine ⟨_, _, k'p2 a1, k'p2 a2, k'ow ⟨a.length + 1, by omega⟩, k'ow ⟨a.length, by omega⟩, fun hb => ?_⟩
   exact nt_sz ⟨a.length, by omega⟩ ⟨b.length, by omega⟩ (List.length_pos_iff.2 hb) a0
 ·have hl := List.length_pos_iff.2 hb0
  rcases Nat.lt_or_ge a.length b.length with g | g
  ·obtain ⟨l1, l2, h⟩ := h
   rw [Pl.rest_short ha g]
   rcases h with ⟨a1, a2⟩ | ⟨a0, a1, a2⟩
   ·refine ⟨l2, by rw [Pl.prim_length]; exact l1, Or.inl ⟨a2, ?_⟩⟩
    rw [Pl.prim_length]
    exact Nat.lt_of_le_of_lt (Pl.mx_prim _) a1
   ·omega
  ·exact h.step hl g
def ResD (o : Option (List Int)) (w : World) (e : Ending) (w' : World) : Prop :=
 (∃ t v, o = some t ∧ e = .returned (.tuple #[v, .bool true]) ∧ RP w' v (Pl.trim t) ∧ Below w.heap.size w w') ∨ (o = none ∧ ∃ v, e = .returned (.tuple #[v, .bool false]) ∧ Below w.heap.size w w')
def Avoid (g : Nat) (v : Value) : Prop := ∀ p n c, v = .slice p n c → ∀ a, p = some a → a.block ≠ g
theorem Fresh.avoid {B g : Nat} {v : Value} (h : Fresh B v) (hg : g < B) : Avoid g v := by
 obtain ⟨q, n, c, rfl, h2⟩ := h
 intro p n' c' e a ha
 injection e with e1 e2 e3
 subst e1
 have := h2 a ha
 omega
theorem RP.avoid {w : World} {v : Value} {p : List Int} (h : RP w v p) (hp : p ≠ []) {g : Nat} (hg : w.heap.size ≤ g) : Avoid g v := by
 obtain ⟨a, b, off, cap, rfl, h2, h3, h4, h5⟩ := h
 obtain rfl := h4 hp
 obtain ⟨u, g0, -, -⟩ := h5 0 (List.length_pos_iff.2 hp)
 have hb := World.block_lt_of_cell? w _ g0
 intro p' n c e ad ha
 injection e with e1 e2 e3
 subst e1
 injection ha with ha
 subst ha
 simp only at hb ⊢
 omega
theorem RP.stored {w : World} {v : Value} {p L : List Int} {g : Nat} (h : RP w v p) (hn : Avoid g v) (hA : Ap w g L) (k : Nat) (hk : k < L.length) (x u : Value) : RP ((w.setCell ⟨g, k * 2, none⟩ x).setCell ⟨g, k * 2 + 1, none⟩ u) v p := by
 obtain ⟨a, b, off, cap, rfl, h2, h3, h4, h5⟩ := h
 refine ⟨a, b, off, cap, rfl, h2, h3, h4, fun j hj => ?_⟩
 obtain ⟨y, g0, g1, g2⟩ := h5 j hj
 have hb : b ≠ g := hn a p.length cap rfl ⟨b, off, none⟩ (h4 (by intro e; rw [e] at hj; simp at hj))
 refine ⟨y, ?_, ?_, hA.stored k hk g2 x u⟩
 ·rw [World.cell?_setCell_other _ _ _ _ (by intro e; injection e with e1; exact hb e1.symm), World.cell?_setCell_other _ _ _ _ (by intro e; injection e with e1; exact hb e1.symm)]
  exact g0
 ·rw [World.cell?_setCell_other _ _ _ _ (by intro e; injection e with e1; exact hb e1.symm), World.cell?_setCell_other _ _ _ _ (by intro e; injection e with e1; exact hb e1.symm)]
  exact g1
theorem k'p4 {p q r a : List Int} {n : Nat} (h : Pl.DInv p q n r a) (hr : Pl.Nrm r) : r.length ≤ n + (q.length - 1) := by
 obtain ⟨s, h1, h2, h3⟩ := h
 rw [← h1]
 exact Pl.length_le_of_cf hr fun k hk => by rw [h2, Pl.cf_ge hk]
theorem k'p5 (n : Nat) (c : Int) (a : List Int) : (List.replicate (n + 1) 0 ++ a).set n c = List.replicate n 0 ++ c :: a := by
 rw [List.replicate_succ', List.append_assoc, List.set_append_right _ _ (by simp)]
 simp
theorem k'p6 (a0 b : Nat) (p q : List Int) (v1 v2 : Value) (w : World) (h1 : RP w v1 p) (h2 : RP w v2 q) (l1 : p.length ≤ 100) (l2 : q.length ≤ 100) (hp : Pl.Nrm p) (hq : Pl.Nrm q) (hq0 : q ≠ []) (sp : Sz a0 p) (sq : Sz b q)
 (hab : (b + 1) * (p.length + 1 - q.length) + a0 ≤ 20000) (hb0 : b ≤ 20000) :
 Calls Tryz.prog 58 #[v1, v2] w (ResD (Pl.dvs q (p.length + 1 - q.length) p) w) := by
 have hql := List.length_pos_iff.2 hq0
 obtain ⟨m2, hm2⟩ : ∃ m2, q.length = m2 + 1 := ⟨q.length - 1, by omega⟩
 have HL := i' (k'ms hm2)
 obtain ⟨K, hK⟩ : ∃ K, K = (b + 1) * (p.length + 1 - q.length) + a0 := ⟨_, rfl⟩
 have hK2 : K ≤ 20000 := by omega
 have HQ0 := i' (fun (x : Int) (hx : x.natAbs < D9 ^ K) u1 u2 w' (g1 : Rz w' u1 x) (g2 : Rz w' u2 (Pl.lead q)) => k'ad x (Pl.lead q) u1 u2 w' (K + b) (by omega) (Nat.lt_of_lt_of_le hx (Nat.pow_le_pow_right (by decide) (by omega))) (Nat.lt_of_lt_of_le (sq _) (Nat.pow_le_pow_right (by decide) (by omega))) g1 g2 (Pl.lead_ne hq hq0))
 have HMl := i' (fun (z : Int) (hz : z.natAbs < D9 ^ K) i u1 u2 w' (g1 : Rz w' u1 z) (g2 : Rz w' u2 (Pl.cf q i)) => k'7b z (Pl.cf q i) u1 u2 w' g1 g2 (Nat.le_trans (len9 hz) (by omega)) (Nat.le_trans (sq.len i) (by omega)))
 have HNs := i' (fun r (z : Int) (S : Nat) (hz : z.natAbs < D9 ^ S) (hr : Sz S r) (d : Nat) => show Sz (S + (b + 1)) (Pl.sub r (Pl.scl z (Pl.shift d q))) from fun k => by
  rw [Pl.cf_sub, Pl.cf_scl, Pl.cf_shift]
  have h5 : (z * (if d ≤ k then Pl.cf q (k - d) else 0)).natAbs < D9 ^ (S + b) := by
   rw [Int.natAbs_mul]
   split
   ·exact mulD9 hz (sq _)
   ·simp; exact Nat.pow_pos (by decide)
  have h6 := addD9 (hr k) h5
  rw [show max S (S + b) + 1 = S + (b + 1) by omega] at h6
  refine Nat.lt_of_le_of_lt ?_ h6
  omega)
 have HSb := i' (fun r (hr : Sz K r) (hrl : r.length ≤ 100) (z : Int) (hz : z.natAbs < D9 ^ K) (d : Nat) (hd : d ≤ 200) u1 u2 w' (g1 : RP w' u1 r) (g2 : RP w' u2 (Pl.trim (List.replicate d 0 ++ tab (fun i => z * Pl.cf q i) q.length))) => show Calls Tryz.prog 30 #[u1, u2] w' (RPFresh w'.heap.size (Pl.sub r (Pl.scl z (Pl.shift d q))) w') by
  have s2 : Sz (K + b) (List.replicate d 0 ++ tab (fun i => z * Pl.cf q i) q.length) := fun k => by
   rw [k'mq, Pl.cf_scl, Pl.cf_shift, Int.natAbs_mul]
   split
   ·exact mulD9 hz (sq _)
   ·simp; exact Nat.pow_pos (by decide)
  have h5 := k'nh (K + b) (by omega) r _ u1 u2 w' g1 g2 (by omega) (Nat.le_trans (Pl.trim_length _) (by simp [k'ht]; omega)) (hr.mono (by omega)) s2.trim
  rw [Pl.sub_trim, k'mp (k'mq z q d)] at h5
  exact h5)
 have H1 := i' h1
 have HAv := i' (fun (h0 : p ≠ []) => h1.avoid h0 (Nat.le_refl w.heap.size))
 have HIn := i' (fun (hl : q.length ≤ p.length) => Pl.DInv.start hl hql)
 have HSt := i' (fun n r a (h : Pl.DInv p q (n + 1) r a) (hr : Pl.cf r (n + q.length - 1) % Pl.lead q = 0) => Pl.DInv.step h hr hql)
 have HBad := i' (fun n r a (h : Pl.DInv p q (n + 1) r a) (hr : Pl.cf r (n + q.length - 1) % Pl.lead q ≠ 0) => Pl.DInv.bad h hr hql)
 have HNil : Hid (p = [] → Pl.dvs q (p.length + 1 - q.length) p = some []) := fun h => by
  subst h
  rw [show ([] : List Int).length + 1 - q.length = 0 by simp; omega]
  rfl
 have HSh : Hid (p ≠ [] → p.length < q.length → Pl.dvs q (p.length + 1 - q.length) p = none) := fun h0 hl => by
  rw [show p.length + 1 - q.length = 0 by omega, Pl.dvs, Pl.trim_nrm hp, if_neg h0]
 obtain ⟨O, hO⟩ : ∃ O, O = Pl.dvs q (p.length + 1 - q.length) p := ⟨_, rfl⟩
 have HDn := i' (fun r a (h : Pl.DInv p q 0 r a) (hr : Pl.Nrm r) => show O = if r = [] then some a else none by rw [hO]; exact Pl.DInv.done h hr)
 rw [← hO] at HBad HNil HSh ⊢
 have HP := i' hp
 have HSp := i' sp
 have HK := i' hK
 clear sp sq hab hK hq hp hb0 hO
 obtain ⟨a1, b1, o1, c1, rfl, -, -, -, -⟩ := h1
 obtain ⟨a2, b2, o2, c2, rfl, -, -, g4, g5⟩ := h2
 obtain rfl := g4 hq0
 have G5 := i' g5
 clear g4 g5 hq0 hql
 have HM2 := i' hm2
 obtain ⟨n1, hn1⟩ : ∃ n, n = p.length := ⟨_, rfl⟩
 have HN1 := i' hn1
 rw [← hn1] at l1 HAv ⊢
 rw [hm2] at l2 ⊢
 by_cases hz1 : n1 = 0
 ·have hpn : p = [] := List.eq_nil_of_length_eq_zero (by omega)
  have HR := i' (HNil.out hpn)
  subst hz1
  clear HL hn1 hm2 hpn
  go_enter Tryz.func58, Tryz.ntmps58
  go_wp2
  go_ret2
  exact Or.inl ⟨[], .slice none 0 0, HR.out, rfl, RP.nil _, Below.refl _ _⟩
 ·have z1 : ((n1 : Int) == 0) = false := by simp; omega
  have hp0 : p ≠ [] := fun e => hz1 (by rw [hn1, e]; rfl)
  by_cases hlt : n1 < m2 + 1
  ·have hlti : (n1 : Int) < (m2 : Int) + 1 := by omega
   have HR := i' (HSh.out hp0 (by omega))
   clear HL hn1 hm2 hlt hz1 hp0
   go_enter Tryz.func58, Tryz.ntmps58
   go_wp2
   go_ret2
   exact Or.inr ⟨HR.out, _, rfl, Below.refl _ _⟩
  ·have hlti : ¬ (n1 : Int) < (m2 : Int) + 1 := by omega
   have hle : m2 + 1 ≤ n1 := by omega
   have HIn := i' (HIn.out (by omega))
   have HAv := i' (HAv.out hp0)
   obtain ⟨N, hN⟩ : ∃ N, N = n1 - (m2 + 1) + 1 := ⟨_, rfl⟩
   have HKN : Hid (K = (b + 1) * N + a0) := by show _ = _; rw [HK.out, ← hn1, hm2, show n1 + 1 - (m2 + 1) = N by omega]
   have HIn : Hid (Pl.DInv p q N p []) := by
    have h5 := HIn.out
    rw [← hn1, hm2, ← hN] at h5
    exact h5
   have HNm : Hid (N + m2 = n1) := by show _ = _; omega
   have hN1 : 1 ≤ N := by omega
   have hN2 : N ≤ 100 := by omega
   have hwe : IntKind.i64.wrap ((n1 : Int) - ((m2 : Int) + 1) + 1) = (N : Int) := by rw [IntWalk.i64_in _ (by omega)]; omega
   have hwd : IntKind.i64.wrap ((n1 : Int) - ((m2 : Int) + 1)) = (n1 : Int) - ((m2 : Int) + 1) := IntWalk.i64_in _ (by omega)
   have hwm : IntKind.i64.wrap ((m2 : Int)) = (m2 : Int) := IntWalk.i64_in _ (by omega)
   have hwn : IntKind.i64.wrap ((N : Int) - 1) = (N : Int) - 1 := IntWalk.i64_in _ (by omega)
   have hmk := fun w => mk_ps N w (by omega)
   obtain ⟨ul, g0, g1, g2⟩ := G5.out m2 (by omega)
   rw [← HL.out] at g0 g2
   generalize Pl.lead q = ld at *
   clear HL hn1 hm2 hlt hz1 hp0 hN
   have HRl := i' g2
   obtain ⟨pl, bpl, opl, cl, hul, -⟩ := g2
   subst hul
   generalize (Nm.dg D9 ld.natAbs).length = ll at *
   obtain ⟨bl, hbl'⟩ : ∃ bl, decide (ld < 0) = bl := ⟨_, rfl⟩
   unfold QIPost iV at HQ0
   rw [hbl'] at g0
   simp only [hbl'] at HQ0
   have C0 := i' (And.intro g0 g1)
   clear hbl' g0 g1
   go_enter Tryz.func58, Tryz.ntmps58
   go_wp2
   clear hmk hwe hwd
   obtain ⟨wm, hwm'⟩ : ∃ wm : World, wm = w.alloc (.cells (rv (List.replicate N 0) (List.replicate N (.slice none 0 0))).toArray 52) := ⟨_, rfl⟩
   have A0 : Hid (Ap wm w.heap.size (List.replicate N 0 ++ [])) := by
    show Ap _ _ _
    rw [List.append_nil, hwm']
    exact Ap.made w N
   have B0 : Hid (Below w.heap.size w wm) := by rw [hwm']; exact k'56 _ _
   rw [← hwm']
   clear hwm'
   go_loopw [7, 8] (fun rv' kv wr => ∃ (wz : World) (r a : List Int) (n : Nat), wz = wr ∧ n ≤ N ∧ kv = .int .i64 ((n : Int) - 1) ∧ Hid (RP wz rv' r) ∧ Hid (Avoid w.heap.size rv') ∧ Hid (Ap wz w.heap.size (List.replicate n 0 ++ a)) ∧ Hid (a.length = N - n) ∧ Hid (Pl.DInv p q n r a) ∧ Hid (Pl.Nrm r) ∧ Hid (Sz (a0 + (b + 1) * (N - n)) r) ∧ Hid (Below w.heap.size w wz))
    (fun _ kv _ => (intOf kv + 1).toNat)
   case atStart => exact ⟨wm, p, [], N, rfl, Nat.le_refl _, rfl, by rw [HN1.out]; exact H1.out.below B0.out, HAv.out, A0.out, by show _ = _; simp, HIn.out, HP.out, HSp.out.mono (by omega), B0.out⟩
   case round =>
    clear A0 B0 HIn HAv
    obtain ⟨wz, r, a, n, rfl, hnN, rfl, hr, hav, hap, hal, hinv, hrn, hrs, hd⟩ := hrel
    have hrl : r.length ≤ 100 := by have h5 := k'p4 hinv.out hrn.out; have h6 := HM2.out; have h7 := HNm.out; omega
    have HRk : Hid (Sz K r) := hrs.out.mono (by
     have h5 : (b + 1) * (N - n) ≤ (b + 1) * N := Nat.mul_le_mul_left _ (by omega)
     have h6 := HKN.out
     omega)
    obtain ⟨ar, br, obr, cr, rfl, -, -, -, -⟩ := hr.out
    obtain ⟨k, hk⟩ : ∃ k, k = r.length := ⟨_, rfl⟩
    have HKr := i' hk
    rcases Nat.eq_zero_or_pos n with h0 | h0
    ·subst h0
     have hgei : ¬ (0 : Int) ≤ ((0 : Nat) : Int) - 1 := by omega
     have hO := HDn.out r a hinv.out hrn.out
     have HRo : Hid (RP wz (.slice (some ⟨w.heap.size, 0, none⟩) N N) a) := by
      have h5 := hap.out
      rw [List.replicate_zero, List.nil_append] at h5
      exact (h5.row (B := 0) (Nat.zero_le _) (by have h6 := hal.out; omega) (by unfold maxLen; omega)).rp
     rw [← hk]
     by_cases hre : k = 0
     ·have HO : Hid (O = some a) := by show _ = _; rw [hO, if_pos (List.eq_nil_of_length_eq_zero (by omega))]
      subst hre
      clear hO hk hgei
      go_wp2_with fail
      refine (k'dh _ _ _ HRo.out).mono ?_
      rintro en y6 ⟨v6, rfl, r6, b6⟩
      have HR6 := i' r6
      have HB6 := i' (chain hd.out b6)
      clear r6 b6
      go_wp2
      go_ret2
      exact Or.inl ⟨_, _, HO.out, rfl, HR6.out, HB6.out⟩
     ·have HO : Hid (O = none) := by show _ = _; rw [hO, if_neg (fun e => hre (by rw [hk, e]; rfl))]
      have zk : ((k : Int) == 0) = false := by simp; omega
      clear hO hk hgei hre
      go_wp2_with fail
      refine (k'dh _ _ _ HRo.out).mono ?_
      rintro en y6 ⟨v6, rfl, r6, b6⟩
      have HB6 := i' (chain hd.out b6)
      clear r6 b6
      go_wp2
      go_ret2
      exact Or.inr ⟨HO.out, _, rfl, HB6.out⟩
    ·obtain ⟨j, rfl⟩ : ∃ j, n = j + 1 := ⟨n - 1, by omega⟩
     have hgei : (0 : Int) ≤ ((j + 1 : Nat) : Int) - 1 := by omega
     have hgej : (0 : Int) ≤ (j : Int) := by omega
     have hjN : (j : Int) < (N : Int) := by omega
     have hkj : ((j + 1 : Nat) : Int) - 1 = (j : Int) := by omega
     have HKJ := i' hkj
     rw [hkj]
     obtain ⟨x, hx⟩ : ∃ x, x = Pl.cf r (j + q.length - 1) := ⟨_, rfl⟩
     have hwj1 : IntKind.i64.wrap ((j : Int) + ((m2 : Int) + 1)) = (j : Int) + ((m2 : Int) + 1) := IntWalk.i64_in _ (by omega)
     have hwj2 : IntKind.i64.wrap ((j : Int) + ((m2 : Int) + 1) - 1) = (j : Int) + (m2 : Int) := by rw [IntWalk.i64_in _ (by omega)]; omega
     have hm20 : (0 : Int) ≤ (m2 : Int) := by omega
     have hm21 : (m2 : Int) < (m2 : Int) + 1 := by omega
     have hwj3 : IntKind.i64.wrap ((j : Int) - 1) = (j : Int) - 1 := IntWalk.i64_in _ (by omega)
     have hmk := fun w => mk_ps j w (by omega)
     have HAt : Hid (∀ w', Below wz.heap.size wz w' → Calls Tryz.prog 84 #[.slice ar r.length cr, .int .i64 ((j : Int) + (m2 : Int))] w' (IntPost x w')) := fun w' hb => by
      have e5 : x = Pl.cf r (j + m2) := by rw [hx, show j + q.length - 1 = j + m2 by have h6 := HM2.out; omega]
      rw [e5]
      have e6 := k'hz r _ ((j : Int) + (m2 : Int)) w' (hr.out.below hb) (by omega) (by omega)
      rw [show ((j : Int) + (m2 : Int)).toNat = j + m2 by omega] at e6
      exact e6
     have hxs : x.natAbs < D9 ^ K := by rw [hx]; exact HRk.out _
     have hxS : x.natAbs < D9 ^ (a0 + (b + 1) * (N - (j + 1))) := by rw [hx]; exact hrs.out _
     have HQ := i' (fun u w' (g1 : Rz w' u x) (hb : Below wz.heap.size wz w') => HQ0.out x hxs u (.slice pl ll cl) w' g1 ((HRl.out.below hd.out).below hb))
     have hzs : (x / ld).natAbs < D9 ^ K := Nat.lt_of_le_of_lt (Int.natAbs_ediv_le_natAbs _ _) hxs
     have hzS : (x / ld).natAbs < D9 ^ (a0 + (b + 1) * (N - (j + 1))) := Nat.lt_of_le_of_lt (Int.natAbs_ediv_le_natAbs _ _) hxS
     have HSb := i' (HSb.out r HRk.out hrl (x / ld) hzs j (by omega))
     have HMl := i' (HMl.out (x / ld) hzs)
     have HNS := i' (HNs.out r (x / ld) _ hzS hrs.out j)
     have HNx := i' (fun (h : x % ld = 0) => show Pl.DInv p q j (Pl.sub r (Pl.scl (x / ld) (Pl.shift j q))) (x / ld :: a) by
      have h5 := HSt.out j r a hinv.out (by rw [← hx]; exact h)
      rwa [← hx] at h5)
     have HBad := i' (fun (h : x % ld ≠ 0) => HBad.out j r a hinv.out (by rw [← hx]; exact h))
     have HNn : Hid (Pl.Nrm (Pl.sub r (Pl.scl (x / ld) (Pl.shift j q)))) := Pl.sub_nrm _ _
     have d0 := keep1 hd.out C0.out.1
     have d1 := keep1 hd.out C0.out.2
     have hb2 := World.block_lt_of_cell? w _ C0.out.1
     simp only at hb2
     have hw0 := hd.out.size
     have e1 : ¬ b2 = wz.heap.size := by omega
     have e2 : ¬ b2 = wz.heap.size + 1 := by omega
     have e5 : ¬ wz.heap.size = b2 := by omega
     have e6 : ¬ wz.heap.size + 1 = b2 := by omega
     have hb2z : b2 < wz.heap.size := by omega
     rw [← hk] at HAt hr hav ⊢
     clear hw0 hb2 hk hx hxs hxS hzs hzS hgei hkj h0 HRk hrs
     generalize Pl.sub r (Pl.scl (x / ld) (Pl.shift j q)) = nr at *
     generalize x / ld = z at *
     generalize x % ld = zr at *
     obtain ⟨bz, hbz⟩ : ∃ b, decide (z < 0) = b := ⟨_, rfl⟩
     obtain ⟨bzr, hbzr⟩ : ∃ b, decide (zr < 0) = b := ⟨_, rfl⟩
     have HSg := i' (fun u w' (h : Rz w' u zr) => k'7a zr u w' h)
     rw [hbz, hbzr] at HQ
     unfold iV at HMl HSg
     rw [hbz] at HMl
     rw [hbzr] at HSg
     have HBZ := i' hbz
     clear hbz hbzr
     go_upto_region 10 with (fail)
     go_cut [9, 10] (fun sa sb wx => ∃ (ga gb : Nat) (pa pb : Option Addr) (na ca nb cb : Nat), sa = .pointer (some ⟨ga, 0, none⟩) ∧ sb = .pointer (some ⟨gb, 0, none⟩) ∧ Hid (CutI (.bool bz) (.bool bzr) (.slice pa na ca) (.slice pb nb cb) (Nm.dg D9 z.natAbs) (Nm.dg D9 zr.natAbs) wz.heap.size wz wx ga gb))
     case first =>
      rename_i J0 K0 hRJ hMK
      go_region_held3 (fun W' => W'.cell? ⟨b2, o2 + m2 * 2, none⟩ = some (.bool bl) ∧ W'.cell? ⟨b2, o2 + m2 * 2 + 1, none⟩ = some (.slice pl ll cl)) (go_keep)
       (first
        | (go_at_call 84; (with_reducible refine (HAt.out _ (by first | exact Below.refl _ _ | exact (Below.refl _ _).drew | exact k'56 _ _ | exact k'57 _ _ _ | exact (k'56 _ _).drew | exact (k'57 _ _ _).drew)).mono ?_); rintro e y8 ⟨v8, rfl, r8, b8⟩; (try unfold iV); (try (have b8 := k'5b b8)); have c8 : Below wz.heap.size wz y8 := chain (by first | exact Below.refl _ _ | exact (Below.refl _ _).drew | exact k'56 _ _ | exact k'57 _ _ _ | exact (k'56 _ _).drew | exact (k'57 _ _ _).drew) b8; have p0 := keep1 c8 d0; have p1 := keep1 c8 d1; have hz8 := c8.size; have ny8a : ¬ b2 = y8.heap.size := Nat.ne_of_lt (Nat.lt_of_lt_of_le hb2z hz8); have ny8b : ¬ b2 = y8.heap.size + 1 := Nat.ne_of_lt (Nat.lt_succ_of_lt (Nat.lt_of_lt_of_le hb2z hz8)); have ny8c : ¬ y8.heap.size = b2 := fun e => ny8a e.symm; have ny8d : ¬ y8.heap.size + 1 = b2 := fun e => ny8b e.symm; (try (have A0 := i' (ZC.made (g := wz.heap.size) rfl b8); obtain ⟨A0a, A0b, A0c, A0d⟩ := A0.out)); (try (have A0 := i' (ZC.made1 (g := wz.heap.size) rfl b8); have B0 := i' (ZC.made (g := wz.heap.size + 1) (by simp) b8); obtain ⟨A0a, A0b, A0c, A0d⟩ := A0.out; obtain ⟨B0a, B0b, B0c, B0d⟩ := B0.out)); (try (have L01 := i' (k'58 (g := wz.heap.size) rfl b8); obtain ⟨l01x, l01y, l01z⟩ := L01.out)); (try (have MM := i' (k'59 (g := wz.heap.size) rfl b8); have L01 := i' MM.out.1; have M01 := i' MM.out.2; clear MM; obtain ⟨l01x, l01y, l01z⟩ := L01.out; obtain ⟨m01x, m01y, m01z⟩ := M01.out)); have G8 := i' r8; obtain ⟨pq8, bq8, oq8, cq8, rfl, rrq8⟩ := r8; clear rrq8)
        | (go_at_call 98; (with_reducible refine (HQ.out _ _ (by first | exact G8.out | exact Ri.allocd G8.out _ | exact Ri.allocd (Ri.allocd G8.out _) _ | exact Ri.drew G8.out | exact Ri.drew (Ri.allocd G8.out _) | exact Ri.drew (Ri.allocd (Ri.allocd G8.out _) _)) (chain c8 (by first | exact Below.refl _ _ | exact (Below.refl _ _).drew | exact k'56 _ _ | exact k'57 _ _ _ | exact (k'56 _ _).drew | exact (k'57 _ _ _).drew))).mono ?_); rintro e y9 ⟨v9, x9, rfl, r9, s9, b9⟩; (try unfold iV); (try (have b9 := k'5b b9)); have d9 : Below y8.heap.size y8 y9 := chain (by first | exact Below.refl _ _ | exact (Below.refl _ _).drew | exact k'56 _ _ | exact k'57 _ _ _ | exact (k'56 _ _).drew | exact (k'57 _ _ _).drew) b9; have c9 : Below wz.heap.size wz y9 := chain c8 d9; have p0 := keep1 c9 d0; have p1 := keep1 c9 d1; have hz9 := c9.size; have ny9a : ¬ b2 = y9.heap.size := Nat.ne_of_lt (Nat.lt_of_lt_of_le hb2z hz9); have ny9b : ¬ b2 = y9.heap.size + 1 := Nat.ne_of_lt (Nat.lt_succ_of_lt (Nat.lt_of_lt_of_le hb2z hz9)); have ny9c : ¬ y9.heap.size = b2 := fun e => ny9a e.symm; have ny9d : ¬ y9.heap.size + 1 = b2 := fun e => ny9b e.symm; (try (have A1 := i' (ZC.made (g := y8.heap.size) rfl b9); obtain ⟨A1a, A1b, A1c, A1d⟩ := A1.out)); (try (have A1 := i' (ZC.made1 (g := y8.heap.size) rfl b9); have B1 := i' (ZC.made (g := y8.heap.size + 1) (by simp) b9); obtain ⟨A1a, A1b, A1c, A1d⟩ := A1.out; obtain ⟨B1a, B1b, B1c, B1d⟩ := B1.out)); (try (have A0 := i' (A0.out.next d9); obtain ⟨A0a, A0b, A0c, A0d⟩ := A0.out)); (try (have B0 := i' (B0.out.next d9); obtain ⟨B0a, B0b, B0c, B0d⟩ := B0.out)); (try (have L02 := i' (k'5a L01.out d9.size); obtain ⟨l02x, l02y, l02z⟩ := L02.out)); (try (have M02 := i' (k'5a M01.out d9.size); obtain ⟨m02x, m02y, m02z⟩ := M02.out)); (try (have L12 := i' (k'58 (g := y8.heap.size) rfl b9); obtain ⟨l12x, l12y, l12z⟩ := L12.out)); (try (have MM := i' (k'59 (g := y8.heap.size) rfl b9); have L12 := i' MM.out.1; have M12 := i' MM.out.2; clear MM; obtain ⟨l12x, l12y, l12z⟩ := L12.out; obtain ⟨m12x, m12y, m12z⟩ := M12.out)); have G9 := i' (And.intro r9 s9); obtain ⟨pq9, bq9, oq9, cq9, rfl, rrq9⟩ := r9; obtain ⟨ps9, bs9, os9, cs9, rfl, rrs9⟩ := s9; clear rrq9 rrs9)
        | fail)
      all_goals
       obtain ⟨r1, r2⟩ := G9.out
       refine hMK _ _ (Met.intro (hRJ _ _ ?_))
       (repeat apply Exists.intro)
       refine ⟨?_, rfl⟩
       refine ⟨_, _, pq9, ps9, (Nm.dg D9 z.natAbs).length, cq9, (Nm.dg D9 zr.natAbs).length, cs9, rfl, rfl, ?_⟩
       show CutI (.bool bz) (.bool bzr) (.slice pq9 _ cq9) (.slice ps9 _ cs9) (Nm.dg D9 z.natAbs) (Nm.dg D9 zr.natAbs) wz.heap.size wz _ _ _
       have sA0 : wz.heap.size ≤ wz.heap.size := Nat.le_refl _
       have sB0 : wz.heap.size ≤ wz.heap.size + 1 := Nat.le_succ _
       have sA2 : wz.heap.size ≤ y9.heap.size := c9.size
       have n0 : ¬ wz.heap.size = wz.heap.size + 1 := Nat.ne_of_lt (Nat.lt_succ_self _)
       have m0 : ¬ wz.heap.size + 1 = wz.heap.size := fun e => n0 e.symm
       have sA1 : wz.heap.size ≤ y8.heap.size := c8.size
       have sB1 : wz.heap.size ≤ y8.heap.size + 1 := Nat.le_succ_of_le sA1
       have n1 : ¬ y8.heap.size = y8.heap.size + 1 := Nat.ne_of_lt (Nat.lt_succ_self _)
       have m1 : ¬ y8.heap.size + 1 = y8.heap.size := fun e => n1 e.symm
       first
        | with_reducible exact CutI.s1 r1 r2 c9 sA2
        | with_reducible exact CutI.s2 r1 r2 c9 sA2
        | with_reducible exact CutI.s3 A0.out sA0 r1 r2 c9 sA2
        | with_reducible exact CutI.s4 A0.out sA0 r1 r2 c9 sA2
        | with_reducible exact CutI.s3 B0.out sB0 r1 r2 c9 sA2
        | with_reducible exact CutI.s4 B0.out sB0 r1 r2 c9 sA2
        | with_reducible exact CutI.s3 A1.out sA1 r1 r2 c9 sA2
        | with_reducible exact CutI.s4 A1.out sA1 r1 r2 c9 sA2
        | with_reducible exact CutI.s3 B1.out sB1 r1 r2 c9 sA2
        | with_reducible exact CutI.s4 B1.out sB1 r1 r2 c9 sA2
        | with_reducible exact CutI.s5 A1.out sA1 B1.out sB1 n1 r1 r2 c9
        | with_reducible exact CutI.s5 B1.out sB1 A1.out sA1 m1 r1 r2 c9
        | with_reducible exact CutI.s5 A0.out sA0 A1.out sA1 l01x r1 r2 c9
        | with_reducible exact CutI.s5 A1.out sA1 A0.out sA0 l01y r1 r2 c9
        | with_reducible exact CutI.s5 A0.out sA0 B0.out sB0 n0 r1 r2 c9
        | with_reducible exact CutI.s5 B0.out sB0 A0.out sA0 m0 r1 r2 c9
        | fail
     obtain ⟨ga, gb, pa, pb, na, ca, nb, cb, rfl, rfl, hcut⟩ := hcut
     obtain ⟨⟨hga, -⟩, T9, T10, R9, R10, bxx⟩ := hcut.out
     have T9 := i' T9
     have R9 := i' (show Rz wc (.slice pa na ca) z from R9)
     have R10 := i' (show Rz wc (.slice pb nb cb) zr from R10)
     have Dc := i' (chain hd.out bxx)
     have hr2 := i' (hr.out.below bxx)
     have hap2 := i' (hap.out.below bxx)
     obtain ⟨t0, t1, -, -⟩ := T10
     have HGa : Hid (w.heap.size < ga) := Nat.lt_of_lt_of_le hap.out.lt hga
     have HSg := i' (HSg.out _ wc R10.out)
     clear bxx hcut d0 d1 e1 e2 e5 e6 hr HQ HAt hga hap
     by_cases hzr : zr = 0
     ·have HNx := i' (HNx.out hzr)
      rw [hzr] at HSg
      have e0 : Hid ((0 : Int).sign = 0) := rfl
      rw [e0.out] at HSg
      clear hzr e0 HBad
      go_wp2_with fail
      refine HSg.out.mono ?_
      rintro en y7 ⟨rfl, b7⟩
      have D7 := i' (chain Dc.out b7)
      have T9 := i' (T9.out.next b7)
      have R9 := i' (R9.out.below b7)
      have hr7 := i' (hr2.out.below b7)
      have hap7 := i' (hap2.out.below b7)
      clear b7 t0 t1 hr2 hap2
      obtain ⟨t0, t1, -, -⟩ := T9.out
      have hlj : j < (List.replicate (j + 1) 0 ++ a).length := by simp; omega
      obtain ⟨uo, k0, k1, -⟩ := hap7.out.cell j hlj
      have k2 := hap7.out.free (j * 2)
      have k3 := hap7.out.free (j * 2 + 1)
      obtain ⟨ws, hws⟩ : ∃ ws : World, ws = (y7.setCell ⟨w.heap.size, j * 2, none⟩ (.bool bz)).setCell ⟨w.heap.size, j * 2 + 1, none⟩ (.slice pa na ca) := ⟨_, rfl⟩
      have HAs : Hid (Ap ws w.heap.size (List.replicate j 0 ++ z :: a)) := by
       show Ap _ _ _
       rw [hws, ← k'p5, ← HBZ.out]
       exact hap7.out.set j hlj R9.out
      have Hrs : Hid (RP ws (.slice ar k cr) r) := by
       show RP _ _ _
       rw [hws]
       exact hr7.out.stored hav.out hap7.out j hlj _ _
      have HRs : Hid (Rz ws (.slice pa na ca) z) := by
       rw [hws]
       exact hap7.out.stored j hlj R9.out _ _
      have HTs : Hid (ws.cell? ⟨ga, 0, none⟩ = some (.bool bz) ∧ ws.cell? ⟨ga, 1, none⟩ = some (.slice pa na ca)) := by
       have h5 : w.heap.size ≠ ga := Nat.ne_of_lt HGa.out
       rw [hws]
       exact ⟨far2 (by simpa using h5) t0, far2 (by simpa using h5) t1⟩
      have Ds : Hid (Below w.heap.size w ws) := by
       rw [hws]
       exact (D7.out.setCell (p := ⟨w.heap.size, j * 2, none⟩) (Nat.le_refl _) _).setCell (p := ⟨w.heap.size, j * 2 + 1, none⟩) (Nat.le_refl _) _
      have Hws := i' hws
      clear hws
      go_upto_region 14 with (fail)
      rw [← Hws.out]
      clear Hws t0 t1 k0 k1 k2 k3 hlj
      go_wp2
      clear hmk
      obtain ⟨wm, hwm'⟩ : ∃ wm : World, wm = ws.alloc (.cells (rv (List.replicate j 0) (List.replicate j (.slice none 0 0))).toArray 52) := ⟨_, rfl⟩
      have A0 : Hid (RowP wm ws.heap.size (.slice (some ⟨ws.heap.size, 0, none⟩) j j) (List.replicate j 0 ++ tab (fun i => z * Pl.cf q i) 0)) := by
       rw [k'mr, List.append_nil, hwm']
       exact (Ap.made ws j).row (Nat.le_refl _) (by simp) (by unfold maxLen; omega)
      have B0 : Hid (Below ws.heap.size ws wm) := by rw [hwm']; exact k'56 _ _
      rw [← hwm']
      clear hwm'
      go_loopw [11, 12] (fun mv iv wq => ∃ (wy : World) (i : Nat), wy = wq ∧ i ≤ m2 + 1 ∧ iv = .int .i64 (i : Int) ∧ Hid (RowP wy ws.heap.size mv (List.replicate j 0 ++ tab (fun i => z * Pl.cf q i) i)) ∧ Hid (Below ws.heap.size ws wy))
       (fun _ iv _ => m2 + 1 - (intOf iv).toNat)
      case atStart => exact ⟨wm, 0, rfl, Nat.zero_le _, rfl, A0.out, B0.out⟩
      case round =>
       clear A0 B0
       obtain ⟨wy, i, rfl, hi, rfl, hrow, hbw⟩ := hrel
       have hi0 : (0 : Int) ≤ (i : Int) := by omega
       by_cases hlt : i < m2 + 1
       ·have hii : (i : Int) < (m2 : Int) + 1 := by omega
        have hiq : i < q.length := by have h6 := HM2.out; omega
        have DD := i' (chain Ds.out hbw.out)
        obtain ⟨ui, g0, g1, g2⟩ := G5.out i hiq
        rw [← Pl.cf_lt hiq] at g0 g2
        have HMi := i' (fun w' (hb : Below wy.heap.size wy w') => HMl.out i (.slice pa na ca) ui w' ((HRs.out.below hbw.out).below hb) (g2.below (chain DD.out hb)))
        have HS := i' (show (List.replicate j 0 ++ tab (fun i => z * Pl.cf q i) i) ++ [z * Pl.cf q i] = List.replicate j 0 ++ tab (fun i => z * Pl.cf q i) (i + 1) by rw [List.append_assoc, k'hs (fun i => z * Pl.cf q i) i])
        have HLn : Hid ((List.replicate j 0 ++ tab (fun i => z * Pl.cf q i) i).length ≤ 100000) := by show _ ≤ _; rw [List.length_append, k'ht, List.length_replicate]; omega
        have c0 := keep1 DD.out g0
        have c1' := keep1 DD.out g1
        have c2' := keep1 hbw.out HTs.out.1
        have c3' := keep1 hbw.out HTs.out.2
        generalize z * Pl.cf q i = zi at *
        generalize Pl.cf q i = xi at *
        obtain ⟨pi', bi', oi', ci', hui, -⟩ := g2
        subst hui
        generalize (Nm.dg D9 xi.natAbs).length = li at *
        generalize decide (xi < 0) = bi at *
        have CC := i' (And.intro g0 g1)
        clear g0 g1 hiq
        go_upto_region 18 with (fail)
        go_region_held3 (fun W' => W'.cell? ⟨b2, o2 + i * 2, none⟩ = some (.bool bi) ∧ W'.cell? ⟨b2, o2 + i * 2 + 1, none⟩ = some (.slice pi' li ci') ∧ W'.cell? ⟨ga, 0, none⟩ = some (.bool bz) ∧ W'.cell? ⟨ga, 1, none⟩ = some (.slice pa na ca)) (go_keep)
         (first
          | (go_at_call 83; (with_reducible refine (HMi.out _ ((Below.refl _ _).drew)).mono ?_); rintro e w5 ⟨u5, rfl, r5, b5⟩; unfold iV; have d5 := chain ((Below.refl wy.heap.size wy).drew) b5; have p0 := keep1 d5 c0; have p1 := keep1 d5 c1'; have p2 := keep1 d5 c2'; have p3 := keep1 d5 c3'; have HR5 := i' r5; have HX5 := i' (hrow.out.below d5); have HB5 := i' (chain hbw.out d5); clear r5 b5 d5)
          | (rw [if_pos (by rfl)]; refine k'h4 rfl _ _ rfl rfl rfl HX5.out HR5.out HLn.out HB5.out ?_; intro v' w1 hrow1 hb1 hsz1; have hq1 : Below ws.heap.size ws w1 := hb1; have p0 := keep1 (chain Ds.out hq1) CC.out.1; have p1 := keep1 (chain Ds.out hq1) CC.out.2; have p2 := keep1 hq1 HTs.out.1; have p3 := keep1 hq1 HTs.out.2; have HN1' := i' hrow1; have HB1 := i' hb1; clear hrow1 hb1)
          | fail)
        rw [HS.out] at HN1'
        go_wp2
        go_roundw
        case rel => exact ⟨_, i + 1, rfl, by omega, by go_num, HN1'.out, HB1.out⟩
        case measure => simp [intOf]; omega
       ·obtain rfl : i = m2 + 1 := by omega
        have hii : ¬ ((m2 : Int) + 1) < (m2 : Int) + 1 := by omega
        have HRm : Hid (RP wy u11 (List.replicate j 0 ++ tab (fun i => z * Pl.cf q i) q.length)) := by rw [HM2.out]; exact hrow.out.rp
        go_wp2_with fail
        refine (k'dh _ _ _ HRm.out).mono ?_
        rintro en y4 ⟨v4, rfl, r4, b4⟩
        have HR4 := i' r4
        have HB4 := i' (chain hbw.out b4)
        clear r4 b4
        go_wp2_with fail
        refine (HSb.out _ _ _ (Hrs.out.below HB4.out) HR4.out).mono ?_
        rintro en y5 ⟨v5, rfl, r5, f5, b5⟩
        have HR5 := i' r5
        have HD5 := i' (chain HB4.out b5)
        have HB5 := i' (chain Ds.out HD5.out)
        have HA5 := i' (HAs.out.below HD5.out)
        have HF5 := i' (f5.avoid (g := w.heap.size) (Nat.lt_of_lt_of_le HAs.out.lt HB4.out.size))
        clear r5 b5 f5
        have HSS : Hid (Sz (a0 + (b + 1) * (N - j)) nr) := HNS.out.mono (by
         rw [show N - j = N - (j + 1) + 1 by omega, Nat.mul_succ]
         omega)
        go_wp2
        go_roundw
        case rel => exact ⟨_, nr, z :: a, j, rfl, by omega, rfl, HR5.out, HF5.out, HA5.out, (by show _ = _; have h5 := hal.out; simp; omega), HNx.out, HNn.out, HSS.out, HB5.out⟩
        case measure => simp [intOf] <;> omega
     ·have HO := i' (HBad.out hzr)
      have hzs : (zr.sign == 0) = false := by simpa [Int.sign_eq_zero_iff_zero] using hzr
      generalize zr.sign = sg' at *
      clear hzr HBad HNx
      go_wp2_with fail
      refine HSg.out.mono ?_
      rintro en y7 ⟨rfl, b7⟩
      have D7 := i' (chain Dc.out b7)
      clear b7 t0 t1
      go_wp2
      go_ret2
      exact Or.inr ⟨HO.out, _, rfl, D7.out⟩
def PdA (w : World) (v1 v2 : Value) : Prop :=
 (∀ w', Below w.heap.size w w' → Calls Tryz.prog 53 #[v1, v2] w' (ResE 2 w')) ∧
 (∀ w', Below w.heap.size w w' → Calls Tryz.prog 54 #[v1, v2] w' (ResE 2 w')) ∧
 (∀ w', Below w.heap.size w w' → Calls Tryz.prog 55 #[v1, v2] w' (ResE 2 w')) ∧
 (∀ w', Below w.heap.size w w' → Calls Tryz.prog 19 #[.slice (some ⟨w'.heap.size, 0, none⟩) 2 2] (w'.alloc (.cells #[v1, v2] 23)) (BPost false w'))
def PdB (w : World) (v1 v2 : Value) : Prop := ∃ (p q G : List Int) (m : Nat),
 (∀ w', Below w.heap.size w w' → Calls Tryz.prog 53 #[v1, v2] w' (ResE 3 w')) ∧
 (∀ w', Below w.heap.size w w' → Calls Tryz.prog 54 #[v1, v2] w' (ResE 3 w')) ∧
 (∀ w', Below w.heap.size w w' → Calls Tryz.prog 55 #[v1, v2] w' (ResP G w')) ∧
 (∀ w', Below w.heap.size w w' → Calls Tryz.prog 19 #[.slice (some ⟨w'.heap.size, 0, none⟩) 2 2] (w'.alloc (.cells #[v1, v2] 23)) (BPost true w')) ∧
 (∀ w', Below w.heap.size w w' → Calls Tryz.prog 21 #[v1] w' (RPPost p w')) ∧
 (∀ w', Below w.heap.size w w' → Calls Tryz.prog 21 #[v2] w' (RPPost q w')) ∧
 (∀ w' v, RP w' v q → ∃ a c, v = .slice a m c) ∧
 (m = 0) ∧
 (∀ w' a b, RP w' a p → RP w' b q → Calls Tryz.prog 56 #[a, b] w' (RPPost G w')) ∧
 (∀ w' v x, Rp w' v G → RP w' x G → Calls Tryz.prog 24 #[v, .int .i64 0, x] w' (BPost true w'))
def PdC (w : World) (v1 v2 : Value) : Prop := ∃ (p q G T : List Int) (m : Nat),
 (∀ w', Below w.heap.size w w' → Calls Tryz.prog 53 #[v1, v2] w' (ResP T w')) ∧
 (∀ w', Below w.heap.size w w' → Calls Tryz.prog 54 #[v1, v2] w' (ResE 10 w')) ∧
 (∀ w', Below w.heap.size w w' → Calls Tryz.prog 55 #[v1, v2] w' (ResP G w')) ∧
 (∀ w', Below w.heap.size w w' → Calls Tryz.prog 19 #[.slice (some ⟨w'.heap.size, 0, none⟩) 2 2] (w'.alloc (.cells #[v1, v2] 23)) (BPost true w')) ∧
 (∀ w', Below w.heap.size w w' → Calls Tryz.prog 21 #[v1] w' (RPPost p w')) ∧
 (∀ w', Below w.heap.size w w' → Calls Tryz.prog 21 #[v2] w' (RPPost q w')) ∧
 (∀ w' v, RP w' v q → ∃ a c, v = .slice a m c) ∧
 (0 < m) ∧
 (∀ w' a b, RP w' a p → RP w' b q → Calls Tryz.prog 56 #[a, b] w' (RPPost G w')) ∧
 (∀ w' v x, Rp w' v G → RP w' x G → Calls Tryz.prog 24 #[v, .int .i64 0, x] w' (BPost true w')) ∧
 (∀ w' a b, RP w' a p → RP w' b q → Calls Tryz.prog 57 #[a, b] w' (RPPost T w')) ∧
 (∀ w' v x, Rp w' v T → RP w' x T → Calls Tryz.prog 24 #[v, .int .i64 0, x] w' (BPost true w')) ∧
 (∀ w' a b, RP w' a p → RP w' b q → Calls Tryz.prog 58 #[a, b] w' fun e w'' => ∃ v, e = .returned (.tuple #[v, .bool false]) ∧ Below w'.heap.size w' w'')
def PdD (w : World) (v1 v2 : Value) : Prop := ∃ (p q G T D : List Int) (m : Nat),
 (∀ w', Below w.heap.size w w' → Calls Tryz.prog 53 #[v1, v2] w' (ResP T w')) ∧
 (∀ w', Below w.heap.size w w' → Calls Tryz.prog 54 #[v1, v2] w' (ResP D w')) ∧
 (∀ w', Below w.heap.size w w' → Calls Tryz.prog 55 #[v1, v2] w' (ResP G w')) ∧
 (∀ w', Below w.heap.size w w' → Calls Tryz.prog 19 #[.slice (some ⟨w'.heap.size, 0, none⟩) 2 2] (w'.alloc (.cells #[v1, v2] 23)) (BPost true w')) ∧
 (∀ w', Below w.heap.size w w' → Calls Tryz.prog 21 #[v1] w' (RPPost p w')) ∧
 (∀ w', Below w.heap.size w w' → Calls Tryz.prog 21 #[v2] w' (RPPost q w')) ∧
 (∀ w' v, RP w' v q → ∃ a c, v = .slice a m c) ∧
 (0 < m) ∧
 (∀ w' a b, RP w' a p → RP w' b q → Calls Tryz.prog 56 #[a, b] w' (RPPost G w')) ∧
 (∀ w' v x, Rp w' v G → RP w' x G → Calls Tryz.prog 24 #[v, .int .i64 0, x] w' (BPost true w')) ∧
 (∀ w' a b, RP w' a p → RP w' b q → Calls Tryz.prog 57 #[a, b] w' (RPPost T w')) ∧
 (∀ w' v x, Rp w' v T → RP w' x T → Calls Tryz.prog 24 #[v, .int .i64 0, x] w' (BPost true w')) ∧
 (∀ w' a b, RP w' a p → RP w' b q → Calls Tryz.prog 58 #[a, b] w' fun e w'' => ∃ v, e = .returned (.tuple #[v, .bool true]) ∧ RP w'' v D ∧ Below w'.heap.size w' w'') ∧
 (∀ w' v x, Rp w' v D → RP w' x D → Calls Tryz.prog 24 #[v, .int .i64 0, x] w' (BPost true w'))
def sml (L : List (Bool × ByteArray)) : Prop := ∀ j (hj : j < L.length), L[j].2.size ≤ 8
theorem k'p7 (L1 L2 : List (Bool × ByteArray)) (v1 v2 : Value) (w : World) (h1 : Rw w v1 L1) (h2 : Rw w v2 L2)
 (HS : ∀ w', Below w.heap.size w w' → Calls Tryz.prog 11 #[.slice (some ⟨w'.heap.size, 0, none⟩) 2 2] (w'.alloc (.cells #[v1, v2] 23)) (BPost false w')) :
 Calls Tryz.prog 8 #[v1, v2] w (Ret (.bool true) w) := by
 have HK := i' k'l8
 have HS := i' HS
 have l1 := h1.len
 have l2 := h2.len
 obtain ⟨p1, a1, o1, c1x, rfl, -, -, -, -⟩ := h1
 obtain ⟨p2, a2, o2, c2x, rfl, -, -, -, -⟩ := h2
 generalize L1.length = n1 at *
 generalize L2.length = n2 at *
 unfold BPost at *
 unfold Ret at *
 go_enter Tryz.func8, Tryz.ntmps8
 go_wp2_with fail
 refine (HS.out _ (Below.refl _ _)).mono ?_
 rintro e x1 ⟨rfl, b1⟩
 have E := i' b1
 clear b1
 go_wp2_with fail
 refine (HK.out _).mono ?_
 rintro e x2 ⟨rfl, b2⟩
 have E := i' (chain E.out b2)
 clear b2
 go_wp2
 go_ret
 exact ⟨rfl, E.out⟩
theorem k'p8 (L1 L2 : List (Bool × ByteArray)) (v1 v2 : Value) (w : World) (h1 : Rw w v1 L1) (h2 : Rw w v2 L2) (c1 : 9 < L1.length ∧ L1.length ≠ 26)
 (HS : ∀ w', Below w.heap.size w w' → Calls Tryz.prog 11 #[.slice (some ⟨w'.heap.size, 0, none⟩) 2 2] (w'.alloc (.cells #[v1, v2] 23)) (BPost true w')) :
 Calls Tryz.prog 8 #[v1, v2] w (Ret (.bool true) w) := by
 have HK := i' k'l8
 have HS := i' HS
 have l1 := h1.len
 have l2 := h2.len
 obtain ⟨p1, a1, o1, c1x, rfl, -, -, -, -⟩ := h1
 obtain ⟨p2, a2, o2, c2x, rfl, -, -, -, -⟩ := h2
 generalize L1.length = n1 at *
 generalize L2.length = n2 at *
 have q1 : (9 : Int) < (n1 : Int) := by omega
 have q2 : ((n1 : Int) != 26) = true := by simp; omega
 clear c1
 unfold BPost at *
 unfold Ret at *
 go_enter Tryz.func8, Tryz.ntmps8
 go_wp2_with fail
 refine (HS.out _ (Below.refl _ _)).mono ?_
 rintro e x1 ⟨rfl, b1⟩
 have E := i' b1
 clear b1
 go_wp2_with fail
 refine (HK.out _).mono ?_
 rintro e x2 ⟨rfl, b2⟩
 have E := i' (chain E.out b2)
 clear b2
 go_wp2
 go_ret
 exact ⟨rfl, E.out⟩
theorem k'p9 (L1 L2 : List (Bool × ByteArray)) (v1 v2 : Value) (w : World) (h1 : Rw w v1 L1) (h2 : Rw w v2 L2) (c1 : L1.length ≤ 9 ∨ L1.length = 26) (c2 : 9 < L2.length ∧ L2.length ≠ 26)
 (HS : ∀ w', Below w.heap.size w w' → Calls Tryz.prog 11 #[.slice (some ⟨w'.heap.size, 0, none⟩) 2 2] (w'.alloc (.cells #[v1, v2] 23)) (BPost true w')) :
 Calls Tryz.prog 8 #[v1, v2] w (Ret (.bool true) w) := by
 have HK := i' k'l8
 have HS := i' HS
 have l1 := h1.len
 have l2 := h2.len
 obtain ⟨p1, a1, o1, c1x, rfl, -, -, -, -⟩ := h1
 obtain ⟨p2, a2, o2, c2x, rfl, -, -, -, -⟩ := h2
 generalize L1.length = n1 at *
 generalize L2.length = n2 at *
 have q1 : (9 : Int) < (n2 : Int) := by omega
 have q2 : ((n2 : Int) != 26) = true := by simp; omega
 have q3 : (n1 : Int) ≤ 9 ∨ (9 < (n1 : Int) ∧ ((n1 : Int) != 26) = false) := by
  rcases Nat.lt_or_ge 9 n1 with g | g
  ·right; exact ⟨by omega, by simp; omega⟩
  ·left; omega
 clear c1 c2
 rcases q3 with q3 | ⟨q3, q4⟩
 all_goals
  unfold BPost at *
  unfold Ret at *
  go_enter Tryz.func8, Tryz.ntmps8
  go_wp2_with fail
  refine (HS.out _ (Below.refl _ _)).mono ?_
  rintro e x1 ⟨rfl, b1⟩
  have E := i' b1
  clear b1
  go_wp2_with fail
  refine (HK.out _).mono ?_
  rintro e x2 ⟨rfl, b2⟩
  have E := i' (chain E.out b2)
  clear b2
  go_wp2
  go_ret
  exact ⟨rfl, E.out⟩
theorem k'pa (L1 L2 : List (Bool × ByteArray)) (v1 v2 : Value) (w : World) (h1 : Rw w v1 L1) (h2 : Rw w v2 L2) (z1 : Lim L1) (z2 : Lim L2) (c1 : L1.length ≤ 9 ∨ L1.length = 26) (c2 : L2.length ≤ 9 ∨ L2.length = 26)
 (HS : ∀ w', Below w.heap.size w w' → Calls Tryz.prog 11 #[.slice (some ⟨w'.heap.size, 0, none⟩) 2 2] (w'.alloc (.cells #[v1, v2] 23)) (BPost true w'))
 (HH : sml L1 → sml L2 → PdA w v1 v2 ∨ PdB w v1 v2 ∨ PdC w v1 v2 ∨ PdD w v1 v2) :
 Calls Tryz.prog 8 #[v1, v2] w (Ret (.bool true) w) := by
 have HK := i' k'l8
 have HS := i' HS
 have HH := i' HH
 have HRl : Hid (∀ x, Below w.heap.size w x → ∀ k (hk : k < [L1, L2].length), ∃ u, (x.alloc (.cells #[v1, v2] 23)).cell? ⟨x.heap.size, 0 + k, none⟩ = some u ∧ Rw (x.alloc (.cells #[v1, v2] 23)) u [L1, L2][k]) := by
  intro x hb k hk
  match k, hk with
  | 0, _ => exact ⟨v1, by simp [go_sem], (h1.below hb).below (k'56 _ _)⟩
  | 1, _ => exact ⟨v2, by simp [go_sem], (h2.below hb).below (k'56 _ _)⟩
 have HZ : Hid (∀ k (hk : k < [L1, L2].length), Lim [L1, L2][k]) := by
  intro k hk
  match k, hk with
  | 0, _ => exact z1
  | 1, _ => exact z2
 have l1 := h1.len
 have l2 := h2.len
 have HA2 : Hid ((∀ k (hk : k < [L1, L2].length), k < 2 → sml [L1, L2][k]) → sml L1 ∧ sml L2) := fun h => ⟨h 0 (by simp) (by omega), h 1 (by simp) (by omega)⟩
 obtain ⟨p1, a1, o1, c1x, rfl, -, -, -, -⟩ := h1
 obtain ⟨p2, a2, o2, c2x, rfl, -, -, -, -⟩ := h2
 have q1 : (L1.length : Int) ≤ 9 ∨ (9 < (L1.length : Int) ∧ ((L1.length : Int) != 26) = false) := by
  rcases Nat.lt_or_ge 9 L1.length with g | g
  ·right; exact ⟨by omega, by simp; omega⟩
  ·left; omega
 have q2 : (L2.length : Int) ≤ 9 ∨ (9 < (L2.length : Int) ∧ ((L2.length : Int) != 26) = false) := by
  rcases Nat.lt_or_ge 9 L2.length with g | g
  ·right; exact ⟨by omega, by simp; omega⟩
  ·left; omega
 obtain ⟨Ls, hLs⟩ : ∃ Ls, Ls = [L1, L2] := ⟨_, rfl⟩
 rw [← hLs] at HRl HZ HA2
 have HLL : Hid (Ls.length = 2) := by show _ = _; rw [hLs]; rfl
 clear hLs z1 z2
 generalize L1.length = n1 at *
 generalize L2.length = n2 at *
 clear c1 c2
 unfold BPost at HS
 unfold Ret at *
 go_enter Tryz.func8, Tryz.ntmps8
 go_wp2_with fail
 refine (HS.out _ (Below.refl _ _)).mono ?_
 rintro e x1 ⟨rfl, b1⟩
 obtain ⟨u, hu⟩ : ∃ u : World, u = x1.alloc (.cells #[.slice p1 n1 c1x, .slice p2 n2 c2x] 23) := ⟨_, rfl⟩
 have E : Hid (Below w.heap.size w u) := by rw [hu]; exact chain b1 (k'56 _ _)
 have H5 := i' (HRl.out _ b1)
 rw [← hu] at H5
 have Hu := i' hu
 clear hu b1 HRl
 rcases q1 with q1 | ⟨q1, q3⟩ <;> rcases q2 with q2 | ⟨q2, q4⟩
 all_goals
  go_upto_region 4 with (fail)
  rw [← Hu.out]
  clear Hu
  go_loopw [6, 49] (fun _ iv wr => ∃ (wz : World) (k : Nat), wz = wr ∧ k ≤ 2 ∧ iv = .int .i64 (k : Int) ∧ Hid (∀ j (hj : j < Ls.length), j < k → sml Ls[j]) ∧ Hid (Below w.heap.size w wz) ∧ Hid (Below u.heap.size u wz))
   (fun _ iv _ => 2 - (intOf iv).toNat)
  case atStart => exact ⟨u, 0, rfl, by omega, rfl, fun j _ hj => absurd hj (Nat.not_lt_zero _), E.out, Below.refl _ _⟩
  case round =>
   obtain ⟨wz, k, rfl, hk, rfl, hall, hbl, hbu⟩ := hrel
   have hk0 : (0 : Int) ≤ (k : Int) := by omega
   by_cases hlt : k < 2
   ·have hkl : k < Ls.length := by have h5 := HLL.out; omega
    have hkk : (k : Int) < 2 := by omega
    obtain ⟨uu, g0, g1⟩ := H5.out k hkl
    have c0 := keep1 hbu.out g0
    have c0' : wz.cell? ⟨x1.heap.size, k, none⟩ = some uu := by have := c0; rwa [Nat.zero_add] at this
    have HZk := i' (HZ.out k hkl)
    obtain ⟨L, hL⟩ : ∃ L, L = Ls[k] := ⟨_, rfl⟩
    have hR : Hid (sml L → ∀ j (hj : j < Ls.length), j < k + 1 → sml Ls[j]) := by
     intro hs j hj hjk
     rcases Nat.lt_or_ge j k with g | g
     ·exact hall.out j hj g
     ·obtain rfl : j = k := by omega
      rw [← hL]; exact hs
    rw [← hL] at g1 HZk
    have hlen := g1.len
    obtain ⟨pu, bu, ou, cu, rfl, -, -, g4, g5⟩ := g1
    have G4 := i' g4
    have G5 := i' g5
    obtain ⟨ll, hll⟩ : ∃ ll, ll = L.length := ⟨_, rfl⟩
    have HLk := i' hll
    rw [← hll] at hlen c0 c0'
    have HB1 := i' (chain (Below.refl u.heap.size u) hbu.out)
    clear hall g0 hL g4 g5 hkl hll
    go_wp2
    go_loopw [8, 55] (fun _ iv wq => ∃ (wy : World) (i : Nat), wy = wq ∧ i ≤ ll ∧ iv = .int .i64 (i : Int) ∧ Hid (∀ j (hj : j < L.length), j < i → L[j].2.size ≤ 8) ∧ Hid (Below w.heap.size w wy) ∧ Hid (Below u.heap.size u wy))
     (fun _ iv _ => ll - (intOf iv).toNat)
    case atStart => exact ⟨wz, 0, rfl, Nat.zero_le _, rfl, fun j _ hj => absurd hj (Nat.not_lt_zero _), hbl.out, hbu.out⟩
    case round =>
     clear hbl c0 c0' HB1
     obtain ⟨wy, i, rfl, hi, rfl, hsm, hbw, hbv⟩ := hrel
     have hi0 : (0 : Int) ≤ (i : Int) := by omega
     by_cases hil : i < ll
     ·have hiL : i < L.length := by have h5 : ll = L.length := HLk.out; omega
      have hii : (i : Int) < (ll : Int) := by omega
      obtain rfl := G4.out (by intro e; rw [e] at hiL; exact absurd hiL (Nat.not_lt_zero _))
      have d0 := keep1 hbv.out (G5.out i hiL).1
      have d1 := keep1 hbv.out (G5.out i hiL).2
      have hsz := HZk.out _ (List.getElem_mem hiL)
      have HSn : Hid (L[i].2.size ≤ 8 → ∀ j (hj : j < L.length), j < i + 1 → L[j].2.size ≤ 8) := by
       intro hs j hj hjk
       rcases Nat.lt_or_ge j i with g | g
       ·exact hsm.out j hj g
       ·obtain rfl : j = i := by omega
        exact hs
      generalize L[i].1 = bb at *
      generalize L[i].2 = ss at *
      have HB2 := i' (hbw.out.alloc hbw.out.size (.cells #[.bool bb, .string ss] 44))
      have HB3 := i' (hbv.out.alloc hbv.out.size (.cells #[.bool bb, .string ss] 44))
      clear hsm hiL
      by_cases h16 : ss.size ≤ 8
      ·have HSn := i' (HSn.out h16)
       have h16i : (ss.size : Int) ≤ 8 := by omega
       clear h16
       go_wp2
       go_roundw
       case rel => exact ⟨_, i + 1, rfl, by omega, by go_num, HSn.out, HB2.out, HB3.out⟩
       case measure => simp [intOf]; omega
      ·have h16i : (8 : Int) < (ss.size : Int) := by omega
       clear h16 HSn
       go_wp2_with fail
       refine (HK.out _).mono ?_
       rintro e x2 ⟨rfl, b2⟩
       have E := i' (chain HB2.out b2)
       clear b2
       go_wp2
       go_ret
       exact ⟨rfl, E.out⟩
     ·obtain rfl : i = ll := by omega
      have HR := i' (hR.out (fun j hj => hsm.out j hj (by have h5 : i = L.length := HLk.out; omega)))
      clear hsm
      go_wp2
      go_roundw
      case rel => exact ⟨_, k + 1, rfl, by omega, by go_num, HR.out, hbw.out, hbv.out⟩
      case measure => simp [intOf]; omega
   ·obtain rfl : k = 2 := by omega
    obtain ⟨sm1, sm2⟩ := HA2.out (fun j hj h => hall.out j hj h)
    have HH := i' (HH.out sm1 sm2)
    have E := i' hbl.out
    clear hall hbl hbu H5 sm1 sm2 HA2 HZ HLL
    rcases HH.out with HH | HH | HH | HH
    ·obtain ⟨HA, HB, HC, HV⟩ := HH
     have HA := i' HA
     have HB := i' HB
     have HC := i' HC
     have HV := i' HV
     unfold BPost at *
     unfold ResE at *
     (try unfold Ret at *)
     go_wp2_with fail
     refine (HA.out _ E.out).mono ?_
     rintro e x2 ⟨rfl, b2⟩
     have E := i' (chain E.out b2)
     clear b2
     go_wp2_with fail
     refine (HB.out _ E.out).mono ?_
     rintro e x3 ⟨rfl, b3⟩
     have E := i' (chain E.out b3)
     clear b3
     go_wp2_with fail
     refine (HC.out _ E.out).mono ?_
     rintro e x4 ⟨rfl, b4⟩
     have E := i' (chain E.out b4)
     clear b4
     go_wp2_with fail
     refine (HV.out _ E.out).mono ?_
     rintro e x5 ⟨rfl, b5⟩
     have E := i' (chain E.out b5)
     clear b5
     go_wp2_with fail
     refine (HK.out _).mono ?_
     rintro e x6 ⟨rfl, b6⟩
     have E := i' (chain E.out b6)
     clear b6
     go_wp2
     go_ret
     exact ⟨rfl, E.out⟩
    ·obtain ⟨p, q, G, m, HA, HB, HC, HV, HF1, HF2, HO2, Hm, HG, HEG⟩ := HH
     have HA := i' HA
     have HB := i' HB
     have HC := i' HC
     have HV := i' HV
     have HF1 := i' HF1
     have HF2 := i' HF2
     have HO2 := i' HO2
     have HG := i' HG
     have HEG := i' HEG
     subst Hm
     unfold BPost at *
     unfold ResP at *
     unfold RPPost at *
     unfold ResE at *
     (try unfold Ret at *)
     go_wp2_with fail
     refine (HA.out _ E.out).mono ?_
     rintro e x2 ⟨rfl, b2⟩
     have E := i' (chain E.out b2)
     clear b2
     go_wp2_with fail
     refine (HB.out _ E.out).mono ?_
     rintro e x3 ⟨rfl, b3⟩
     have E := i' (chain E.out b3)
     clear b3
     go_wp2_with fail
     refine (HC.out _ E.out).mono ?_
     rintro e x4 ⟨y4, rfl, r4, b4⟩
     have E := i' (chain E.out b4)
     have RC := i' r4
     clear r4
     clear b4
     go_wp2_with fail
     refine (HV.out _ E.out).mono ?_
     rintro e x5 ⟨rfl, b5⟩
     have RC := i' (RC.out.below b5)
     have E := i' (chain E.out b5)
     clear b5
     go_wp2_with fail
     refine (HF1.out _ E.out).mono ?_
     rintro e x6 ⟨y6, rfl, r6, b6⟩
     have RC := i' (RC.out.below b6)
     have E := i' (chain E.out b6)
     have RX := i' r6
     clear r6
     clear b6
     go_wp2_with fail
     refine (HF2.out _ E.out).mono ?_
     rintro e x7 ⟨y7, rfl, r7, b7⟩
     have RC := i' (RC.out.below b7)
     have RX := i' (RX.out.below b7)
     have E := i' (chain E.out b7)
     have RY := i' r7
     clear r7
     clear b7
     obtain ⟨ay, cy, rfl⟩ := HO2.out _ _ RY.out
     go_wp2_with fail
     refine (HG.out _ _ _ RX.out RY.out).mono ?_
     rintro e x8 ⟨y8, rfl, r8, b8⟩
     have RC := i' (RC.out.below b8)
     have RX := i' (RX.out.below b8)
     have RY := i' (RY.out.below b8)
     have E := i' (chain E.out b8)
     have RG := i' r8
     clear r8
     clear b8
     go_wp2_with fail
     refine (HEG.out _ _ _ RC.out RG.out).mono ?_
     rintro e x9 ⟨rfl, b9⟩
     have RC := i' (RC.out.below b9)
     have RX := i' (RX.out.below b9)
     have RY := i' (RY.out.below b9)
     have RG := i' (RG.out.below b9)
     have E := i' (chain E.out b9)
     clear b9
     clear RG RC
     go_wp2_with fail
     refine (HK.out _).mono ?_
     rintro e x10 ⟨rfl, b10⟩
     have RX := i' (RX.out.below b10)
     have RY := i' (RY.out.below b10)
     have E := i' (chain E.out b10)
     clear b10
     go_wp2
     go_ret
     exact ⟨rfl, E.out⟩
    ·obtain ⟨p, q, G, T, m, HA, HB, HC, HV, HF1, HF2, HO2, Hm, HG, HEG, HRr, HET, HDr⟩ := HH
     have HA := i' HA
     have HB := i' HB
     have HC := i' HC
     have HV := i' HV
     have HF1 := i' HF1
     have HF2 := i' HF2
     have HO2 := i' HO2
     have HG := i' HG
     have HEG := i' HEG
     have HRr := i' HRr
     have HET := i' HET
     have HDr := i' HDr
     have Hm : (0 : Int) < (m : Int) := by omega
     have Hm2 : ((m : Int) == 0) = false := by simp; omega
     unfold BPost at *
     unfold ResP at *
     unfold RPPost at *
     unfold ResE at *
     (try unfold Ret at *)
     go_wp2_with fail
     refine (HA.out _ E.out).mono ?_
     rintro e x2 ⟨y2, rfl, r2, b2⟩
     have E := i' (chain E.out b2)
     have RA := i' r2
     clear r2
     clear b2
     go_wp2_with fail
     refine (HB.out _ E.out).mono ?_
     rintro e x3 ⟨rfl, b3⟩
     have RA := i' (RA.out.below b3)
     have E := i' (chain E.out b3)
     clear b3
     go_wp2_with fail
     refine (HC.out _ E.out).mono ?_
     rintro e x4 ⟨y4, rfl, r4, b4⟩
     have RA := i' (RA.out.below b4)
     have E := i' (chain E.out b4)
     have RC := i' r4
     clear r4
     clear b4
     go_wp2_with fail
     refine (HV.out _ E.out).mono ?_
     rintro e x5 ⟨rfl, b5⟩
     have RA := i' (RA.out.below b5)
     have RC := i' (RC.out.below b5)
     have E := i' (chain E.out b5)
     clear b5
     go_wp2_with fail
     refine (HF1.out _ E.out).mono ?_
     rintro e x6 ⟨y6, rfl, r6, b6⟩
     have RA := i' (RA.out.below b6)
     have RC := i' (RC.out.below b6)
     have E := i' (chain E.out b6)
     have RX := i' r6
     clear r6
     clear b6
     go_wp2_with fail
     refine (HF2.out _ E.out).mono ?_
     rintro e x7 ⟨y7, rfl, r7, b7⟩
     have RA := i' (RA.out.below b7)
     have RC := i' (RC.out.below b7)
     have RX := i' (RX.out.below b7)
     have E := i' (chain E.out b7)
     have RY := i' r7
     clear r7
     clear b7
     obtain ⟨ay, cy, rfl⟩ := HO2.out _ _ RY.out
     go_wp2_with fail
     refine (HG.out _ _ _ RX.out RY.out).mono ?_
     rintro e x8 ⟨y8, rfl, r8, b8⟩
     have RA := i' (RA.out.below b8)
     have RC := i' (RC.out.below b8)
     have RX := i' (RX.out.below b8)
     have RY := i' (RY.out.below b8)
     have E := i' (chain E.out b8)
     have RG := i' r8
     clear r8
     clear b8
     go_wp2_with fail
     refine (HEG.out _ _ _ RC.out RG.out).mono ?_
     rintro e x9 ⟨rfl, b9⟩
     have RA := i' (RA.out.below b9)
     have RC := i' (RC.out.below b9)
     have RX := i' (RX.out.below b9)
     have RY := i' (RY.out.below b9)
     have RG := i' (RG.out.below b9)
     have E := i' (chain E.out b9)
     clear b9
     clear RG RC
     go_wp2_with fail
     refine (HRr.out _ _ _ RX.out RY.out).mono ?_
     rintro e x10 ⟨y10, rfl, r10, b10⟩
     have RA := i' (RA.out.below b10)
     have RX := i' (RX.out.below b10)
     have RY := i' (RY.out.below b10)
     have E := i' (chain E.out b10)
     have RT := i' r10
     clear r10
     clear b10
     go_wp2_with fail
     refine (HET.out _ _ _ RA.out RT.out).mono ?_
     rintro e x11 ⟨rfl, b11⟩
     have RA := i' (RA.out.below b11)
     have RX := i' (RX.out.below b11)
     have RY := i' (RY.out.below b11)
     have RT := i' (RT.out.below b11)
     have E := i' (chain E.out b11)
     clear b11
     clear RT RA
     go_wp2_with fail
     refine (HDr.out _ _ _ RX.out RY.out).mono ?_
     rintro e x12 ⟨y12, rfl, b12⟩
     have E := i' (chain E.out b12)
     have RX := i' (RX.out.below b12)
     have RY := i' (RY.out.below b12)
     clear b12
     go_wp2_with fail
     refine (HK.out _).mono ?_
     rintro e x13 ⟨rfl, b13⟩
     have RX := i' (RX.out.below b13)
     have RY := i' (RY.out.below b13)
     have E := i' (chain E.out b13)
     clear b13
     go_wp2
     go_ret
     exact ⟨rfl, E.out⟩
    ·obtain ⟨p, q, G, T, D, m, HA, HB, HC, HV, HF1, HF2, HO2, Hm, HG, HEG, HRr, HET, HDr, HED⟩ := HH
     have HA := i' HA
     have HB := i' HB
     have HC := i' HC
     have HV := i' HV
     have HF1 := i' HF1
     have HF2 := i' HF2
     have HO2 := i' HO2
     have HG := i' HG
     have HEG := i' HEG
     have HRr := i' HRr
     have HET := i' HET
     have HDr := i' HDr
     have HED := i' HED
     have Hm : (0 : Int) < (m : Int) := by omega
     have Hm2 : ((m : Int) == 0) = false := by simp; omega
     unfold BPost at *
     unfold ResP at *
     unfold RPPost at *
     (try unfold Ret at *)
     go_wp2_with fail
     refine (HA.out _ E.out).mono ?_
     rintro e x2 ⟨y2, rfl, r2, b2⟩
     have E := i' (chain E.out b2)
     have RA := i' r2
     clear r2
     clear b2
     go_wp2_with fail
     refine (HB.out _ E.out).mono ?_
     rintro e x3 ⟨y3, rfl, r3, b3⟩
     have RA := i' (RA.out.below b3)
     have E := i' (chain E.out b3)
     have RB := i' r3
     clear r3
     clear b3
     go_wp2_with fail
     refine (HC.out _ E.out).mono ?_
     rintro e x4 ⟨y4, rfl, r4, b4⟩
     have RA := i' (RA.out.below b4)
     have RB := i' (RB.out.below b4)
     have E := i' (chain E.out b4)
     have RC := i' r4
     clear r4
     clear b4
     go_wp2_with fail
     refine (HV.out _ E.out).mono ?_
     rintro e x5 ⟨rfl, b5⟩
     have RA := i' (RA.out.below b5)
     have RB := i' (RB.out.below b5)
     have RC := i' (RC.out.below b5)
     have E := i' (chain E.out b5)
     clear b5
     go_wp2_with fail
     refine (HF1.out _ E.out).mono ?_
     rintro e x6 ⟨y6, rfl, r6, b6⟩
     have RA := i' (RA.out.below b6)
     have RB := i' (RB.out.below b6)
     have RC := i' (RC.out.below b6)
     have E := i' (chain E.out b6)
     have RX := i' r6
     clear r6
     clear b6
     go_wp2_with fail
     refine (HF2.out _ E.out).mono ?_
     rintro e x7 ⟨y7, rfl, r7, b7⟩
     have RA := i' (RA.out.below b7)
     have RB := i' (RB.out.below b7)
     have RC := i' (RC.out.below b7)
     have RX := i' (RX.out.below b7)
     have E := i' (chain E.out b7)
     have RY := i' r7
     clear r7
     clear b7
     obtain ⟨ay, cy, rfl⟩ := HO2.out _ _ RY.out
     go_wp2_with fail
     refine (HG.out _ _ _ RX.out RY.out).mono ?_
     rintro e x8 ⟨y8, rfl, r8, b8⟩
     have RA := i' (RA.out.below b8)
     have RB := i' (RB.out.below b8)
     have RC := i' (RC.out.below b8)
     have RX := i' (RX.out.below b8)
     have RY := i' (RY.out.below b8)
     have E := i' (chain E.out b8)
     have RG := i' r8
     clear r8
     clear b8
     go_wp2_with fail
     refine (HEG.out _ _ _ RC.out RG.out).mono ?_
     rintro e x9 ⟨rfl, b9⟩
     have RA := i' (RA.out.below b9)
     have RB := i' (RB.out.below b9)
     have RC := i' (RC.out.below b9)
     have RX := i' (RX.out.below b9)
     have RY := i' (RY.out.below b9)
     have RG := i' (RG.out.below b9)
     have E := i' (chain E.out b9)
     clear b9
     clear RG RC
     go_wp2_with fail
     refine (HRr.out _ _ _ RX.out RY.out).mono ?_
     rintro e x10 ⟨y10, rfl, r10, b10⟩
     have RA := i' (RA.out.below b10)
     have RB := i' (RB.out.below b10)
     have RX := i' (RX.out.below b10)
     have RY := i' (RY.out.below b10)
     have E := i' (chain E.out b10)
     have RT := i' r10
     clear r10
     clear b10
     go_wp2_with fail
     refine (HET.out _ _ _ RA.out RT.out).mono ?_
     rintro e x11 ⟨rfl, b11⟩
     have RA := i' (RA.out.below b11)
     have RB := i' (RB.out.below b11)
     have RX := i' (RX.out.below b11)
     have RY := i' (RY.out.below b11)
     have RT := i' (RT.out.below b11)
     have E := i' (chain E.out b11)
     clear b11
     clear RT RA
     go_wp2_with fail
     refine (HDr.out _ _ _ RX.out RY.out).mono ?_
     rintro e x12 ⟨y12, rfl, r12, b12⟩
     have RB := i' (RB.out.below b12)
     have RX := i' (RX.out.below b12)
     have RY := i' (RY.out.below b12)
     have E := i' (chain E.out b12)
     have RD := i' r12
     clear r12
     clear b12
     go_wp2_with fail
     refine (HED.out _ _ _ RB.out RD.out).mono ?_
     rintro e x13 ⟨rfl, b13⟩
     have RB := i' (RB.out.below b13)
     have RX := i' (RX.out.below b13)
     have RY := i' (RY.out.below b13)
     have RD := i' (RD.out.below b13)
     have E := i' (chain E.out b13)
     clear b13
     go_wp2_with fail
     refine (HK.out _).mono ?_
     rintro e x14 ⟨rfl, b14⟩
     have RB := i' (RB.out.below b14)
     have RX := i' (RX.out.below b14)
     have RY := i' (RY.out.below b14)
     have RD := i' (RD.out.below b14)
     have E := i' (chain E.out b14)
     clear b14
     go_wp2
     go_ret
     exact ⟨rfl, E.out⟩
end Go.Proofs.YtepddegphdlbeaaGreat
