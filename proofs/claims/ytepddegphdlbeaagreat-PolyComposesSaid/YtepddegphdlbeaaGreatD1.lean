/- PolyComposes gives true for all polynomials and integers (P2.5), and leaves its arguments as they were. No condition. -/
import Derived.Test.YtepddegphdlbeaaGreatD0
import Derived.Test.YtepddegphdlbeaaGreatG12
import Derived.Test.YtepddegphdlbeaaGreatG9
import Derived.Test.YtepddegphdlbeaaGreatG8
import Derived.Test.YtepddegphdlbeaaGreatG7
import Derived.Test.YtepddegphdlbeaaGreatG6
import Derived.Test.YtepddegphdlbeaaGreatG4
import Derived.Test.YtepddegphdlbeaaGreatG3
import Derived.Test.YtepddegphdlbeaaGreatG2
import Derived.Test.YtepddegphdlbeaaGreatG1
import Derived.Test.YtepddegphdlbeaaGreatG0
import Derived.Test.YtepddegphdlbeaaGreatProg
import Derived.WalkKit
import Derived.WalkSpells
import Derived.WalkLawsBesides
import Derived.Lib.Hide
import Derived.Deep.QuietTactic
import Derived.BigQuiet
import Derived.Shelf.Small.Bits
import Derived.Shelf.Small.Wraps
import Derived.Shelf.Strconv.Itoa0
import Derived.Shelf.Bits.Mul64
import Derived.Ground.Names2Prog
import Derived.Shelf.Slices.SearchI
import Derived.Shelf.Spec.BitsCarry
import Derived.Deep.LoopGhost
import Derived.Deep.RegionHeld3
import Derived.Deep.DeepCutAuto
import Derived.Test.YtepddegphdlbeaaGreatG5
import Derived.Laws.AppendOwnNone
import Derived.Below
import Derived.Test.YtepddegphdlbeaaGreatG11
import Derived.Test.YtepddegphdlbeaaGreatG10
import Derived.RangeFuncNested
import Derived.RangeFuncBound
import Derived.RangeFuncCalls
import Derived.RangeFuncLeaves
import Derived.Shelf.Abstract
import Derived.Shelf.RegionOpen
import Derived.OwnWalkIn
import Derived.TacticsInMore
import Derived.LoopNIn
import Derived.LoopIn
import Derived.OrdersIn
import Derived.Deep.RegionHeld
import Derived.Maps.AppendAt
import Derived.Lib.SliceRun
import Derived.IntWalk
import Derived.Test.YtepddegphdlbeaaGreatG16
import Derived.Test.YtepddegphdlbeaaGreatG15
import Derived.Test.YtepddegphdlbeaaGreatG13
import Derived.Laws.StructEq
import Derived.Test.YtepddegphdlbeaaGreatG14
import Derived.Test.YtepddegphdlbeaaGreatRows
import Derived.ProofKit
import Derived.OpenShut
import Derived.ShutString
import Derived.ChangeOld
import Derived.Lib.SmallJoins
import Derived.Deep.SlicePairs
import Derived.Carry
set_option maxRecDepth 100000
set_option maxHeartbeats 16000000
set_option linter.all false
namespace Go.Proofs.YtepddegphdlbeaaGreat
open Go.RowKit
def tpw (a b : Int) : Nat → List Int
 | 0 => Pl.trim [1]
 | i + 1 => Pl.trim (Pl.mul (tpw a b i) (Pl.trim [a, b]))
def cof (p : List Int) (d : Int) (i : Nat) : Int := Pl.cf p i * d ^ (p.length - 1 - i)
def sfm (p : List Int) (a b d : Int) : Nat → List Int
 | 0 => []
 | i + 1 => Pl.trim (Pl.add (sfm p a b d i) (Pl.trim (Pl.scl (cof p d i) (tpw a b i))))
theorem ev_tp (a b : Int) (i : Nat) (x : Int) : Pl.ev (tpw a b i) x = (a + b * x) ^ i := by
 induction i with
 | zero => simp [tpw, Pl.ev_trim, Pl.ev]
 | succ i ih =>
  rw [tpw, Pl.ev_trim, Pl.ev_mul, ih, Pl.ev_trim, Int.pow_succ]
  congr 1
  simp only [Pl.ev]
  grind
theorem k'nj (p : List Int) (a b d : Int) (i : Nat) (x : Int) : Pl.ev (sfm p a b d i) x = Pl.evs (Pl.lev p d) (a + b * x) i := by
 induction i with
 | zero => rfl
 | succ i ih => rw [sfm, Pl.ev_trim, Pl.ev_add, ih, Pl.ev_trim, Pl.ev_scl, ev_tp, Pl.evs, Pl.cf_lev]; rfl
theorem k'nk (p : List Int) (a b d : Int) (i : Nat) : Pl.Nrm (sfm p a b d i) := by
 cases i with
 | zero => exact Pl.nrm_nil
 | succ i => exact Pl.nrm_trim _
theorem k'nl (p : List Int) (a b d : Int) : sfm p a b d p.length = Pl.trim (Pl.comp a b (Pl.lev p d)) :=
 Pl.ev_inj_nrm (k'nk _ _ _ _ _) (Pl.nrm_trim _) fun x _ => by
  rw [k'nj, Pl.ev_trim, Pl.ev_comp, ← Pl.evs_all, Pl.lev_length]
theorem k'nm (p q : List Int) : (Pl.mul p q).length ≤ p.length + q.length := by
 induction p with
 | nil => simp [Pl.mul]
 | cons a p ih => rw [Pl.mul, Pl.add_length, Pl.scl_length, List.length_cons, List.length_cons]; omega
theorem k'nn (a b : Int) (i : Nat) : (tpw a b i).length ≤ 1 + 2 * i := by
 induction i with
 | zero => exact Pl.trim_length _
 | succ i ih =>
  have h1 := Pl.trim_length (Pl.mul (tpw a b i) (Pl.trim [a, b]))
  have h2 := k'nm (tpw a b i) (Pl.trim [a, b])
  have h3 := Pl.trim_length [a, b]
  simp only [List.length_cons, List.length_nil] at h3
  rw [tpw]
  omega
theorem k'no (p : List Int) (a b d : Int) (i l : Nat) (hi : i ≤ l) : (sfm p a b d i).length ≤ 1 + 2 * l := by
 induction i with
 | zero => simp [sfm]
 | succ i ih =>
  rw [sfm]
  refine Nat.le_trans (Pl.trim_length _) ?_
  rw [Pl.add_length]
  have h1 := Pl.trim_length (Pl.scl (cof p d i) (tpw a b i))
  rw [Pl.scl_length] at h1
  have h2 := k'nn a b i
  have h3 := ih (by omega)
  omega
theorem k'np {k : Nat} {a b : Int} (ha : a.natAbs < D9 ^ k) (hb : b.natAbs < D9 ^ k) : Sz k [a, b] := fun j => by
 match j with
 | 0 => exact ha
 | 1 => exact hb
 | j + 2 => rw [Pl.cf_ge (by simp)]; exact Nat.pow_pos (by decide)
theorem tp_sz {k : Nat} {a b : Int} (ha : a.natAbs < D9 ^ k) (hb : b.natAbs < D9 ^ k) (i : Nat) (hi : i ≤ 100) : Sz (1 + i * (k + 1)) (tpw a b i) := by
 induction i with
 | zero =>
  refine Sz.trim fun j => ?_
  match j with
  | 0 =>
   rw [show 1 + 0 * (k + 1) = 1 by omega]
   decide
  | j + 1 => rw [Pl.cf_ge (by simp)]; exact Nat.pow_pos (by decide)
 | succ i ih =>
  have h := (ih (by omega)).mul ((k'np ha hb).trim) (by have := k'nn a b i; omega)
  exact (h.mono (by rw [Nat.succ_mul]; omega)).trim
theorem k'nq {n m : Nat} {p : List Int} {d : Int} (s : Sz n p) (hd : d.natAbs < D9 ^ m) (i : Nat) : (cof p d i).natAbs < D9 ^ (n + (m * p.length + 1)) := by
 unfold cof
 rw [Int.natAbs_mul]
 refine mulD9 (s i) (Nat.lt_of_lt_of_le (pow9 hd) (Nat.pow_le_pow_right (by decide) ?_))
 have := Nat.mul_le_mul_left m (show p.length - 1 - i ≤ p.length by omega)
 omega
theorem k'nr {n m k : Nat} {p : List Int} {a b d : Int} (s : Sz n p) (hd : d.natAbs < D9 ^ m) (ha : a.natAbs < D9 ^ k) (hb : b.natAbs < D9 ^ k) (i : Nat) (hi : i ≤ p.length) (hl : p.length ≤ 100) :
 Sz (n + (m * p.length + 1) + (1 + p.length * (k + 1))) (Pl.trim (Pl.scl (cof p d i) (tpw a b i))) :=
 (((tp_sz ha hb i (by omega)).scl (k'nq s hd i)).mono (by have := Nat.mul_le_mul_right (k + 1) hi; omega)).trim
theorem k'ns {n m k : Nat} {p : List Int} {a b d : Int} (s : Sz n p) (hd : d.natAbs < D9 ^ m) (ha : a.natAbs < D9 ^ k) (hb : b.natAbs < D9 ^ k) (i : Nat) (hi : i ≤ p.length) (hl : p.length ≤ 100) :
 Sz (n + (m * p.length + 1) + (1 + p.length * (k + 1)) + i) (sfm p a b d i) := by
 induction i with
 | zero => exact Sz.nil _
 | succ i ih =>
  have h := (ih (by omega)).add (k'nr s hd ha hb i (by omega) hl)
  exact (h.mono (by omega)).trim
theorem k'nt (w : World) : Rn (w.alloc (.cells #[.int .i64 1] 3)) (.slice (some ⟨w.heap.size, 0, none⟩) 1 1) [1] :=
 ⟨_, w.heap.size, 0, 1, rfl, fun _ => rfl, fun k h => by
  obtain rfl : k = 0 := by simp at h; omega
  simp [go_sem]⟩
theorem k'nu (w : World) {va vb : Value} {a b : Int} (ha : Rz w va a) (hb : Rz w vb b) : RP (w.alloc (.cells #[.bool (decide (a < 0)), va, .bool (decide (b < 0)), vb] 52)) (.slice (some ⟨w.heap.size, 0, none⟩) 2 2) [a, b] :=
 ⟨_, w.heap.size, 0, 2, rfl, by simp, by unfold maxLen; omega, fun _ => rfl, fun k h => by
  match k, h with
  | 0, _ => exact ⟨va, by simp [go_sem], by simp [go_sem], ha.allocd _⟩
  | 1, _ => exact ⟨vb, by simp [go_sem], by simp [go_sem], hb.allocd _⟩
  | j + 2, h => simp at h; omega⟩
theorem k'nv (n m k : Nat) (p : List Int) (a b d : Int) (v va vb vd : Value) (w : World) (h : RP w v p) (ha : Rz w va a) (hb : Rz w vb b) (hd : Rz w vd d) (l : p.length ≤ 100) (s : Sz n p)
 (sa : a.natAbs < D9 ^ k) (sb : b.natAbs < D9 ^ k) (sd : d.natAbs < D9 ^ m) (hK : n + m * p.length + p.length * (k + 1) ≤ 30000) (hm : m ≤ 30000) (hk0 : k ≤ 30000) :
 Calls Tryz.prog 52 #[v, iV a va, iV b vb, iV d vd] w (RPPost (Pl.trim (Pl.comp a b (Pl.lev p d))) w) := by
 rw [← k'nl]
 have hml : ∀ j, j ≤ p.length → m * j ≤ 30000 := fun j hj => by have := Nat.mul_le_mul_left m hj; omega
 have hkl : ∀ j, j ≤ p.length → j * (k + 1) ≤ 30000 := fun j hj => by have := Nat.mul_le_mul_right (k + 1) hj; omega
 have HPw := i' (fun i (hi : i < p.length) w' (hb : Below w.heap.size w w') => k'mn (p.length - 1 - i) m (by omega) (by have := hml (p.length - 1 - i) (by omega); omega) (by omega) d sd vd w' (hd.below hb))
 have HMu := i' (fun i (hi : i < p.length) u1 u2 w' (g1 : Rz w' u1 (Pl.cf p i)) (g2 : Rz w' u2 (d ^ (p.length - 1 - i))) => show Calls Tryz.prog 83 #[iV (Pl.cf p i) u1, iV (d ^ (p.length - 1 - i)) u2] w' (IntPost (cof p d i) w') from k'7b (Pl.cf p i) _ u1 u2 w' g1 g2 (Nat.le_trans (s.len i) (by omega)) (Nat.le_trans (len9 (pow9 sd)) (by have := hml (p.length - 1 - i) (by omega); omega)))
 have HSc := i' (fun i (hi : i < p.length) u1 u2 w' (g1 : RP w' u1 (tpw a b i)) (g2 : Rz w' u2 (cof p d i)) => k'hw _ _ (by have := hkl i (by omega); omega) (by have := hml p.length (Nat.le_refl _); omega) (tpw a b i) (cof p d i) u1 u2 w' g1 g2 (by have := k'nn a b i; omega) (tp_sz sa sb i (by omega)) (k'nq s sd i))
 have HAd := i' (fun i (hi : i < p.length) u1 u2 w' (g1 : RP w' u1 (sfm p a b d i)) (g2 : RP w' u2 (Pl.trim (Pl.scl (cof p d i) (tpw a b i)))) => show Calls Tryz.prog 29 #[u1, u2] w' (RPPost (sfm p a b d (i + 1)) w') from
  k'hv (n + (m * p.length + 1) + (1 + p.length * (k + 1)) + i) (by omega) _ _ u1 u2 w' g1 g2 (by have := k'no p a b d i p.length (by omega); omega) (by have h5 := Pl.trim_length (Pl.scl (cof p d i) (tpw a b i)); rw [Pl.scl_length] at h5; have := k'nn a b i; omega) (k'ns s sd sa sb i (by omega) l) ((k'nr s sd sa sb i (by omega) l).mono (by omega)))
 have HMl := i' (fun i (hi : i < p.length) u1 u2 w' (g1 : RP w' u1 (tpw a b i)) (g2 : RP w' u2 (Pl.trim [a, b])) => show Calls Tryz.prog 28 #[u1, u2] w' (RPPost (tpw a b (i + 1)) w') from
  k'i2 _ k (by have := hkl i (by omega); omega) _ _ u1 u2 w' g1 g2 (by have := k'nn a b i; omega) (Nat.le_trans (Pl.trim_length _) (by simp)) (tp_sz sa sb i (by omega)) (k'np sa sb).trim)
 have HNm := i' (fun w' => show Calls Tryz.prog 23 #[.slice (some ⟨(w' : World).heap.size, 0, none⟩) 1 1] (w'.alloc (.cells #[.int .i64 1] 3)) (RPPost (tpw a b 0) (w'.alloc (.cells #[.int .i64 1] 3))) from k'ik [1] _ _ (k'nt w') (by simp) (fun x hx => by simp at hx; subst hx; decide))
 obtain ⟨T, hT⟩ : ∃ T : Nat → List Int, T = fun i => tpw a b i := ⟨_, rfl⟩
 have HTe : ∀ i, tpw a b i = T i := fun i => by rw [hT]
 obtain ⟨F, hF⟩ : ∃ F : Nat → List Int, F = fun i => sfm p a b d i := ⟨_, rfl⟩
 have HFe : ∀ i, sfm p a b d i = F i := fun i => by rw [hF]
 have F0 : Hid (F 0 = []) := by show _ = _; rw [hF]; rfl
 simp only [HTe, HFe] at HSc HAd HMl HNm ⊢
 obtain ⟨w0, hw0⟩ : ∃ w0 : World, w0 = ((w.alloc (.cells #[.bool (decide (a < 0)), va] 52)).alloc (.cells #[.bool (decide (b < 0)), vb] 52)).alloc (.cells #[.bool (decide (d < 0)), vd] 52) := ⟨_, rfl⟩
 have hb0 : Hid (Below w.heap.size w w0) := by rw [hw0]; exact ((k'56 _ _).alloc (by simp) _).alloc (by simp; omega) _
 have I1 : Hid (ZC (.bool (decide (a < 0))) va w0 w.heap.size) := by rw [hw0]; exact ((ZC.new rfl).alloc _).alloc _
 have I2 : Hid (ZC (.bool (decide (b < 0))) vb w0 (w.heap.size + 1)) := by rw [hw0]; exact (ZC.new (by simp)).alloc _
 have I3 : Hid (ZC (.bool (decide (d < 0))) vd w0 (w.heap.size + 1 + 1)) := by rw [hw0]; exact ZC.new (by simp)
 have HRa : Hid (Rz w0 va a) := ha.below hb0.out
 have HRb : Hid (Rz w0 vb b) := hb.below hb0.out
 have Hw0 := i' hw0
 clear hw0 HTe hT HFe hF s sa sb sd hK hm hk0 hml hkl
 obtain ⟨a1, b1, o1, c1, rfl, -, -, h4, h5⟩ := h
 have H4 := i' h4
 have H5 := i' h5
 obtain ⟨pa, bpa, oa, ca, hua, -⟩ := ha
 subst hua
 obtain ⟨pb, bpb, ob, cb, hub, -⟩ := hb
 subst hub
 obtain ⟨pd, bpd, od, cd, hud, -⟩ := hd
 subst hud
 obtain ⟨n1, hn1⟩ : ∃ n, n = p.length := ⟨_, rfl⟩
 have HN := i' hn1
 rw [← hn1] at HPw HMu l ⊢
 clear h4 h5 hn1
 unfold iV at HPw HMu ⊢
 generalize hla : (Nm.dg D9 a.natAbs).length = la at *
 generalize hlb : (Nm.dg D9 b.natAbs).length = lb at *
 generalize hld : (Nm.dg D9 d.natAbs).length = ld at *
 generalize decide (d < 0) = bd at *
 clear hla hlb hld
 go_enter Tryz.func52, Tryz.ntmps52
 go_upto_region 1 with (fail)
 rw [← Hw0.out]
 clear Hw0
 go_wp2_with fail
 refine (HNm.out _).mono ?_
 rintro en y1 ⟨v1, rfl, r1, b1'⟩
 have R1 := i' r1
 have D1 := i' (chain (k'56 w0 _) b1')
 clear r1 b1'
 go_wp2
 go_loopw [9, 10, 11] (fun sv tv iv wr => ∃ (wz : World) (i : Nat), wz = wr ∧ i ≤ n1 ∧ iv = .int .i64 (i : Int) ∧ Hid (RP wz sv (F i)) ∧ Hid (RP wz tv (T i)) ∧ Hid (Below w0.heap.size w0 wz))
  (fun _ _ iv _ => n1 - (intOf iv).toNat)
 case atStart => exact ⟨y1, 0, rfl, Nat.zero_le _, rfl, by rw [F0.out]; exact RP.nil _, R1.out, D1.out⟩
 case round =>
  clear R1 D1
  obtain ⟨wz, i, rfl, hi, rfl, hrs, hrt, hd⟩ := hrel
  have hi0 : (0 : Int) ≤ (i : Int) := by omega
  by_cases hlt : i < n1
  ·have hip : i < p.length := by have h5 : n1 = p.length := HN.out; omega
   have hii : (i : Int) < (n1 : Int) := by omega
   have hw0' : IntKind.i64.wrap ((n1 : Int) - 1) = (n1 : Int) - 1 := IntWalk.i64_in _ (by omega)
   have hw1 : IntKind.i64.wrap ((n1 : Int) - 1 - (i : Int)) = ((n1 - 1 - i : Nat) : Int) := by rw [IntWalk.i64_in _ (by omega)]; omega
   obtain rfl := H4.out (by intro e; rw [e] at hip; exact absurd hip (Nat.not_lt_zero _))
   obtain ⟨uk, g0, g1, g2⟩ := H5.out i hip
   rw [← Pl.cf_lt hip] at g0 g2
   have DW := i' (chain hb0.out hd.out)
   have d0 := keep1 DW.out g0
   have d1 := keep1 DW.out g1
   obtain ⟨d2, d3, -, -⟩ := I3.out.next hd.out
   have HPw := i' (fun w' (hb : Below wz.heap.size wz w') => HPw.out i hlt w' (chain DW.out hb))
   have HMu := i' (fun u2 w' (g : Rz w' u2 _) (hb : Below wz.heap.size wz w') => HMu.out i hlt uk u2 w' (g2.below (chain DW.out hb)) g)
   have HSc := i' (HSc.out i hip)
   have HAd := i' (HAd.out i hip)
   have HMl := i' (HMl.out i hip)
   generalize Pl.trim (Pl.scl (cof p d i) (T i)) = tm' at *
   generalize cof p d i = c at *
   generalize d ^ (n1 - 1 - i) = dp at *
   generalize Pl.cf p i = x at *
   obtain ⟨pk, bk, ok, ck, huk, -⟩ := g2
   subst huk
   unfold iV at HSc
   generalize (Nm.dg D9 x.natAbs).length = lx at *
   generalize decide (x < 0) = bx at *
   clear g0 g1 hip
   obtain ⟨as', bs, os, cs, rfl, -, -, -, -⟩ := hrs.out
   obtain ⟨at', bt, ot, ct, rfl, -, -, -, -⟩ := hrt.out
   generalize hls : (F i).length = ls at *
   generalize hlt' : (T i).length = lt' at *
   clear hls hlt'
   go_upto_region 6 with (fail)
   go_region_held3 (fun W' => W'.cell? ⟨b1, o1 + i * 2, none⟩ = some (.bool bx) ∧ W'.cell? ⟨b1, o1 + i * 2 + 1, none⟩ = some (.slice pk lx ck) ∧ W'.cell? ⟨w.heap.size + 1 + 1, 0, none⟩ = some (.bool bd) ∧ W'.cell? ⟨w.heap.size + 1 + 1, 1, none⟩ = some (.slice pd ld cd)) (go_keep)
    (first
     | (go_at_call 104; (with_reducible refine (HPw.out _ ((Below.refl _ _).drew)).mono ?_); rintro e y2 ⟨u2, rfl, r2, b2⟩; (try unfold iV); have D := i' (chain ((Below.refl wz.heap.size wz).drew) b2); have p0 := keep1 D.out d0; have p1 := keep1 D.out d1; have p2 := keep1 D.out d2; have p3 := keep1 D.out d3; have R2 := i' r2; clear r2 b2)
     | (go_at_call 83; (with_reducible refine (HMu.out _ _ R2.out D.out).mono ?_); rintro e y3 ⟨u3, rfl, r3, b3⟩; (try unfold iV); have D := i' (chain D.out b3); have p0 := keep1 D.out d0; have p1 := keep1 D.out d1; have p2 := keep1 D.out d2; have p3 := keep1 D.out d3; have R3 := i' r3; clear r3 b3)
     | (go_at_call 36; (with_reducible refine (HSc.out _ _ _ (hrt.out.below D.out) R3.out).mono ?_); rintro e y4 ⟨u4, rfl, r4, b4⟩; have D := i' (chain D.out b4); have p0 := keep1 D.out d0; have p1 := keep1 D.out d1; have p2 := keep1 D.out d2; have p3 := keep1 D.out d3; have R4 := i' r4; clear r4 b4)
     | (go_at_call 29; (with_reducible refine (HAd.out _ _ _ (hrs.out.below D.out) R4.out).mono ?_); rintro e y5 ⟨u5', rfl, r5, b5⟩; have D := i' (chain D.out b5); have p0 := keep1 D.out d0; have p1 := keep1 D.out d1; have p2 := keep1 D.out d2; have p3 := keep1 D.out d3; have R5 := i' r5; clear r5 b5)
     | fail)
   have D5 := i' (chain hd.out D.out)
   have HT5 := i' (hrt.out.below D.out)
   clear d0 d1 d2 d3 p0 p1 p2 p3
   obtain ⟨m0, m1, -, -⟩ := I1.out.next D5.out
   obtain ⟨m2, m3, -, -⟩ := I2.out.next D5.out
   have HTr := i' (k'dh _ [a, b] _ (k'nu y5 (HRa.out.below D5.out) (HRb.out.below D5.out)))
   go_wp2_with fail
   refine HTr.out.mono ?_
   rintro en y6 ⟨u6', rfl, r6, b6⟩
   have D6 := i' (chain (k'56 y5 _) b6)
   have R6 := i' r6
   clear r6 b6 m0 m1 m2 m3
   go_wp2_with fail
   refine (HMl.out _ _ _ (HT5.out.below D6.out) R6.out).mono ?_
   rintro en y7 ⟨u7', rfl, r7, b7⟩
   have R7 := i' r7
   have D7 := i' (chain D6.out b7)
   have R5' := i' (R5.out.below D7.out)
   have D8 := i' (chain D5.out D7.out)
   clear r7 b7
   go_wp2
   go_roundw
   case rel => exact ⟨_, i + 1, rfl, by omega, by go_num, R5'.out, R7.out, D8.out⟩
   case measure => simp [intOf]; omega
  ·obtain rfl : i = n1 := by omega
   have HB6 := i' (chain hb0.out hd.out)
   go_wp2
   go_ret
   exact ⟨_, rfl, hrs.out, HB6.out⟩
theorem k'nw (L : List (Bool × ByteArray)) (v : Value) (b1 b2 b3 : Bool) (s1 s2 s3 : ByteArray) (w : World) (h : Rw w v L) (z1 : s1.size ≤ 9223372036854775807) (z2 : s2.size ≤ 9223372036854775807) (z3 : s3.size ≤ 9223372036854775807)
 (HS : ∀ w', Below w.heap.size w w' → Calls Tryz.prog 11 #[.slice (some ⟨w'.heap.size, 0, none⟩) 1 1] (w'.alloc (.cells #[v] 23)) (BPost false w')) :
 Calls Tryz.prog 7 #[v, .agg #[.bool b1, .string s1], .agg #[.bool b2, .string s2], .agg #[.bool b3, .string s3]] w (Ret (.bool true) w) := by
 obtain ⟨w0, hw0⟩ : ∃ w0 : World, w0 = ((w.alloc (.cells #[.bool b1, .string s1] 44)).alloc (.cells #[.bool b2, .string s2] 44)).alloc (.cells #[.bool b3, .string s3] 44) := ⟨_, rfl⟩
 have I1 : Hid (ZC (.bool b1) (.string s1) w0 w.heap.size) := by rw [hw0]; exact ((ZC.new rfl).alloc _).alloc _
 have I2 : Hid (ZC (.bool b2) (.string s2) w0 (w.heap.size + 1)) := by rw [hw0]; exact (ZC.new (by simp)).alloc _
 have I3 : Hid (ZC (.bool b3) (.string s3) w0 (w.heap.size + 1 + 1)) := by rw [hw0]; exact ZC.new (by simp)
 have E : Hid (Below w.heap.size w w0) := by rw [hw0]; exact (((Below.refl _ _).alloc (Nat.le_refl _) _).alloc (by simp) _).alloc (by simp; omega) _
 have HK := i' k'l8
 have HS := i' HS
 obtain ⟨p1, a1, o1, c1, rfl, -, -, -, -⟩ := h
 generalize L.length = n1 at *
 clear z1 z2 z3
 unfold BPost at *
 unfold Ret at *
 go_enter Tryz.func7, Tryz.ntmps7
 go_upto_region 1 with (fail)
 rw [← hw0]
 clear hw0
 go_wp2_with fail
 refine (HS.out _ E.out).mono ?_
 rintro e x1 ⟨rfl, b1⟩
 have I1 := i' (I1.out.next b1)
 have I2 := i' (I2.out.next b1)
 have I3 := i' (I3.out.next b1)
 have E := i' (chain E.out b1)
 clear b1
 obtain ⟨k0, k1, _⟩ := I1.out
 obtain ⟨k2, k3, _⟩ := I2.out
 obtain ⟨k4, k5, _⟩ := I3.out
 go_wp2_with fail
 clear k0 k1 k2 k3 k4 k5
 refine (HK.out _).mono ?_
 rintro e x2 ⟨rfl, b2⟩
 have I1 := i' (I1.out.next b2)
 have I2 := i' (I2.out.next b2)
 have I3 := i' (I3.out.next b2)
 have E := i' (chain E.out b2)
 clear b2
 obtain ⟨k0, k1, _⟩ := I1.out
 obtain ⟨k2, k3, _⟩ := I2.out
 obtain ⟨k4, k5, _⟩ := I3.out
 go_wp2
 go_ret
 exact ⟨rfl, E.out⟩
theorem k'nx (L : List (Bool × ByteArray)) (v : Value) (b1 b2 b3 : Bool) (s1 s2 s3 : ByteArray) (w : World) (h : Rw w v L) (z1 : s1.size ≤ 9223372036854775807) (z2 : s2.size ≤ 9223372036854775807) (z3 : s3.size ≤ 9223372036854775807)
 (HS : ∀ w', Below w.heap.size w w' → Calls Tryz.prog 11 #[.slice (some ⟨w'.heap.size, 0, none⟩) 1 1] (w'.alloc (.cells #[v] 23)) (BPost true w'))
 (l1 : 16 < s1.size) :
 Calls Tryz.prog 7 #[v, .agg #[.bool b1, .string s1], .agg #[.bool b2, .string s2], .agg #[.bool b3, .string s3]] w (Ret (.bool true) w) := by
 obtain ⟨w0, hw0⟩ : ∃ w0 : World, w0 = ((w.alloc (.cells #[.bool b1, .string s1] 44)).alloc (.cells #[.bool b2, .string s2] 44)).alloc (.cells #[.bool b3, .string s3] 44) := ⟨_, rfl⟩
 have I1 : Hid (ZC (.bool b1) (.string s1) w0 w.heap.size) := by rw [hw0]; exact ((ZC.new rfl).alloc _).alloc _
 have I2 : Hid (ZC (.bool b2) (.string s2) w0 (w.heap.size + 1)) := by rw [hw0]; exact (ZC.new (by simp)).alloc _
 have I3 : Hid (ZC (.bool b3) (.string s3) w0 (w.heap.size + 1 + 1)) := by rw [hw0]; exact ZC.new (by simp)
 have E : Hid (Below w.heap.size w w0) := by rw [hw0]; exact (((Below.refl _ _).alloc (Nat.le_refl _) _).alloc (by simp) _).alloc (by simp; omega) _
 have HK := i' k'l8
 have HS := i' HS
 have f1 : (16 : Int) < (s1.size : Int) := by omega
 obtain ⟨p1, a1, o1, c1, rfl, -, -, -, -⟩ := h
 generalize L.length = n1 at *
 clear z1 z2 z3 l1
 unfold BPost at *
 unfold Ret at *
 go_enter Tryz.func7, Tryz.ntmps7
 go_upto_region 1 with (fail)
 rw [← hw0]
 clear hw0
 go_wp2_with fail
 refine (HS.out _ E.out).mono ?_
 rintro e x1 ⟨rfl, b1⟩
 have I1 := i' (I1.out.next b1)
 have I2 := i' (I2.out.next b1)
 have I3 := i' (I3.out.next b1)
 have E := i' (chain E.out b1)
 clear b1
 obtain ⟨k0, k1, _⟩ := I1.out
 obtain ⟨k2, k3, _⟩ := I2.out
 obtain ⟨k4, k5, _⟩ := I3.out
 go_wp2_with fail
 clear k0 k1 k2 k3 k4 k5
 refine (HK.out _).mono ?_
 rintro e x2 ⟨rfl, b2⟩
 have I1 := i' (I1.out.next b2)
 have I2 := i' (I2.out.next b2)
 have I3 := i' (I3.out.next b2)
 have E := i' (chain E.out b2)
 clear b2
 obtain ⟨k0, k1, _⟩ := I1.out
 obtain ⟨k2, k3, _⟩ := I2.out
 obtain ⟨k4, k5, _⟩ := I3.out
 go_wp2
 go_ret
 exact ⟨rfl, E.out⟩
theorem k'ny (L : List (Bool × ByteArray)) (v : Value) (b1 b2 b3 : Bool) (s1 s2 s3 : ByteArray) (w : World) (h : Rw w v L) (z1 : s1.size ≤ 9223372036854775807) (z2 : s2.size ≤ 9223372036854775807) (z3 : s3.size ≤ 9223372036854775807)
 (HS : ∀ w', Below w.heap.size w w' → Calls Tryz.prog 11 #[.slice (some ⟨w'.heap.size, 0, none⟩) 1 1] (w'.alloc (.cells #[v] 23)) (BPost true w'))
 (l1 : s1.size ≤ 16)
 (l2 : 16 < s2.size) :
 Calls Tryz.prog 7 #[v, .agg #[.bool b1, .string s1], .agg #[.bool b2, .string s2], .agg #[.bool b3, .string s3]] w (Ret (.bool true) w) := by
 obtain ⟨w0, hw0⟩ : ∃ w0 : World, w0 = ((w.alloc (.cells #[.bool b1, .string s1] 44)).alloc (.cells #[.bool b2, .string s2] 44)).alloc (.cells #[.bool b3, .string s3] 44) := ⟨_, rfl⟩
 have I1 : Hid (ZC (.bool b1) (.string s1) w0 w.heap.size) := by rw [hw0]; exact ((ZC.new rfl).alloc _).alloc _
 have I2 : Hid (ZC (.bool b2) (.string s2) w0 (w.heap.size + 1)) := by rw [hw0]; exact (ZC.new (by simp)).alloc _
 have I3 : Hid (ZC (.bool b3) (.string s3) w0 (w.heap.size + 1 + 1)) := by rw [hw0]; exact ZC.new (by simp)
 have E : Hid (Below w.heap.size w w0) := by rw [hw0]; exact (((Below.refl _ _).alloc (Nat.le_refl _) _).alloc (by simp) _).alloc (by simp; omega) _
 have HK := i' k'l8
 have HS := i' HS
 have f1 : ¬ (16 : Int) < (s1.size : Int) := by omega
 have f2 : (16 : Int) < (s2.size : Int) := by omega
 obtain ⟨p1, a1, o1, c1, rfl, -, -, -, -⟩ := h
 generalize L.length = n1 at *
 clear z1 z2 z3 l1 l2
 unfold BPost at *
 unfold Ret at *
 go_enter Tryz.func7, Tryz.ntmps7
 go_upto_region 1 with (fail)
 rw [← hw0]
 clear hw0
 go_wp2_with fail
 refine (HS.out _ E.out).mono ?_
 rintro e x1 ⟨rfl, b1⟩
 have I1 := i' (I1.out.next b1)
 have I2 := i' (I2.out.next b1)
 have I3 := i' (I3.out.next b1)
 have E := i' (chain E.out b1)
 clear b1
 obtain ⟨k0, k1, _⟩ := I1.out
 obtain ⟨k2, k3, _⟩ := I2.out
 obtain ⟨k4, k5, _⟩ := I3.out
 go_wp2_with fail
 clear k0 k1 k2 k3 k4 k5
 refine (HK.out _).mono ?_
 rintro e x2 ⟨rfl, b2⟩
 have I1 := i' (I1.out.next b2)
 have I2 := i' (I2.out.next b2)
 have I3 := i' (I3.out.next b2)
 have E := i' (chain E.out b2)
 clear b2
 obtain ⟨k0, k1, _⟩ := I1.out
 obtain ⟨k2, k3, _⟩ := I2.out
 obtain ⟨k4, k5, _⟩ := I3.out
 go_wp2
 go_ret
 exact ⟨rfl, E.out⟩
theorem k'nz (L : List (Bool × ByteArray)) (v : Value) (b1 b2 b3 : Bool) (s1 s2 s3 : ByteArray) (w : World) (h : Rw w v L) (z1 : s1.size ≤ 9223372036854775807) (z2 : s2.size ≤ 9223372036854775807) (z3 : s3.size ≤ 9223372036854775807)
 (HS : ∀ w', Below w.heap.size w w' → Calls Tryz.prog 11 #[.slice (some ⟨w'.heap.size, 0, none⟩) 1 1] (w'.alloc (.cells #[v] 23)) (BPost true w'))
 (l1 : s1.size ≤ 16)
 (l2 : s2.size ≤ 16)
 (l3 : 16 < s3.size) :
 Calls Tryz.prog 7 #[v, .agg #[.bool b1, .string s1], .agg #[.bool b2, .string s2], .agg #[.bool b3, .string s3]] w (Ret (.bool true) w) := by
 obtain ⟨w0, hw0⟩ : ∃ w0 : World, w0 = ((w.alloc (.cells #[.bool b1, .string s1] 44)).alloc (.cells #[.bool b2, .string s2] 44)).alloc (.cells #[.bool b3, .string s3] 44) := ⟨_, rfl⟩
 have I1 : Hid (ZC (.bool b1) (.string s1) w0 w.heap.size) := by rw [hw0]; exact ((ZC.new rfl).alloc _).alloc _
 have I2 : Hid (ZC (.bool b2) (.string s2) w0 (w.heap.size + 1)) := by rw [hw0]; exact (ZC.new (by simp)).alloc _
 have I3 : Hid (ZC (.bool b3) (.string s3) w0 (w.heap.size + 1 + 1)) := by rw [hw0]; exact ZC.new (by simp)
 have E : Hid (Below w.heap.size w w0) := by rw [hw0]; exact (((Below.refl _ _).alloc (Nat.le_refl _) _).alloc (by simp) _).alloc (by simp; omega) _
 have HK := i' k'l8
 have HS := i' HS
 have f1 : ¬ (16 : Int) < (s1.size : Int) := by omega
 have f2 : ¬ (16 : Int) < (s2.size : Int) := by omega
 have f3 : (16 : Int) < (s3.size : Int) := by omega
 obtain ⟨p1, a1, o1, c1, rfl, -, -, -, -⟩ := h
 generalize L.length = n1 at *
 clear z1 z2 z3 l1 l2 l3
 unfold BPost at *
 unfold Ret at *
 go_enter Tryz.func7, Tryz.ntmps7
 go_upto_region 1 with (fail)
 rw [← hw0]
 clear hw0
 go_wp2_with fail
 refine (HS.out _ E.out).mono ?_
 rintro e x1 ⟨rfl, b1⟩
 have I1 := i' (I1.out.next b1)
 have I2 := i' (I2.out.next b1)
 have I3 := i' (I3.out.next b1)
 have E := i' (chain E.out b1)
 clear b1
 obtain ⟨k0, k1, _⟩ := I1.out
 obtain ⟨k2, k3, _⟩ := I2.out
 obtain ⟨k4, k5, _⟩ := I3.out
 go_wp2_with fail
 clear k0 k1 k2 k3 k4 k5
 refine (HK.out _).mono ?_
 rintro e x2 ⟨rfl, b2⟩
 have I1 := i' (I1.out.next b2)
 have I2 := i' (I2.out.next b2)
 have I3 := i' (I3.out.next b2)
 have E := i' (chain E.out b2)
 clear b2
 obtain ⟨k0, k1, _⟩ := I1.out
 obtain ⟨k2, k3, _⟩ := I2.out
 obtain ⟨k4, k5, _⟩ := I3.out
 go_wp2
 go_ret
 exact ⟨rfl, E.out⟩
theorem k'o0 (L : List (Bool × ByteArray)) (v : Value) (b1 b2 b3 : Bool) (s1 s2 s3 : ByteArray) (w : World) (h : Rw w v L) (z1 : s1.size ≤ 9223372036854775807) (z2 : s2.size ≤ 9223372036854775807) (z3 : s3.size ≤ 9223372036854775807)
 (HS : ∀ w', Below w.heap.size w w' → Calls Tryz.prog 11 #[.slice (some ⟨w'.heap.size, 0, none⟩) 1 1] (w'.alloc (.cells #[v] 23)) (BPost true w'))
 (l1 : s1.size ≤ 16)
 (l2 : s2.size ≤ 16)
 (l3 : s3.size ≤ 16)
 (HA : ∀ w', Below w.heap.size w w' → Calls Tryz.prog 51 #[v, .agg #[.bool b1, .string s1], .agg #[.bool b2, .string s2], .agg #[.bool b3, .string s3]] w' (ResE 2 w'))
 (HV : ∀ w', Below w.heap.size w w' → Calls Tryz.prog 19 #[.slice (some ⟨w'.heap.size, 0, none⟩) 1 1] (w'.alloc (.cells #[v] 23)) (BPost false w')) :
 Calls Tryz.prog 7 #[v, .agg #[.bool b1, .string s1], .agg #[.bool b2, .string s2], .agg #[.bool b3, .string s3]] w (Ret (.bool true) w) := by
 obtain ⟨w0, hw0⟩ : ∃ w0 : World, w0 = ((w.alloc (.cells #[.bool b1, .string s1] 44)).alloc (.cells #[.bool b2, .string s2] 44)).alloc (.cells #[.bool b3, .string s3] 44) := ⟨_, rfl⟩
 have I1 : Hid (ZC (.bool b1) (.string s1) w0 w.heap.size) := by rw [hw0]; exact ((ZC.new rfl).alloc _).alloc _
 have I2 : Hid (ZC (.bool b2) (.string s2) w0 (w.heap.size + 1)) := by rw [hw0]; exact (ZC.new (by simp)).alloc _
 have I3 : Hid (ZC (.bool b3) (.string s3) w0 (w.heap.size + 1 + 1)) := by rw [hw0]; exact ZC.new (by simp)
 have E : Hid (Below w.heap.size w w0) := by rw [hw0]; exact (((Below.refl _ _).alloc (Nat.le_refl _) _).alloc (by simp) _).alloc (by simp; omega) _
 have HK := i' k'l8
 have HS := i' HS
 have HA := i' HA
 have HV := i' HV
 have f1 : ¬ (16 : Int) < (s1.size : Int) := by omega
 have f2 : ¬ (16 : Int) < (s2.size : Int) := by omega
 have f3 : ¬ (16 : Int) < (s3.size : Int) := by omega
 obtain ⟨p1, a1, o1, c1, rfl, -, -, -, -⟩ := h
 generalize L.length = n1 at *
 clear z1 z2 z3 l1 l2 l3
 unfold ResE at *
 unfold BPost at *
 unfold Ret at *
 go_enter Tryz.func7, Tryz.ntmps7
 go_upto_region 1 with (fail)
 rw [← hw0]
 clear hw0
 go_wp2_with fail
 refine (HS.out _ E.out).mono ?_
 rintro e x1 ⟨rfl, b1⟩
 have I1 := i' (I1.out.next b1)
 have I2 := i' (I2.out.next b1)
 have I3 := i' (I3.out.next b1)
 have E := i' (chain E.out b1)
 clear b1
 obtain ⟨k0, k1, _⟩ := I1.out
 obtain ⟨k2, k3, _⟩ := I2.out
 obtain ⟨k4, k5, _⟩ := I3.out
 go_wp2_with fail
 clear k0 k1 k2 k3 k4 k5
 refine (HA.out _ E.out).mono ?_
 rintro e x2 ⟨rfl, b2⟩
 have I1 := i' (I1.out.next b2)
 have I2 := i' (I2.out.next b2)
 have I3 := i' (I3.out.next b2)
 have E := i' (chain E.out b2)
 clear b2
 obtain ⟨k0, k1, _⟩ := I1.out
 obtain ⟨k2, k3, _⟩ := I2.out
 obtain ⟨k4, k5, _⟩ := I3.out
 go_wp2_with fail
 clear k0 k1 k2 k3 k4 k5
 refine (HV.out _ E.out).mono ?_
 rintro e x3 ⟨rfl, b3⟩
 have I1 := i' (I1.out.next b3)
 have I2 := i' (I2.out.next b3)
 have I3 := i' (I3.out.next b3)
 have E := i' (chain E.out b3)
 clear b3
 obtain ⟨k0, k1, _⟩ := I1.out
 obtain ⟨k2, k3, _⟩ := I2.out
 obtain ⟨k4, k5, _⟩ := I3.out
 go_wp2_with fail
 clear k0 k1 k2 k3 k4 k5
 refine (HK.out _).mono ?_
 rintro e x4 ⟨rfl, b4⟩
 have I1 := i' (I1.out.next b4)
 have I2 := i' (I2.out.next b4)
 have I3 := i' (I3.out.next b4)
 have E := i' (chain E.out b4)
 clear b4
 obtain ⟨k0, k1, _⟩ := I1.out
 obtain ⟨k2, k3, _⟩ := I2.out
 obtain ⟨k4, k5, _⟩ := I3.out
 go_wp2
 go_ret
 exact ⟨rfl, E.out⟩
theorem k'o1 (L : List (Bool × ByteArray)) (v : Value) (b1 b2 b3 : Bool) (s1 s2 s3 : ByteArray) (w : World) (h : Rw w v L) (z1 : s1.size ≤ 9223372036854775807) (z2 : s2.size ≤ 9223372036854775807) (z3 : s3.size ≤ 9223372036854775807)
 (HS : ∀ w', Below w.heap.size w w' → Calls Tryz.prog 11 #[.slice (some ⟨w'.heap.size, 0, none⟩) 1 1] (w'.alloc (.cells #[v] 23)) (BPost true w'))
 (l1 : s1.size ≤ 16)
 (l2 : s2.size ≤ 16)
 (l3 : s3.size ≤ 16)
 (HA : ∀ w', Below w.heap.size w w' → Calls Tryz.prog 51 #[v, .agg #[.bool b1, .string s1], .agg #[.bool b2, .string s2], .agg #[.bool b3, .string s3]] w' (ResE 2 w'))
 (HV : ∀ w', Below w.heap.size w w' → Calls Tryz.prog 19 #[.slice (some ⟨w'.heap.size, 0, none⟩) 1 1] (w'.alloc (.cells #[v] 23)) (BPost true w'))
 (HW1 : ∀ w', Calls Tryz.prog 35 #[.agg #[.bool b1, .string s1]] w' (BPost false w')) :
 Calls Tryz.prog 7 #[v, .agg #[.bool b1, .string s1], .agg #[.bool b2, .string s2], .agg #[.bool b3, .string s3]] w (Ret (.bool true) w) := by
 obtain ⟨w0, hw0⟩ : ∃ w0 : World, w0 = ((w.alloc (.cells #[.bool b1, .string s1] 44)).alloc (.cells #[.bool b2, .string s2] 44)).alloc (.cells #[.bool b3, .string s3] 44) := ⟨_, rfl⟩
 have I1 : Hid (ZC (.bool b1) (.string s1) w0 w.heap.size) := by rw [hw0]; exact ((ZC.new rfl).alloc _).alloc _
 have I2 : Hid (ZC (.bool b2) (.string s2) w0 (w.heap.size + 1)) := by rw [hw0]; exact (ZC.new (by simp)).alloc _
 have I3 : Hid (ZC (.bool b3) (.string s3) w0 (w.heap.size + 1 + 1)) := by rw [hw0]; exact ZC.new (by simp)
 have E : Hid (Below w.heap.size w w0) := by rw [hw0]; exact (((Below.refl _ _).alloc (Nat.le_refl _) _).alloc (by simp) _).alloc (by simp; omega) _
 have HK := i' k'l8
 have HS := i' HS
 have HA := i' HA
 have HV := i' HV
 have HW1 := i' HW1
 have f1 : ¬ (16 : Int) < (s1.size : Int) := by omega
 have f2 : ¬ (16 : Int) < (s2.size : Int) := by omega
 have f3 : ¬ (16 : Int) < (s3.size : Int) := by omega
 obtain ⟨p1, a1, o1, c1, rfl, -, -, -, -⟩ := h
 generalize L.length = n1 at *
 clear z1 z2 z3 l1 l2 l3
 unfold ResE at *
 unfold BPost at *
 unfold Ret at *
 go_enter Tryz.func7, Tryz.ntmps7
 go_upto_region 1 with (fail)
 rw [← hw0]
 clear hw0
 go_wp2_with fail
 refine (HS.out _ E.out).mono ?_
 rintro e x1 ⟨rfl, b1⟩
 have I1 := i' (I1.out.next b1)
 have I2 := i' (I2.out.next b1)
 have I3 := i' (I3.out.next b1)
 have E := i' (chain E.out b1)
 clear b1
 obtain ⟨k0, k1, _⟩ := I1.out
 obtain ⟨k2, k3, _⟩ := I2.out
 obtain ⟨k4, k5, _⟩ := I3.out
 go_wp2_with fail
 clear k0 k1 k2 k3 k4 k5
 refine (HA.out _ E.out).mono ?_
 rintro e x2 ⟨rfl, b2⟩
 have I1 := i' (I1.out.next b2)
 have I2 := i' (I2.out.next b2)
 have I3 := i' (I3.out.next b2)
 have E := i' (chain E.out b2)
 clear b2
 obtain ⟨k0, k1, _⟩ := I1.out
 obtain ⟨k2, k3, _⟩ := I2.out
 obtain ⟨k4, k5, _⟩ := I3.out
 go_wp2_with fail
 clear k0 k1 k2 k3 k4 k5
 refine (HV.out _ E.out).mono ?_
 rintro e x3 ⟨rfl, b3⟩
 have I1 := i' (I1.out.next b3)
 have I2 := i' (I2.out.next b3)
 have I3 := i' (I3.out.next b3)
 have E := i' (chain E.out b3)
 clear b3
 obtain ⟨k0, k1, _⟩ := I1.out
 obtain ⟨k2, k3, _⟩ := I2.out
 obtain ⟨k4, k5, _⟩ := I3.out
 go_wp2_with fail
 clear k0 k1 k2 k3 k4 k5
 refine (HW1.out _).mono ?_
 rintro e x4 ⟨rfl, b4⟩
 have I1 := i' (I1.out.next b4)
 have I2 := i' (I2.out.next b4)
 have I3 := i' (I3.out.next b4)
 have E := i' (chain E.out b4)
 clear b4
 obtain ⟨k0, k1, _⟩ := I1.out
 obtain ⟨k2, k3, _⟩ := I2.out
 obtain ⟨k4, k5, _⟩ := I3.out
 go_wp2_with fail
 clear k0 k1 k2 k3 k4 k5
 refine (HK.out _).mono ?_
 rintro e x5 ⟨rfl, b5⟩
 have I1 := i' (I1.out.next b5)
 have I2 := i' (I2.out.next b5)
 have I3 := i' (I3.out.next b5)
 have E := i' (chain E.out b5)
 clear b5
 obtain ⟨k0, k1, _⟩ := I1.out
 obtain ⟨k2, k3, _⟩ := I2.out
 obtain ⟨k4, k5, _⟩ := I3.out
 go_wp2
 go_ret
 exact ⟨rfl, E.out⟩
theorem k'o2 (L : List (Bool × ByteArray)) (v : Value) (b1 b2 b3 : Bool) (s1 s2 s3 : ByteArray) (w : World) (h : Rw w v L) (z1 : s1.size ≤ 9223372036854775807) (z2 : s2.size ≤ 9223372036854775807) (z3 : s3.size ≤ 9223372036854775807)
 (HS : ∀ w', Below w.heap.size w w' → Calls Tryz.prog 11 #[.slice (some ⟨w'.heap.size, 0, none⟩) 1 1] (w'.alloc (.cells #[v] 23)) (BPost true w'))
 (l1 : s1.size ≤ 16)
 (l2 : s2.size ≤ 16)
 (l3 : s3.size ≤ 16)
 (HA : ∀ w', Below w.heap.size w w' → Calls Tryz.prog 51 #[v, .agg #[.bool b1, .string s1], .agg #[.bool b2, .string s2], .agg #[.bool b3, .string s3]] w' (ResE 2 w'))
 (HV : ∀ w', Below w.heap.size w w' → Calls Tryz.prog 19 #[.slice (some ⟨w'.heap.size, 0, none⟩) 1 1] (w'.alloc (.cells #[v] 23)) (BPost true w'))
 (HW1 : ∀ w', Calls Tryz.prog 35 #[.agg #[.bool b1, .string s1]] w' (BPost true w'))
 (HW2 : ∀ w', Calls Tryz.prog 35 #[.agg #[.bool b2, .string s2]] w' (BPost false w')) :
 Calls Tryz.prog 7 #[v, .agg #[.bool b1, .string s1], .agg #[.bool b2, .string s2], .agg #[.bool b3, .string s3]] w (Ret (.bool true) w) := by
 obtain ⟨w0, hw0⟩ : ∃ w0 : World, w0 = ((w.alloc (.cells #[.bool b1, .string s1] 44)).alloc (.cells #[.bool b2, .string s2] 44)).alloc (.cells #[.bool b3, .string s3] 44) := ⟨_, rfl⟩
 have I1 : Hid (ZC (.bool b1) (.string s1) w0 w.heap.size) := by rw [hw0]; exact ((ZC.new rfl).alloc _).alloc _
 have I2 : Hid (ZC (.bool b2) (.string s2) w0 (w.heap.size + 1)) := by rw [hw0]; exact (ZC.new (by simp)).alloc _
 have I3 : Hid (ZC (.bool b3) (.string s3) w0 (w.heap.size + 1 + 1)) := by rw [hw0]; exact ZC.new (by simp)
 have E : Hid (Below w.heap.size w w0) := by rw [hw0]; exact (((Below.refl _ _).alloc (Nat.le_refl _) _).alloc (by simp) _).alloc (by simp; omega) _
 have HK := i' k'l8
 have HS := i' HS
 have HA := i' HA
 have HV := i' HV
 have HW1 := i' HW1
 have HW2 := i' HW2
 have f1 : ¬ (16 : Int) < (s1.size : Int) := by omega
 have f2 : ¬ (16 : Int) < (s2.size : Int) := by omega
 have f3 : ¬ (16 : Int) < (s3.size : Int) := by omega
 obtain ⟨p1, a1, o1, c1, rfl, -, -, -, -⟩ := h
 generalize L.length = n1 at *
 clear z1 z2 z3 l1 l2 l3
 unfold ResE at *
 unfold BPost at *
 unfold Ret at *
 go_enter Tryz.func7, Tryz.ntmps7
 go_upto_region 1 with (fail)
 rw [← hw0]
 clear hw0
 go_wp2_with fail
 refine (HS.out _ E.out).mono ?_
 rintro e x1 ⟨rfl, b1⟩
 have I1 := i' (I1.out.next b1)
 have I2 := i' (I2.out.next b1)
 have I3 := i' (I3.out.next b1)
 have E := i' (chain E.out b1)
 clear b1
 obtain ⟨k0, k1, _⟩ := I1.out
 obtain ⟨k2, k3, _⟩ := I2.out
 obtain ⟨k4, k5, _⟩ := I3.out
 go_wp2_with fail
 clear k0 k1 k2 k3 k4 k5
 refine (HA.out _ E.out).mono ?_
 rintro e x2 ⟨rfl, b2⟩
 have I1 := i' (I1.out.next b2)
 have I2 := i' (I2.out.next b2)
 have I3 := i' (I3.out.next b2)
 have E := i' (chain E.out b2)
 clear b2
 obtain ⟨k0, k1, _⟩ := I1.out
 obtain ⟨k2, k3, _⟩ := I2.out
 obtain ⟨k4, k5, _⟩ := I3.out
 go_wp2_with fail
 clear k0 k1 k2 k3 k4 k5
 refine (HV.out _ E.out).mono ?_
 rintro e x3 ⟨rfl, b3⟩
 have I1 := i' (I1.out.next b3)
 have I2 := i' (I2.out.next b3)
 have I3 := i' (I3.out.next b3)
 have E := i' (chain E.out b3)
 clear b3
 obtain ⟨k0, k1, _⟩ := I1.out
 obtain ⟨k2, k3, _⟩ := I2.out
 obtain ⟨k4, k5, _⟩ := I3.out
 go_wp2_with fail
 clear k0 k1 k2 k3 k4 k5
 refine (HW1.out _).mono ?_
 rintro e x4 ⟨rfl, b4⟩
 have I1 := i' (I1.out.next b4)
 have I2 := i' (I2.out.next b4)
 have I3 := i' (I3.out.next b4)
 have E := i' (chain E.out b4)
 clear b4
 obtain ⟨k0, k1, _⟩ := I1.out
 obtain ⟨k2, k3, _⟩ := I2.out
 obtain ⟨k4, k5, _⟩ := I3.out
 go_wp2_with fail
 clear k0 k1 k2 k3 k4 k5
 refine (HW2.out _).mono ?_
 rintro e x5 ⟨rfl, b5⟩
 have I1 := i' (I1.out.next b5)
 have I2 := i' (I2.out.next b5)
 have I3 := i' (I3.out.next b5)
 have E := i' (chain E.out b5)
 clear b5
 obtain ⟨k0, k1, _⟩ := I1.out
 obtain ⟨k2, k3, _⟩ := I2.out
 obtain ⟨k4, k5, _⟩ := I3.out
 go_wp2_with fail
 clear k0 k1 k2 k3 k4 k5
 refine (HK.out _).mono ?_
 rintro e x6 ⟨rfl, b6⟩
 have I1 := i' (I1.out.next b6)
 have I2 := i' (I2.out.next b6)
 have I3 := i' (I3.out.next b6)
 have E := i' (chain E.out b6)
 clear b6
 obtain ⟨k0, k1, _⟩ := I1.out
 obtain ⟨k2, k3, _⟩ := I2.out
 obtain ⟨k4, k5, _⟩ := I3.out
 go_wp2
 go_ret
 exact ⟨rfl, E.out⟩
theorem k'o3 (L : List (Bool × ByteArray)) (v : Value) (b1 b2 b3 : Bool) (s1 s2 s3 : ByteArray) (w : World) (h : Rw w v L) (z1 : s1.size ≤ 9223372036854775807) (z2 : s2.size ≤ 9223372036854775807) (z3 : s3.size ≤ 9223372036854775807)
 (HS : ∀ w', Below w.heap.size w w' → Calls Tryz.prog 11 #[.slice (some ⟨w'.heap.size, 0, none⟩) 1 1] (w'.alloc (.cells #[v] 23)) (BPost true w'))
 (l1 : s1.size ≤ 16)
 (l2 : s2.size ≤ 16)
 (l3 : s3.size ≤ 16)
 (HA : ∀ w', Below w.heap.size w w' → Calls Tryz.prog 51 #[v, .agg #[.bool b1, .string s1], .agg #[.bool b2, .string s2], .agg #[.bool b3, .string s3]] w' (ResE 2 w'))
 (HV : ∀ w', Below w.heap.size w w' → Calls Tryz.prog 19 #[.slice (some ⟨w'.heap.size, 0, none⟩) 1 1] (w'.alloc (.cells #[v] 23)) (BPost true w'))
 (HW1 : ∀ w', Calls Tryz.prog 35 #[.agg #[.bool b1, .string s1]] w' (BPost true w'))
 (HW2 : ∀ w', Calls Tryz.prog 35 #[.agg #[.bool b2, .string s2]] w' (BPost true w'))
 (HW3 : ∀ w', Calls Tryz.prog 35 #[.agg #[.bool b3, .string s3]] w' (BPost false w')) :
 Calls Tryz.prog 7 #[v, .agg #[.bool b1, .string s1], .agg #[.bool b2, .string s2], .agg #[.bool b3, .string s3]] w (Ret (.bool true) w) := by
 obtain ⟨w0, hw0⟩ : ∃ w0 : World, w0 = ((w.alloc (.cells #[.bool b1, .string s1] 44)).alloc (.cells #[.bool b2, .string s2] 44)).alloc (.cells #[.bool b3, .string s3] 44) := ⟨_, rfl⟩
 have I1 : Hid (ZC (.bool b1) (.string s1) w0 w.heap.size) := by rw [hw0]; exact ((ZC.new rfl).alloc _).alloc _
 have I2 : Hid (ZC (.bool b2) (.string s2) w0 (w.heap.size + 1)) := by rw [hw0]; exact (ZC.new (by simp)).alloc _
 have I3 : Hid (ZC (.bool b3) (.string s3) w0 (w.heap.size + 1 + 1)) := by rw [hw0]; exact ZC.new (by simp)
 have E : Hid (Below w.heap.size w w0) := by rw [hw0]; exact (((Below.refl _ _).alloc (Nat.le_refl _) _).alloc (by simp) _).alloc (by simp; omega) _
 have HK := i' k'l8
 have HS := i' HS
 have HA := i' HA
 have HV := i' HV
 have HW1 := i' HW1
 have HW2 := i' HW2
 have HW3 := i' HW3
 have f1 : ¬ (16 : Int) < (s1.size : Int) := by omega
 have f2 : ¬ (16 : Int) < (s2.size : Int) := by omega
 have f3 : ¬ (16 : Int) < (s3.size : Int) := by omega
 obtain ⟨p1, a1, o1, c1, rfl, -, -, -, -⟩ := h
 generalize L.length = n1 at *
 clear z1 z2 z3 l1 l2 l3
 unfold ResE at *
 unfold BPost at *
 unfold Ret at *
 go_enter Tryz.func7, Tryz.ntmps7
 go_upto_region 1 with (fail)
 rw [← hw0]
 clear hw0
 go_wp2_with fail
 refine (HS.out _ E.out).mono ?_
 rintro e x1 ⟨rfl, b1⟩
 have I1 := i' (I1.out.next b1)
 have I2 := i' (I2.out.next b1)
 have I3 := i' (I3.out.next b1)
 have E := i' (chain E.out b1)
 clear b1
 obtain ⟨k0, k1, _⟩ := I1.out
 obtain ⟨k2, k3, _⟩ := I2.out
 obtain ⟨k4, k5, _⟩ := I3.out
 go_wp2_with fail
 clear k0 k1 k2 k3 k4 k5
 refine (HA.out _ E.out).mono ?_
 rintro e x2 ⟨rfl, b2⟩
 have I1 := i' (I1.out.next b2)
 have I2 := i' (I2.out.next b2)
 have I3 := i' (I3.out.next b2)
 have E := i' (chain E.out b2)
 clear b2
 obtain ⟨k0, k1, _⟩ := I1.out
 obtain ⟨k2, k3, _⟩ := I2.out
 obtain ⟨k4, k5, _⟩ := I3.out
 go_wp2_with fail
 clear k0 k1 k2 k3 k4 k5
 refine (HV.out _ E.out).mono ?_
 rintro e x3 ⟨rfl, b3⟩
 have I1 := i' (I1.out.next b3)
 have I2 := i' (I2.out.next b3)
 have I3 := i' (I3.out.next b3)
 have E := i' (chain E.out b3)
 clear b3
 obtain ⟨k0, k1, _⟩ := I1.out
 obtain ⟨k2, k3, _⟩ := I2.out
 obtain ⟨k4, k5, _⟩ := I3.out
 go_wp2_with fail
 clear k0 k1 k2 k3 k4 k5
 refine (HW1.out _).mono ?_
 rintro e x4 ⟨rfl, b4⟩
 have I1 := i' (I1.out.next b4)
 have I2 := i' (I2.out.next b4)
 have I3 := i' (I3.out.next b4)
 have E := i' (chain E.out b4)
 clear b4
 obtain ⟨k0, k1, _⟩ := I1.out
 obtain ⟨k2, k3, _⟩ := I2.out
 obtain ⟨k4, k5, _⟩ := I3.out
 go_wp2_with fail
 clear k0 k1 k2 k3 k4 k5
 refine (HW2.out _).mono ?_
 rintro e x5 ⟨rfl, b5⟩
 have I1 := i' (I1.out.next b5)
 have I2 := i' (I2.out.next b5)
 have I3 := i' (I3.out.next b5)
 have E := i' (chain E.out b5)
 clear b5
 obtain ⟨k0, k1, _⟩ := I1.out
 obtain ⟨k2, k3, _⟩ := I2.out
 obtain ⟨k4, k5, _⟩ := I3.out
 go_wp2_with fail
 clear k0 k1 k2 k3 k4 k5
 refine (HW3.out _).mono ?_
 rintro e x6 ⟨rfl, b6⟩
 have I1 := i' (I1.out.next b6)
 have I2 := i' (I2.out.next b6)
 have I3 := i' (I3.out.next b6)
 have E := i' (chain E.out b6)
 clear b6
 obtain ⟨k0, k1, _⟩ := I1.out
 obtain ⟨k2, k3, _⟩ := I2.out
 obtain ⟨k4, k5, _⟩ := I3.out
 go_wp2_with fail
 clear k0 k1 k2 k3 k4 k5
 refine (HK.out _).mono ?_
 rintro e x7 ⟨rfl, b7⟩
 have I1 := i' (I1.out.next b7)
 have I2 := i' (I2.out.next b7)
 have I3 := i' (I3.out.next b7)
 have E := i' (chain E.out b7)
 clear b7
 obtain ⟨k0, k1, _⟩ := I1.out
 obtain ⟨k2, k3, _⟩ := I2.out
 obtain ⟨k4, k5, _⟩ := I3.out
 go_wp2
 go_ret
 exact ⟨rfl, E.out⟩
theorem k'o4 (L : List (Bool × ByteArray)) (a b d g : Int) (v : Value) (b1 b2 b3 : Bool) (s1 s2 s3 : ByteArray) (w : World) (h : Rw w v L) (z1 : s1.size ≤ 9223372036854775807) (z2 : s2.size ≤ 9223372036854775807) (z3 : s3.size ≤ 9223372036854775807)
 (HS : ∀ w', Below w.heap.size w w' → Calls Tryz.prog 11 #[.slice (some ⟨w'.heap.size, 0, none⟩) 1 1] (w'.alloc (.cells #[v] 23)) (BPost true w'))
 (l1 : s1.size ≤ 16)
 (l2 : s2.size ≤ 16)
 (l3 : s3.size ≤ 16)
 (HA : ∀ w', Below w.heap.size w w' → Calls Tryz.prog 51 #[v, .agg #[.bool b1, .string s1], .agg #[.bool b2, .string s2], .agg #[.bool b3, .string s3]] w' (ResE 3 w'))
 (HV : ∀ w', Below w.heap.size w w' → Calls Tryz.prog 19 #[.slice (some ⟨w'.heap.size, 0, none⟩) 1 1] (w'.alloc (.cells #[v] 23)) (BPost true w'))
 (HW1 : ∀ w', Calls Tryz.prog 35 #[.agg #[.bool b1, .string s1]] w' (BPost true w'))
 (HW2 : ∀ w', Calls Tryz.prog 35 #[.agg #[.bool b2, .string s2]] w' (BPost true w'))
 (HW3 : ∀ w', Calls Tryz.prog 35 #[.agg #[.bool b3, .string s3]] w' (BPost true w'))
 (HG3 : ∀ w', Calls Tryz.prog 37 #[.agg #[.bool b3, .string s3]] w' (IntPost d w'))
 (HSg : ∀ u w', Rz w' u d → Calls Tryz.prog 50 #[iV d u] w' (SignPost g w'))
 (hg : g ≤ 0) :
 Calls Tryz.prog 7 #[v, .agg #[.bool b1, .string s1], .agg #[.bool b2, .string s2], .agg #[.bool b3, .string s3]] w (Ret (.bool true) w) := by
 obtain ⟨w0, hw0⟩ : ∃ w0 : World, w0 = ((w.alloc (.cells #[.bool b1, .string s1] 44)).alloc (.cells #[.bool b2, .string s2] 44)).alloc (.cells #[.bool b3, .string s3] 44) := ⟨_, rfl⟩
 have I1 : Hid (ZC (.bool b1) (.string s1) w0 w.heap.size) := by rw [hw0]; exact ((ZC.new rfl).alloc _).alloc _
 have I2 : Hid (ZC (.bool b2) (.string s2) w0 (w.heap.size + 1)) := by rw [hw0]; exact (ZC.new (by simp)).alloc _
 have I3 : Hid (ZC (.bool b3) (.string s3) w0 (w.heap.size + 1 + 1)) := by rw [hw0]; exact ZC.new (by simp)
 have E : Hid (Below w.heap.size w w0) := by rw [hw0]; exact (((Below.refl _ _).alloc (Nat.le_refl _) _).alloc (by simp) _).alloc (by simp; omega) _
 have HK := i' k'l8
 have HS := i' HS
 have HA := i' HA
 have HV := i' HV
 have HW1 := i' HW1
 have HW2 := i' HW2
 have HW3 := i' HW3
 have HG3 := i' HG3
 have HSg := i' HSg
 have f1 : ¬ (16 : Int) < (s1.size : Int) := by omega
 have f2 : ¬ (16 : Int) < (s2.size : Int) := by omega
 have f3 : ¬ (16 : Int) < (s3.size : Int) := by omega
 have fg : (g ≤ 0) := hg
 obtain ⟨p1, a1, o1, c1, rfl, -, -, -, -⟩ := h
 generalize L.length = n1 at *
 clear z1 z2 z3 l1 l2 l3 hg
 unfold ResE at *
 unfold IntPost iV SignPost at *
 unfold BPost at *
 unfold Ret at *
 go_enter Tryz.func7, Tryz.ntmps7
 go_upto_region 1 with (fail)
 rw [← hw0]
 clear hw0
 go_wp2_with fail
 refine (HS.out _ E.out).mono ?_
 rintro e x1 ⟨rfl, b1⟩
 have I1 := i' (I1.out.next b1)
 have I2 := i' (I2.out.next b1)
 have I3 := i' (I3.out.next b1)
 have E := i' (chain E.out b1)
 clear b1
 obtain ⟨k0, k1, _⟩ := I1.out
 obtain ⟨k2, k3, _⟩ := I2.out
 obtain ⟨k4, k5, _⟩ := I3.out
 go_wp2_with fail
 clear k0 k1 k2 k3 k4 k5
 refine (HA.out _ E.out).mono ?_
 rintro e x2 ⟨rfl, b2⟩
 have I1 := i' (I1.out.next b2)
 have I2 := i' (I2.out.next b2)
 have I3 := i' (I3.out.next b2)
 have E := i' (chain E.out b2)
 clear b2
 obtain ⟨k0, k1, _⟩ := I1.out
 obtain ⟨k2, k3, _⟩ := I2.out
 obtain ⟨k4, k5, _⟩ := I3.out
 go_wp2_with fail
 clear k0 k1 k2 k3 k4 k5
 refine (HV.out _ E.out).mono ?_
 rintro e x3 ⟨rfl, b3⟩
 have I1 := i' (I1.out.next b3)
 have I2 := i' (I2.out.next b3)
 have I3 := i' (I3.out.next b3)
 have E := i' (chain E.out b3)
 clear b3
 obtain ⟨k0, k1, _⟩ := I1.out
 obtain ⟨k2, k3, _⟩ := I2.out
 obtain ⟨k4, k5, _⟩ := I3.out
 go_wp2_with fail
 clear k0 k1 k2 k3 k4 k5
 refine (HW1.out _).mono ?_
 rintro e x4 ⟨rfl, b4⟩
 have I1 := i' (I1.out.next b4)
 have I2 := i' (I2.out.next b4)
 have I3 := i' (I3.out.next b4)
 have E := i' (chain E.out b4)
 clear b4
 obtain ⟨k0, k1, _⟩ := I1.out
 obtain ⟨k2, k3, _⟩ := I2.out
 obtain ⟨k4, k5, _⟩ := I3.out
 go_wp2_with fail
 clear k0 k1 k2 k3 k4 k5
 refine (HW2.out _).mono ?_
 rintro e x5 ⟨rfl, b5⟩
 have I1 := i' (I1.out.next b5)
 have I2 := i' (I2.out.next b5)
 have I3 := i' (I3.out.next b5)
 have E := i' (chain E.out b5)
 clear b5
 obtain ⟨k0, k1, _⟩ := I1.out
 obtain ⟨k2, k3, _⟩ := I2.out
 obtain ⟨k4, k5, _⟩ := I3.out
 go_wp2_with fail
 clear k0 k1 k2 k3 k4 k5
 refine (HW3.out _).mono ?_
 rintro e x6 ⟨rfl, b6⟩
 have I1 := i' (I1.out.next b6)
 have I2 := i' (I2.out.next b6)
 have I3 := i' (I3.out.next b6)
 have E := i' (chain E.out b6)
 clear b6
 obtain ⟨k0, k1, _⟩ := I1.out
 obtain ⟨k2, k3, _⟩ := I2.out
 obtain ⟨k4, k5, _⟩ := I3.out
 go_wp2_with fail
 clear k0 k1 k2 k3 k4 k5
 refine (HG3.out _).mono ?_
 rintro e x7 ⟨y7, rfl, r7, b7⟩
 have I1 := i' (I1.out.next b7)
 have I2 := i' (I2.out.next b7)
 have I3 := i' (I3.out.next b7)
 have E := i' (chain E.out b7)
 have RG := i' r7
 clear r7
 clear b7
 obtain ⟨k0, k1, _⟩ := I1.out
 obtain ⟨k2, k3, _⟩ := I2.out
 obtain ⟨k4, k5, _⟩ := I3.out
 go_wp2_with fail
 clear k0 k1 k2 k3 k4 k5
 refine (HSg.out _ _ RG.out).mono ?_
 rintro e x8 ⟨rfl, b8⟩
 have I1 := i' (I1.out.next b8)
 have I2 := i' (I2.out.next b8)
 have I3 := i' (I3.out.next b8)
 have RG := i' (RG.out.below b8)
 have E := i' (chain E.out b8)
 clear b8
 obtain ⟨k0, k1, _⟩ := I1.out
 obtain ⟨k2, k3, _⟩ := I2.out
 obtain ⟨k4, k5, _⟩ := I3.out
 clear RG
 go_wp2_with fail
 clear k0 k1 k2 k3 k4 k5
 refine (HK.out _).mono ?_
 rintro e x9 ⟨rfl, b9⟩
 have I1 := i' (I1.out.next b9)
 have I2 := i' (I2.out.next b9)
 have I3 := i' (I3.out.next b9)
 have E := i' (chain E.out b9)
 clear b9
 obtain ⟨k0, k1, _⟩ := I1.out
 obtain ⟨k2, k3, _⟩ := I2.out
 obtain ⟨k4, k5, _⟩ := I3.out
 go_wp2
 go_ret
 exact ⟨rfl, E.out⟩
theorem k'o5 (L : List (Bool × ByteArray)) (a b d g : Int) (p T : List Int) (v : Value) (b1 b2 b3 : Bool) (s1 s2 s3 : ByteArray) (w : World) (h : Rw w v L) (z1 : s1.size ≤ 9223372036854775807) (z2 : s2.size ≤ 9223372036854775807) (z3 : s3.size ≤ 9223372036854775807)
 (HS : ∀ w', Below w.heap.size w w' → Calls Tryz.prog 11 #[.slice (some ⟨w'.heap.size, 0, none⟩) 1 1] (w'.alloc (.cells #[v] 23)) (BPost true w'))
 (l1 : s1.size ≤ 16)
 (l2 : s2.size ≤ 16)
 (l3 : s3.size ≤ 16)
 (HA : ∀ w', Below w.heap.size w w' → Calls Tryz.prog 51 #[v, .agg #[.bool b1, .string s1], .agg #[.bool b2, .string s2], .agg #[.bool b3, .string s3]] w' (ResP T w'))
 (HV : ∀ w', Below w.heap.size w w' → Calls Tryz.prog 19 #[.slice (some ⟨w'.heap.size, 0, none⟩) 1 1] (w'.alloc (.cells #[v] 23)) (BPost true w'))
 (HW1 : ∀ w', Calls Tryz.prog 35 #[.agg #[.bool b1, .string s1]] w' (BPost true w'))
 (HW2 : ∀ w', Calls Tryz.prog 35 #[.agg #[.bool b2, .string s2]] w' (BPost true w'))
 (HW3 : ∀ w', Calls Tryz.prog 35 #[.agg #[.bool b3, .string s3]] w' (BPost true w'))
 (HG3 : ∀ w', Calls Tryz.prog 37 #[.agg #[.bool b3, .string s3]] w' (IntPost d w'))
 (HSg : ∀ u w', Rz w' u d → Calls Tryz.prog 50 #[iV d u] w' (SignPost g w'))
 (hg : 0 < g)
 (HG1 : ∀ w', Calls Tryz.prog 37 #[.agg #[.bool b1, .string s1]] w' (IntPost a w'))
 (HG2 : ∀ w', Calls Tryz.prog 37 #[.agg #[.bool b2, .string s2]] w' (IntPost b w'))
 (HF : ∀ w', Below w.heap.size w w' → Calls Tryz.prog 21 #[v] w' (RPPost p w'))
 (HR : ∀ w' x ua ub ud, RP w' x p → Rz w' ua a → Rz w' ub b → Rz w' ud d → Calls Tryz.prog 52 #[x, iV a ua, iV b ub, iV d ud] w' (RPPost T w'))
 (HE : ∀ w' v x, Rp w' v T → RP w' x T → Calls Tryz.prog 24 #[v, .int .i64 0, x] w' (BPost true w')) :
 Calls Tryz.prog 7 #[v, .agg #[.bool b1, .string s1], .agg #[.bool b2, .string s2], .agg #[.bool b3, .string s3]] w (Ret (.bool true) w) := by
 obtain ⟨w0, hw0⟩ : ∃ w0 : World, w0 = ((w.alloc (.cells #[.bool b1, .string s1] 44)).alloc (.cells #[.bool b2, .string s2] 44)).alloc (.cells #[.bool b3, .string s3] 44) := ⟨_, rfl⟩
 have I1 : Hid (ZC (.bool b1) (.string s1) w0 w.heap.size) := by rw [hw0]; exact ((ZC.new rfl).alloc _).alloc _
 have I2 : Hid (ZC (.bool b2) (.string s2) w0 (w.heap.size + 1)) := by rw [hw0]; exact (ZC.new (by simp)).alloc _
 have I3 : Hid (ZC (.bool b3) (.string s3) w0 (w.heap.size + 1 + 1)) := by rw [hw0]; exact ZC.new (by simp)
 have E : Hid (Below w.heap.size w w0) := by rw [hw0]; exact (((Below.refl _ _).alloc (Nat.le_refl _) _).alloc (by simp) _).alloc (by simp; omega) _
 have HK := i' k'l8
 have HS := i' HS
 have HA := i' HA
 have HV := i' HV
 have HW1 := i' HW1
 have HW2 := i' HW2
 have HW3 := i' HW3
 have HG3 := i' HG3
 have HSg := i' HSg
 have HG1 := i' HG1
 have HG2 := i' HG2
 have HF := i' HF
 have HR := i' HR
 have HE := i' HE
 have f1 : ¬ (16 : Int) < (s1.size : Int) := by omega
 have f2 : ¬ (16 : Int) < (s2.size : Int) := by omega
 have f3 : ¬ (16 : Int) < (s3.size : Int) := by omega
 have fg : ¬ (g ≤ 0) := by omega
 obtain ⟨p1, a1, o1, c1, rfl, -, -, -, -⟩ := h
 generalize L.length = n1 at *
 clear z1 z2 z3 l1 l2 l3 hg
 unfold ResP RPPost at *
 unfold IntPost iV SignPost at *
 unfold BPost at *
 unfold Ret at *
 go_enter Tryz.func7, Tryz.ntmps7
 go_upto_region 1 with (fail)
 rw [← hw0]
 clear hw0
 go_wp2_with fail
 refine (HS.out _ E.out).mono ?_
 rintro e x1 ⟨rfl, b1⟩
 have I1 := i' (I1.out.next b1)
 have I2 := i' (I2.out.next b1)
 have I3 := i' (I3.out.next b1)
 have E := i' (chain E.out b1)
 clear b1
 obtain ⟨k0, k1, _⟩ := I1.out
 obtain ⟨k2, k3, _⟩ := I2.out
 obtain ⟨k4, k5, _⟩ := I3.out
 go_wp2_with fail
 clear k0 k1 k2 k3 k4 k5
 refine (HA.out _ E.out).mono ?_
 rintro e x2 ⟨y2, rfl, r2, b2⟩
 have I1 := i' (I1.out.next b2)
 have I2 := i' (I2.out.next b2)
 have I3 := i' (I3.out.next b2)
 have E := i' (chain E.out b2)
 have RA := i' r2
 clear r2
 clear b2
 obtain ⟨k0, k1, _⟩ := I1.out
 obtain ⟨k2, k3, _⟩ := I2.out
 obtain ⟨k4, k5, _⟩ := I3.out
 go_wp2_with fail
 clear k0 k1 k2 k3 k4 k5
 refine (HV.out _ E.out).mono ?_
 rintro e x3 ⟨rfl, b3⟩
 have I1 := i' (I1.out.next b3)
 have I2 := i' (I2.out.next b3)
 have I3 := i' (I3.out.next b3)
 have RA := i' (RA.out.below b3)
 have E := i' (chain E.out b3)
 clear b3
 obtain ⟨k0, k1, _⟩ := I1.out
 obtain ⟨k2, k3, _⟩ := I2.out
 obtain ⟨k4, k5, _⟩ := I3.out
 go_wp2_with fail
 clear k0 k1 k2 k3 k4 k5
 refine (HW1.out _).mono ?_
 rintro e x4 ⟨rfl, b4⟩
 have I1 := i' (I1.out.next b4)
 have I2 := i' (I2.out.next b4)
 have I3 := i' (I3.out.next b4)
 have RA := i' (RA.out.below b4)
 have E := i' (chain E.out b4)
 clear b4
 obtain ⟨k0, k1, _⟩ := I1.out
 obtain ⟨k2, k3, _⟩ := I2.out
 obtain ⟨k4, k5, _⟩ := I3.out
 go_wp2_with fail
 clear k0 k1 k2 k3 k4 k5
 refine (HW2.out _).mono ?_
 rintro e x5 ⟨rfl, b5⟩
 have I1 := i' (I1.out.next b5)
 have I2 := i' (I2.out.next b5)
 have I3 := i' (I3.out.next b5)
 have RA := i' (RA.out.below b5)
 have E := i' (chain E.out b5)
 clear b5
 obtain ⟨k0, k1, _⟩ := I1.out
 obtain ⟨k2, k3, _⟩ := I2.out
 obtain ⟨k4, k5, _⟩ := I3.out
 go_wp2_with fail
 clear k0 k1 k2 k3 k4 k5
 refine (HW3.out _).mono ?_
 rintro e x6 ⟨rfl, b6⟩
 have I1 := i' (I1.out.next b6)
 have I2 := i' (I2.out.next b6)
 have I3 := i' (I3.out.next b6)
 have RA := i' (RA.out.below b6)
 have E := i' (chain E.out b6)
 clear b6
 obtain ⟨k0, k1, _⟩ := I1.out
 obtain ⟨k2, k3, _⟩ := I2.out
 obtain ⟨k4, k5, _⟩ := I3.out
 go_wp2_with fail
 clear k0 k1 k2 k3 k4 k5
 refine (HG3.out _).mono ?_
 rintro e x7 ⟨y7, rfl, r7, b7⟩
 have I1 := i' (I1.out.next b7)
 have I2 := i' (I2.out.next b7)
 have I3 := i' (I3.out.next b7)
 have RA := i' (RA.out.below b7)
 have E := i' (chain E.out b7)
 have RG := i' r7
 clear r7
 clear b7
 obtain ⟨k0, k1, _⟩ := I1.out
 obtain ⟨k2, k3, _⟩ := I2.out
 obtain ⟨k4, k5, _⟩ := I3.out
 go_wp2_with fail
 clear k0 k1 k2 k3 k4 k5
 refine (HSg.out _ _ RG.out).mono ?_
 rintro e x8 ⟨rfl, b8⟩
 have I1 := i' (I1.out.next b8)
 have I2 := i' (I2.out.next b8)
 have I3 := i' (I3.out.next b8)
 have RA := i' (RA.out.below b8)
 have RG := i' (RG.out.below b8)
 have E := i' (chain E.out b8)
 clear b8
 obtain ⟨k0, k1, _⟩ := I1.out
 obtain ⟨k2, k3, _⟩ := I2.out
 obtain ⟨k4, k5, _⟩ := I3.out
 clear RG
 clear I1 I2 I3
 go_wp2_with fail
 go_region_held3 (fun W' => W'.cell? ⟨w.heap.size, 0, none⟩ = some (.bool b1) ∧ W'.cell? ⟨w.heap.size, 1, none⟩ = some (.string s1) ∧ W'.cell? ⟨w.heap.size + 1, 0, none⟩ = some (.bool b2) ∧ W'.cell? ⟨w.heap.size + 1, 1, none⟩ = some (.string s2) ∧ W'.cell? ⟨w.heap.size + 1 + 1, 0, none⟩ = some (.bool b3) ∧ W'.cell? ⟨w.heap.size + 1 + 1, 1, none⟩ = some (.string s3)) (go_keep)
  (first
   | (go_at_call 21; (with_reducible refine (HF.out _ ?ha).mono ?_); (first | exact chain E.out D.out | exact chain E.out ((Below.refl _ _).drew)); rintro e y ⟨z9, rfl, r9, b9⟩; have D := i' (show Below x8.heap.size x8 y by first | exact chain D.out b9 | exact chain ((Below.refl _ _).drew) b9); have QX := i' r9; clear r9; have p0 := keep1 D.out k0; have p1 := keep1 D.out k1; have p2 := keep1 D.out k2; have p3 := keep1 D.out k3; have p4 := keep1 D.out k4; have p5 := keep1 D.out k5; clear b9)
   | (go_at_call 37; (with_reducible refine (HG1.out _).mono ?_); rintro e y ⟨z9, rfl, r9, b9⟩; have D := i' (show Below x8.heap.size x8 y by first | exact chain D.out b9 | exact chain ((Below.refl _ _).drew) b9); have QX := i' (QX.out.below b9); have QA := i' r9; clear r9; have p0 := keep1 D.out k0; have p1 := keep1 D.out k1; have p2 := keep1 D.out k2; have p3 := keep1 D.out k3; have p4 := keep1 D.out k4; have p5 := keep1 D.out k5; clear b9)
   | (go_at_call 37; (with_reducible refine (HG2.out _).mono ?_); rintro e y ⟨z9, rfl, r9, b9⟩; have D := i' (show Below x8.heap.size x8 y by first | exact chain D.out b9 | exact chain ((Below.refl _ _).drew) b9); have QX := i' (QX.out.below b9); have QA := i' (QA.out.below b9); have QB := i' r9; clear r9; have p0 := keep1 D.out k0; have p1 := keep1 D.out k1; have p2 := keep1 D.out k2; have p3 := keep1 D.out k3; have p4 := keep1 D.out k4; have p5 := keep1 D.out k5; clear b9)
   | (go_at_call 37; (with_reducible refine (HG3.out _).mono ?_); rintro e y ⟨z9, rfl, r9, b9⟩; have D := i' (show Below x8.heap.size x8 y by first | exact chain D.out b9 | exact chain ((Below.refl _ _).drew) b9); have QX := i' (QX.out.below b9); have QA := i' (QA.out.below b9); have QB := i' (QB.out.below b9); have QD := i' r9; clear r9; have p0 := keep1 D.out k0; have p1 := keep1 D.out k1; have p2 := keep1 D.out k2; have p3 := keep1 D.out k3; have p4 := keep1 D.out k4; have p5 := keep1 D.out k5; clear b9)
   | (go_at_call 52; (with_reducible refine (HR.out _ _ _ _ _ (QX.out.below ?hc) (QA.out.below ?hd) (QB.out.below ?he) (QD.out.below ?hf)).mono ?_); (first | exact Below.refl _ _ | exact (Below.refl _ _).drew); (first | exact Below.refl _ _ | exact (Below.refl _ _).drew); (first | exact Below.refl _ _ | exact (Below.refl _ _).drew); (first | exact Below.refl _ _ | exact (Below.refl _ _).drew); rintro e y ⟨z9, rfl, r9, b9⟩; have D := i' (show Below x8.heap.size x8 y by first | exact chain D.out b9 | exact chain ((Below.refl _ _).drew) b9); have QT := i' r9; clear r9; have p0 := keep1 D.out k0; have p1 := keep1 D.out k1; have p2 := keep1 D.out k2; have p3 := keep1 D.out k3; have p4 := keep1 D.out k4; have p5 := keep1 D.out k5; clear b9)
   | (go_at_call 24; (with_reducible refine (HE.out _ _ _ (RA.out.below ?hh) (QT.out.below ?hi)).mono ?_); (first | exact D.out | exact (Below.refl _ _).drew); (first | exact Below.refl _ _ | exact (Below.refl _ _).drew); rintro e y ⟨rfl, b9⟩; have D := i' (show Below x8.heap.size x8 y by first | exact chain D.out b9 | exact chain ((Below.refl _ _).drew) b9); have p0 := keep1 D.out k0; have p1 := keep1 D.out k1; have p2 := keep1 D.out k2; have p3 := keep1 D.out k3; have p4 := keep1 D.out k4; have p5 := keep1 D.out k5; clear b9)
   | (go_at_call 12; (with_reducible refine (HK.out _).mono ?_); rintro e y ⟨rfl, b9⟩; have D := i' (show Below x8.heap.size x8 y by first | exact chain D.out b9 | exact chain ((Below.refl _ _).drew) b9); have p0 := keep1 D.out k0; have p1 := keep1 D.out k1; have p2 := keep1 D.out k2; have p3 := keep1 D.out k3; have p4 := keep1 D.out k4; have p5 := keep1 D.out k5; clear b9)
   | fail)
 go_wp2
 go_ret
 exact ⟨rfl, chain E.out D.out⟩
theorem sz16 {b : Bool} {s : ByteArray} (hv : vld b s = true) (hl : s.size ≤ 16) {M : Nat} (hM : M = 16) : (sg b (bv s)).natAbs < D9 ^ M := by
 subst hM
 have h1 := bvk (k := 16) rfl hl
 have h2 : (sg b (bv s)).natAbs = bv s := by unfold sg; split <;> omega
 rw [h2]
 exact Nat.lt_of_lt_of_le h1 (Nat.pow_le_pow_left (by decide) 16)
theorem k'o6 {a b c : Int} {B : Int} (h1 : lenV (zb a) (zs a) ≤ B) (h2 : lenV (zb b) (zs b) ≤ B) (h3 : lenV (zb c) (zs c) ≤ B) (hB : 0 ≤ B) : glb [(zb a, zs a), (zb b, zs b), (zb c, zs c)] ≤ B := by
 refine k'ic _ B hB ?_
 intro x hx
 simp only [List.mem_cons, List.mem_nil_iff, or_false] at hx
 rcases hx with rfl | rfl | rfl <;> assumption
theorem k'o7 {L : List (Bool × ByteArray)} {a b d : Bool} {s t u : ByteArray} (h : (vldP L && vld a s && vld b t && vld d u) = false) : ckc L a s b t d u = 2 := by
 unfold ckc; rw [h]; rfl
theorem k'o8 (p : List Int) (v : Value) (b1 b2 b3 : Bool) (s1 s2 s3 : ByteArray) (w : World) (h : Rp w v p) (hp : VP p) (g : shP (zl p) = true) (hz : Lim (zl p)) (l1 : s1.size ≤ 16) (l2 : s2.size ≤ 16) (l3 : s3.size ≤ 16)
 (v1 : vld b1 s1 = true) (v2 : vld b2 s2 = true) (v3 : vld b3 s3 = true) :
 Calls Tryz.prog 7 #[v, .agg #[.bool b1, .string s1], .agg #[.bool b2, .string s2], .agg #[.bool b3, .string s3]] w (Ret (.bool true) w) := by
 have sp := k'i5 g
 obtain ⟨N, hN⟩ : ∃ N : Nat, N = 16 := ⟨_, rfl⟩
 rw [← hN] at sp
 have lp := k'dw g hp.len
 have sm := k'd7 hp.top
 have HS := fun w' (hb : Below w.heap.size w w') => k'lf (h.below hb) hz true g
 have HV := fun w' (hb : Below w.heap.size w w') => k'lg (h.below hb) sm true hp.ok
 have HW1 := fun w' => k'5v b1 s1 w' (by omega)
 have HW2 := fun w' => k'5v b2 s2 w' (by omega)
 have HW3 := fun w' => k'5v b3 s3 w' (by omega)
 rw [v1] at HW1
 rw [v2] at HW2
 rw [v3] at HW3
 have HG1 := fun w' => k'94 b1 s1 w' (by omega)
 have HG2 := fun w' => k'94 b2 s2 w' (by omega)
 have HG3 := fun w' => k'94 b3 s3 w' (by omega)
 have z1 := zb_sg v1
 have z2 := zb_sg v2
 have z3 := zb_sg v3
 have a1 := sz16 v1 l1 hN
 have a2 := sz16 v2 l2 hN
 have a3 := sz16 v3 l3 hN
 have sgd := k'9c v3
 have ht : lenV b1 s1 ≤ 200 ∧ lenV b2 s2 ≤ 200 ∧ lenV b3 s3 ≤ 200 := by
  have t1 := k'ib (z := sg b1 (bv s1)) (by rw [z1.2]; exact l1) (k'm0 a1 (by omega))
  have t2 := k'ib (z := sg b2 (bv s2)) (by rw [z2.2]; exact l2) (k'm0 a2 (by omega))
  have t3 := k'ib (z := sg b3 (bv s3)) (by rw [z3.2]; exact l3) (k'm0 a3 (by omega))
  rw [z1.1, z1.2] at t1
  rw [z2.1, z2.2] at t2
  rw [z3.1, z3.2] at t3
  exact ⟨t1, t2, t3⟩
 generalize sg b1 (bv s1) = a at *
 generalize sg b2 (bv s2) = b at *
 generalize sg b3 (bv s3) = d at *
 obtain ⟨rfl, rfl⟩ := z1
 obtain ⟨rfl, rfl⟩ := z2
 obtain ⟨rfl, rfl⟩ := z3
 have HSg := fun u w' (hu : Rz w' u d) => k'7a d u w' hu
 have q1 : (zs a).size ≤ 140737488351232 := by omega
 have q2 : (zs b).size ≤ 140737488351232 := by omega
 have q3 : (zs d).size ≤ 140737488351232 := by omega
 have vv : (vldP (zl p) && vld (zb a) (zs a) && vld (zb b) (zs b) && vld (zb d) (zs d)) = true := by rw [hp.ok, v1, v2, v3]; rfl
 by_cases hd : d.sign ≤ 0
 ·have hc : ckc (zl p) (zb a) (zs a) (zb b) (zs b) (zb d) (zs d) = 3 := by
   unfold ckc; rw [if_pos vv, sgd, if_pos hd]
  exact k'o4 (zl p) a b d d.sign v _ _ _ _ _ _ w h (by omega) (by omega) (by omega) HS l1 l2 l3 (fun w' hb => k'kj (zl p) v _ _ _ _ _ _ 3 w' (h.below hb) sm q1 q2 q3 hc (by decide)) HV HW1 HW2 HW3 HG3 HSg hd
 ·have hg3 := k'o6 ht.1 ht.2.1 ht.2.2 (by decide)
  have hgp := k'id g hp
  have hc : ckc (zl p) (zb a) (zs a) (zb b) (zs b) (zb d) (zs d) = 0 := by
   unfold ckc; rw [if_pos vv, sgd, if_neg hd, if_neg]
   unfold tlg
   rw [k'cc]
   simp only [decide_eq_true_eq]
   intro ⟨_, h2⟩
   have h3 : ((p.length : Int) - 1) * (glb [(zb a, zs a), (zb b, zs b), (zb d, zs d)] + 1) ≤ 14 * 201 := by
    have hb1 := k'fb [(zb a, zs a), (zb b, zs b), (zb d, zs d)]
    have e1 : ((p.length : Int) - 1) * (glb [(zb a, zs a), (zb b, zs b), (zb d, zs d)] + 1) ≤ 14 * (glb [(zb a, zs a), (zb b, zs b), (zb d, zs d)] + 1) := Int.mul_le_mul_of_nonneg_right (by omega) (by omega)
    omega
   omega
  have sT : Sz 600 (Pl.trim (Pl.comp a b (Pl.lev p d))) := by
   rw [← k'nl]
   refine (k'ns sp a3 a1 a2 p.length (Nat.le_refl _) (by omega)).mono ?_
   have m1 : N * p.length ≤ 16 * 14 := by rw [hN]; exact Nat.mul_le_mul_left 16 lp
   have m2 : p.length * (N + 1) ≤ 14 * 17 := by rw [hN]; exact Nat.mul_le_mul_right 17 lp
   omega
  have lT : (Pl.trim (Pl.comp a b (Pl.lev p d))).length ≤ 25 := Nat.le_trans (Pl.trim_length _) (by rw [Pl.comp_length, Pl.lev_length]; omega)
  have m1 : N * p.length ≤ 16 * 14 := by rw [hN]; exact Nat.mul_le_mul_left 16 lp
  have m2 : p.length * (N + 1) ≤ 14 * 17 := by rw [hN]; exact Nat.mul_le_mul_right 17 lp
  exact k'o5 (zl p) a b d d.sign p _ v _ _ _ _ _ _ w h (by omega) (by omega) (by omega) HS l1 l2 l3 (fun w' hb => k'ko p v a b d w' (h.below hb) hp (k'm0 a1 (by omega)) (k'm0 a2 (by omega)) (k'm0 a3 (by omega)) hc) HV HW1 HW2 HW3 HG3 HSg (by omega) HG1 HG2
   (fun w' hb => k'dk p v w' (h.below hb) (by omega) hp.top)
   (fun w' x ua ub ud hx ha hb hd => k'nv N N N p a b d x ua ub ud w' hx ha hb hd (by omega) sp a1 a2 a3 (by omega) (by omega) (by omega))
   (fun w' v x hv hx => k'jj _ v x w' hv hx lT (sT.top (by decide)) (sT.len9 (by decide)))
theorem k'o9 (L : List (Bool × ByteArray)) (v : Value) (b1 b2 b3 : Bool) (s1 s2 s3 : ByteArray) (w : World) (h : Rw w v L) (z : Lim L) (z1 : s1.size ≤ 9223372036854775807) (z2 : s2.size ≤ 9223372036854775807) (z3 : s3.size ≤ 9223372036854775807) :
 Calls Tryz.prog 7 #[v, .agg #[.bool b1, .string s1], .agg #[.bool b2, .string s2], .agg #[.bool b3, .string s3]] w (Ret (.bool true) w) := by
 cases hs : shP L with
 | false => exact k'nw L v _ _ _ _ _ _ w h z1 z2 z3 (fun w' hb => k'lf (h.below hb) z _ hs)
 | true =>
  have HS := fun w' (hb : Below w.heap.size w w') => k'lf (h.below hb) z _ hs
  by_cases l1 : s1.size ≤ 16
  ·by_cases l2 : s2.size ≤ 16
   ·by_cases l3 : s3.size ≤ 16
    ·have sm := k'dt hs
     have HC := fun hbad w' (hb : Below w.heap.size w w') => k'kj L v b1 b2 b3 s1 s2 s3 2 w' (h.below hb) sm (by omega) (by omega) (by omega) (k'o7 hbad) (by decide)
     have HW1 := fun w' => k'5v b1 s1 w' (by omega)
     have HW2 := fun w' => k'5v b2 s2 w' (by omega)
     have HW3 := fun w' => k'5v b3 s3 w' (by omega)
     have HV := fun w' (hb : Below w.heap.size w w') => k'lg (h.below hb) sm _ rfl
     cases hv : vldP L with
     | false =>
      rw [hv] at HV
      exact k'o0 L v _ _ _ _ _ _ w h z1 z2 z3 HS l1 l2 l3 (HC (by rw [hv]; rfl)) HV
     | true =>
      rw [hv] at HV
      cases v1 : vld b1 s1 with
      | false =>
       rw [v1] at HW1
       exact k'o1 L v _ _ _ _ _ _ w h z1 z2 z3 HS l1 l2 l3 (HC (by rw [hv, v1]; rfl)) HV HW1
      | true =>
       rw [v1] at HW1
       cases v2 : vld b2 s2 with
       | false =>
        rw [v2] at HW2
        exact k'o2 L v _ _ _ _ _ _ w h z1 z2 z3 HS l1 l2 l3 (HC (by rw [hv, v1, v2]; rfl)) HV HW1 HW2
       | true =>
        rw [v2] at HW2
        cases v3 : vld b3 s3 with
        | false =>
         rw [v3] at HW3
         exact k'o3 L v _ _ _ _ _ _ w h z1 z2 z3 HS l1 l2 l3 (HC (by rw [hv, v1, v2, v3]; rfl)) HV HW1 HW2 HW3
        | true =>
         obtain ⟨p, hp, rfl⟩ := VP.of hv
         exact k'o8 p v _ _ _ _ _ _ w h hp hs z l1 l2 l3 v1 v2 v3
    ·exact k'nz L v _ _ _ _ _ _ w h z1 z2 z3 HS l1 l2 (by omega)
   ·exact k'ny L v _ _ _ _ _ _ w h z1 z2 z3 HS l1 (by omega)
  ·exact k'nx L v _ _ _ _ _ _ w h z1 z2 z3 HS (by omega)
end Go.Proofs.YtepddegphdlbeaaGreat
namespace Go.Proofs.YtepddegphdlbeaaGreat
open Go.ChangeShapes Go.WideShapes Go.ChangeAt Go.RowKit Go.Joins
open Go.ChangeMaps (open_string shut_string)
theorem k'oq (os : Os) (started : os.Started) (H : Type) (enc : TypeId × Value → H) :
 ReturnsInHanded {} Tryz.checked os 7 .any (Rows.polyComposesSpec.pre6 enc Tryz.prog Tryz.f7 Rows.polyComposesRow.domain false) (Rows.polyComposesSpec.post enc Tryz.prog Tryz.f7 false true false false) := by
 refine returnsInHanded_of_change (C := Tryz.checked) Tryz.own started (by kernel_rfl) Tryz.func7
  (ChangeSpec.witness6 (enc := enc) (C := Tryz.checked) false ⟨#[], #[.slice none 0 0, .agg #[.bool false, .string ⟨#[]⟩], .agg #[.bool false, .string ⟨#[]⟩], .agg #[.bool false, .string ⟨#[]⟩]], []⟩ 8 (by kernel_rfl) (by kernel_rfl) (by kernel_rfl) (by kernel_rfl)) ?_
 intro W base args ds gs before hval0 hW hcnd _
 have hval : ∀ (j : Nat) t v, Tryz.f7.params[j]? = some t → args[j]? = some v → Value.okWide Tryz.prog W .any base t v := hval0
 have hW' := hW
 obtain ⟨p, q, hA0, hV, rfl, hfz, hnd⟩ := hW
 have hA : DataW.TrodAll enc Tryz.prog W 0 (fun _ => true) true Tryz.f7.params.toList args.toList ds p := hA0
 rw [Tryz.params7] at hA hval
 obtain ⟨v0, v1, v2, v3, d0, d1, d2, d3, p0, p1, p2, p3, rfl, rfl, rfl, h0, h1, h2, h3⟩ := trodAll_four hA
 obtain ⟨rfl, rfl⟩ := trodVars_none hV
 obtain ⟨L0, r0, z0, t0⟩ := k'm9 (hval 0 23 v0 rfl rfl) h0
 obtain ⟨b1, s1, rfl, rfl, rfl, hs1⟩ := k'm6 (hval 1 44 v1 rfl rfl) h1
 obtain ⟨b2, s2, rfl, rfl, rfl, hs2⟩ := k'm6 (hval 2 44 v2 rfl rfl) h2
 obtain ⟨b3, s3, rfl, rfl, rfl, hs3⟩ := k'm6 (hval 3 44 v3 rfl rfl) h3
 clear hA0 hval0
 refine (k'o9 L0 v0 b1 b2 b3 s1 s2 s3 W r0 z0 (by unfold maxLen at hs1; omega) (by unfold maxLen at hs2; omega) (by unfold maxLen at hs3; omega)).mono fun e W' ⟨he, bel⟩ => ?_
 subst he
 exact ⟨_, rfl, _, _, _, [], _, [], hW', trodAll_mk1 (shut_bool Tryz.underlying4 _), trodAll_mk4 (t0 W' bel) (k'm7 hs1) (k'm7 hs2) (k'm7 hs3), rfl, bel.frame _, fun h => by cases h⟩
theorem pcomposes_holds : Rows.PolyComposesSaid :=
 OpenClaim.holds_of_wide 7 Tryz.f7 rfl rfl rfl rfl rfl rfl rfl ⟨rfl, rfl, rfl, rfl, rfl⟩ rfl rfl rfl rfl rfl (by kernel_rfl) Tryz.func7 (by kernel_rfl)
  (of_decide_eq_true (by kernel_rfl)) (by unfold Func.isWrapper; first | (rw [if_pos (by decide +kernel)]; kernel_rfl) | (rw [if_neg (by decide +kernel)]; exact ⟨rfl, rfl⟩))
  (fun os started H enc _ => k'oq os started H enc)
end Go.Proofs.YtepddegphdlbeaaGreat
