/- PolyScales gives true for all polynomials and integers (P2.3, P2.6), and leaves its arguments as they were. No condition. -/
import Derived.Test.YtepddegphdlbeaaGreatG8
import Derived.Test.YtepddegphdlbeaaGreatG7
import Derived.Test.YtepddegphdlbeaaGreatG6
import Derived.Test.YtepddegphdlbeaaGreatG4
import Derived.Test.YtepddegphdlbeaaGreatG3
import Derived.Test.YtepddegphdlbeaaGreatG2
import Derived.Test.YtepddegphdlbeaaGreatG1
import Derived.Test.YtepddegphdlbeaaGreatG0
import Derived.Test.YtepddegphdlbeaaGreatProg
import Derived.WalkKit
import Derived.WalkSpells
import Derived.WalkLawsBesides
import Derived.Lib.Hide
import Derived.Deep.QuietTactic
import Derived.BigQuiet
import Derived.Shelf.Small.Bits
import Derived.Shelf.Small.Wraps
import Derived.Shelf.Strconv.Itoa0
import Derived.Shelf.Bits.Mul64
import Derived.Ground.Names2Prog
import Derived.Shelf.Slices.SearchI
import Derived.Shelf.Spec.BitsCarry
import Derived.Deep.LoopGhost
import Derived.Deep.RegionHeld3
import Derived.Deep.DeepCutAuto
import Derived.Test.YtepddegphdlbeaaGreatG5
import Derived.Test.YtepddegphdlbeaaGreatC0
import Derived.Laws.AppendOwnNone
import Derived.Below
import Derived.Test.YtepddegphdlbeaaGreatG9
import Derived.Test.YtepddegphdlbeaaGreatG12
import Derived.Test.YtepddegphdlbeaaGreatG11
import Derived.Test.YtepddegphdlbeaaGreatG10
import Derived.RangeFuncNested
import Derived.RangeFuncBound
import Derived.RangeFuncCalls
import Derived.RangeFuncLeaves
import Derived.Shelf.Abstract
import Derived.Shelf.RegionOpen
import Derived.OwnWalkIn
import Derived.TacticsInMore
import Derived.LoopNIn
import Derived.LoopIn
import Derived.OrdersIn
import Derived.Deep.RegionHeld
import Derived.Maps.AppendAt
import Derived.Lib.SliceRun
import Derived.IntWalk
import Derived.Test.YtepddegphdlbeaaGreatG13
import Derived.Laws.StructEq
import Derived.Test.YtepddegphdlbeaaGreatG14
import Derived.Test.YtepddegphdlbeaaGreatG16
import Derived.Test.YtepddegphdlbeaaGreatG15
import Derived.ProofKit
import Derived.OpenShut
import Derived.ShutString
import Derived.ChangeOld
import Derived.Lib.SmallJoins
import Derived.Test.YtepddegphdlbeaaGreatRows
import Derived.Deep.SlicePairs
set_option maxRecDepth 100000
set_option maxHeartbeats 16000000
set_option linter.all false
namespace Go.Proofs.YtepddegphdlbeaaGreat
open Go.RowKit
theorem k'dd {p : List Int} {us : List Value} (h : us.length = p.length) : (rv p us).length = p.length * 2 := by
 induction p generalizing us with
 | nil => cases us with
  | nil => rfl
  | cons u us => simp at h
 | cons z p ih =>
  cases us with
  | nil => simp at h
  | cons u us => simp only [rv, List.length_cons] at h ⊢; rw [ih (by omega)]; omega
theorem k'dk (p : List Int) (v : Value) (w : World) (h : Rp w v p) (hl : p.length ≤ 1000) (ht : ∀ a ∈ p, a.natAbs < Top) : Calls Tryz.prog 21 #[v] w (RPPost p w) :=
 (k'dj p v w h hl ht).mono fun _ _ ⟨u, h1, h2, h3⟩ => ⟨u, h1, h2.rp, h3⟩
theorem k'dn (w : World) {v : Value} {L : List (Bool × ByteArray)} (h : Rw w v L) : Rl (w.alloc (.cells #[v] 23)) (.slice (some ⟨w.heap.size, 0, none⟩) 1 1) [L] :=
 ⟨w.heap.size, 0, 1, rfl, fun k hk => by
  obtain rfl : k = 0 := by simp at hk; omega
  exact ⟨v, by simp [go_sem], h.below ((Below.refl _ _).alloc (Nat.le_refl _) _)⟩⟩
theorem k'dw {p : List Int} (h : shP (zl p) = true) (hp : p.length ≤ 25) : p.length ≤ 14 := by
 unfold shP lenOK at h
 rw [Bool.and_eq_true, decide_eq_true_eq, k'cc] at h
 omega
theorem k'h6 (w : World) : Rz w (.slice none 0 0) 0 := by
 have h := Ri.nil w
 exact h
theorem k'hs (f : Nat → Int) (n : Nat) : tab f n ++ [f n] = tab f (n + 1) := by simp [tab, List.range_succ]
theorem k'ht (f : Nat → Int) (n : Nat) : (tab f n).length = n := by simp [tab]
theorem k'hu (f : Nat → Int) (n k : Nat) : Pl.cf (tab f n) k = if k < n then f k else 0 := Pl.cf_map_range f n k
theorem k'hw (n m : Nat) (hn : n ≤ 90000) (hm : m ≤ 90000) (p : List Int) (c : Int) (v u : Value) (w : World) (h : RP w v p) (hu : Rz w u c) (l : p.length ≤ 1000) (s : Sz n p) (sc : c.natAbs < D9 ^ m) :
 Calls Tryz.prog 36 #[v, iV c u] w (RPPost (Pl.trim (Pl.scl c p)) w) := by
 obtain ⟨w0, hw0⟩ : ∃ w0 : World, w0 = w.alloc (.cells #[.bool (decide (c < 0)), u] 52) := ⟨_, rfl⟩
 have hb0 : Hid (Below w.heap.size w w0) := by rw [hw0]; exact k'56 _ _
 have HBx : Hid (ZC (.bool (decide (c < 0))) u w0 w.heap.size) := by rw [hw0]; exact ZC.new rfl
 have HRu : Hid (Rz w0 u c) := hu.below hb0.out
 have HRP := i' (h.below hb0.out)
 obtain ⟨f, hf⟩ : ∃ f : Nat → Int, f = fun k => Pl.cf p k * c := ⟨_, rfl⟩
 have HM := i' (fun k u1 w' (g1 : Rz w' u1 (Pl.cf p k)) (hb : Below w0.heap.size w0 w') => k'7b (Pl.cf p k) c u1 u w' g1 (HRu.out.below hb) (Nat.le_trans (s.len k) (by omega)) (Nat.le_trans (len9 sc) (by omega)))
 have HT : Hid (Pl.trim (tab f p.length) = Pl.trim (Pl.scl c p)) := Pl.trim_ext fun k => by
  rw [k'hu, Pl.cf_scl, hf]
  split
  ·exact Int.mul_comm _ _
  ·next h => rw [Pl.cf_ge (p := p) (by omega)]; simp
 have HF : ∀ k, Pl.cf p k * c = f k := fun k => by rw [hf]
 simp only [HF] at HM
 have Hw0 := i' hw0
 clear hw0 HF hf s sc hn hm hu h
 obtain ⟨a1, b1, o1, c1, rfl, -, -, h4, h5⟩ := HRP.out
 have H4 := i' h4
 have H5 := i' h5
 obtain ⟨pu, bu, ou, cu, hup, -⟩ := HRu.out
 subst hup
 clear h4 h5 HRP
 obtain ⟨n1, hn1⟩ : ∃ n, n = p.length := ⟨_, rfl⟩
 rw [← hn1] at HT l ⊢
 have HN := i' hn1
 generalize Pl.trim (Pl.scl c p) = res at *
 obtain ⟨lu, hlu⟩ : ∃ lu, lu = (Nm.dg D9 c.natAbs).length := ⟨_, rfl⟩
 rw [← hlu] at HM HBx HRu Hw0 ⊢
 unfold iV at HM ⊢
 generalize decide (c < 0) = bc at *
 clear hn1 hlu
 go_enter Tryz.func36, Tryz.ntmps36
 go_upto_region 3 with (fail)
 rw [← Hw0.out]
 go_wp2
 go_loopw [5, 6] (fun v iv wr => ∃ (wz : World) (k : Nat), wz = wr ∧ k ≤ n1 ∧ iv = .int .i64 (k : Int) ∧ Hid (RowP wz w0.heap.size v (tab f k)) ∧ Hid (Below w0.heap.size w0 wz))
  (fun _ iv _ => n1 - (intOf iv).toNat)
 case atStart => exact ⟨w0, 0, rfl, Nat.zero_le _, rfl, RowP.nil _ _, Below.refl _ _⟩
 case round =>
  obtain ⟨wz, k, rfl, hk, rfl, hrow, hbl⟩ := hrel
  have hk0 : (0 : Int) ≤ (k : Int) := by omega
  by_cases hlt : k < n1
  ·have hkp : k < p.length := by have h5 : n1 = p.length := HN.out; omega
   have hkk : (k : Int) < (n1 : Int) := by omega
   obtain rfl := H4.out (by intro e; rw [e] at hkp; exact absurd hkp (Nat.not_lt_zero _))
   obtain ⟨uk, g0, g1, g2⟩ := H5.out k hkp
   rw [← Pl.cf_lt hkp] at g0 g2
   have HM := i' (fun w' (hb : Below w0.heap.size w0 w') => HM.out k uk w' (g2.below hb) hb)
   have HS := i' (k'hs f k)
   generalize Pl.cf p k = x at *
   generalize f k = z at *
   have G0 := i' (And.intro g0 g1)
   have c0 := keep1 hbl.out G0.out.1
   have c1 := keep1 hbl.out G0.out.2
   obtain ⟨c2, c3, -, -⟩ := HBx.out.next hbl.out
   obtain ⟨pk, bk, ok, ck, rfl, -⟩ := g2
   clear g0 g1
   go_upto_region 5 with (fail)
   go_region_held3 (fun W' => W'.cell? ⟨b1, o1 + k * 2, none⟩ = some (.bool (decide (x < 0))) ∧ W'.cell? ⟨b1, o1 + k * 2 + 1, none⟩ = some (.slice pk (Nm.dg D9 x.natAbs).length ck) ∧ W'.cell? ⟨w.heap.size, 0, none⟩ = some (.bool bc) ∧ W'.cell? ⟨w.heap.size, 1, none⟩ = some (.slice pu lu cu)) (go_keep)
    (first
     | (go_at_call 83; (with_reducible refine (HM.out _ ((hbl.out).drew)).mono ?_); rintro e w5 ⟨u5, rfl, r5, b5⟩; unfold iV; have d5 := chain (hbl.out.drew) b5; have p0 := keep1 d5 G0.out.1; have p1 := keep1 d5 G0.out.2; obtain ⟨p2, p3, _⟩ := HBx.out.next d5; have HR5 := i' r5; have HX5 := i' (hrow.out.below (chain ((Below.refl _ _).drew) b5)); have HB5 := i' d5; clear r5 b5 d5)
     | (rw [if_pos (by rfl)]; refine k'h4 rfl _ _ rfl rfl rfl HX5.out HR5.out (by rw [k'ht]; omega) HB5.out ?_; intro v' w1 hrow1 hb1 _; have p0 := keep1 hb1 G0.out.1; have p1 := keep1 hb1 G0.out.2; obtain ⟨p2, p3, _⟩ := HBx.out.next hb1; have HN1 := i' hrow1; have HB1 := i' hb1; clear hrow1 hb1)
     | fail)
   rw [HS.out] at HN1
   go_wp2
   go_roundw
   case rel => exact ⟨_, k + 1, rfl, by omega, by go_num, HN1.out, HB1.out⟩
   case measure => simp [intOf]; omega
  ·obtain rfl : k = n1 := by omega
   go_wp2_with fail
   refine (k'dh _ _ _ hrow.out.rp).mono ?_
   rintro e w6 ⟨v6, rfl, r6, b6⟩
   have HR6 := i' r6
   rw [HT.out] at HR6
   have HB6 := i' (chain hb0.out (chain hbl.out b6))
   clear r6 b6
   go_wp2
   go_ret
   exact ⟨_, rfl, HR6.out, HB6.out⟩
theorem k'ij (p : List Int) (v : Value) (w : World) (h : RP w v p) (ht : ∀ a ∈ p, a.natAbs < Top) (hd : ∀ a ∈ p, (Nm.dg D9 a.natAbs).length ≤ 1000000) : Calls Tryz.prog 20 #[v] w (IPost (glb (zl p)) w) := by
 have hlen := h.len
 obtain ⟨a, b, off, cap, rfl, -, -, h4, h5⟩ := h
 have HF := i' (fun k (hk : k < p.length) u w (h : Rz w u (p[k]'hk)) => k'99 p[k] u w h (hd _ (List.getElem_mem hk)) (Nat.le_trans (k'5t (ht _ (List.getElem_mem hk))) (by decide)))
 have HL := i' (fun k (hk : k < p.length) => show glb ((zl p).take (k + 1)) = max (glb ((zl p).take k)) (lenB (zs p[k])) by
  rw [List.take_succ_eq_append_getElem (by rw [k'cc]; exact hk), k'db, k'cd p k hk]
  simp only
  unfold lenV
  rw [if_pos (k'5s (ht _ (List.getElem_mem hk)))])
 obtain ⟨f, hf⟩ : ∃ f : Nat → Int, f = fun k => glb ((zl p).take k) := ⟨_, rfl⟩
 have HF0 : ∀ k, glb ((zl p).take k) = f k := fun k => by rw [hf]
 have H0 : Hid (f 0 = 0) := by show _ = _; rw [hf]; rfl
 have HE : Hid (f p.length = glb (zl p)) := by show _ = _; rw [hf]; simp only; rw [List.take_of_length_le (by rw [k'cc]; exact Nat.le_refl _)]
 simp only [HF0] at HL
 generalize glb (zl p) = res at *
 have H4 := i' h4
 have H5 := i' h5
 clear h4 h5 ht hd HF0 hf
 obtain ⟨n, hn⟩ : ∃ n, n = p.length := ⟨_, rfl⟩
 rw [← hn] at HE hlen ⊢
 have HN := i' hn
 clear hn
 go_enter Tryz.func20, Tryz.ntmps20
 go_wp2
 go_loopw [3, 4] (fun nv iv wr => ∃ (wz : World) (k : Nat), wz = wr ∧ k ≤ n ∧ nv = .int .i64 (f k) ∧ iv = .int .i64 (k : Int) ∧ Hid (Below w.heap.size w wz))
  (fun _ iv _ => n - (intOf iv).toNat)
 case atStart => exact ⟨w, 0, rfl, Nat.zero_le _, by rw [H0.out], rfl, Below.refl _ _⟩
 case round =>
  obtain ⟨wz, k, rfl, hk, rfl, rfl, hbl⟩ := hrel
  have hk0 : (0 : Int) ≤ (k : Int) := by omega
  by_cases hlt : k < n
  ·have hkp : k < p.length := by have h5 : n = p.length := HN.out; omega
   have hkk : (k : Int) < (n : Int) := by omega
   obtain rfl := H4.out (by intro e; rw [e] at hkp; exact absurd hkp (Nat.not_lt_zero _))
   obtain ⟨u, g0, g1, g2⟩ := H5.out k hkp
   have HFk := i' (fun w' (hb : Below w.heap.size w w') => HF.out k hkp u w' (g2.below hb))
   have HLk := i' (HL.out k hkp)
   have c0 := keep1 hbl.out g0
   have c1 := keep1 hbl.out g1
   have G0 := i' (And.intro g0 g1)
   obtain ⟨pu, bu, ou, cu, rfl, -⟩ := g2
   unfold iV at HFk
   generalize (Nm.dg D9 (p[k]).natAbs).length = lu at *
   generalize p[k] = z at *
   generalize lenB (zs z) = t at *
   generalize f k = m at *
   clear hkp g0 g1
   by_cases hgt : m < t
   ·have HM : Hid (f (k + 1) = t) := by show _ = _; rw [HLk.out]; omega
    go_wp2_with fail
    refine (HFk.out _ hbl.out).mono ?_
    rintro e w5 ⟨rfl, b5⟩
    have HB5 := i' (chain hbl.out b5)
    clear b5 c0 c1
    have c0 := keep1 HB5.out G0.out.1
    have c1 := keep1 HB5.out G0.out.2
    go_wp2_with fail
    refine (HFk.out _ HB5.out).mono ?_
    rintro e w6 ⟨rfl, b6⟩
    have HB6 := i' (chain HB5.out b6)
    clear b6 c0 c1
    go_wp2
    go_roundw
    case rel => exact ⟨_, k + 1, rfl, by omega, by rw [HM.out], by go_num, HB6.out⟩
    case measure => simp [intOf]; omega
   ·have HM : Hid (f (k + 1) = m) := by show _ = _; rw [HLk.out]; omega
    go_wp2_with fail
    refine (HFk.out _ hbl.out).mono ?_
    rintro e w5 ⟨rfl, b5⟩
    have HB5 := i' (chain hbl.out b5)
    clear b5 c0 c1
    go_wp2
    go_roundw
    case rel => exact ⟨_, k + 1, rfl, by omega, by rw [HM.out], by go_num, HB5.out⟩
    case measure => simp [intOf]; omega
  ·obtain rfl : k = n := by omega
   rw [HE.out]
   go_wp2
   go_ret
   exact ⟨rfl, hbl.out⟩
theorem k'im (p : List Int) (v : Value) (w : World) (h : RP w v p) (hl : p.length ≤ 25) (ht : ∀ a ∈ p, a.natAbs < Top) (hd : ∀ a ∈ p, (Nm.dg D9 a.natAbs).length ≤ 1000000) :
 Calls Tryz.prog 76 #[v] w (ResP p w) := by
 have HB := i' (k'ij p v w h ht hd)
 have HT := i' (fun w' (hb : Below w.heap.size w w') => k'ih p v w' (h.below hb) (by omega) hd)
 have hb1 := k'fb (zl p)
 obtain ⟨a, b, off, cap, rfl, -, -, -, -⟩ := h
 generalize glb (zl p) = g at *
 generalize hn : p.length = n at *
 have hn0 : (n : Int) ≤ 25 := by omega
 have hg1 : g ≤ 65536 := hb1.2
 clear hn ht hd hb1
 go_enter Tryz.func76, Tryz.ntmps76
 go_wp2_with fail
 refine HB.out.mono ?_
 rintro e w5 ⟨rfl, b5⟩
 have HB5 := i' b5
 clear b5
 go_wp2_with fail
 refine (HT.out _ HB5.out).mono ?_
 rintro e w6 ⟨v6, rfl, r6, b6⟩
 have HB6 := i' (chain HB5.out b6)
 have HR6 := i' r6
 clear b6 r6
 go_wp2
 go_ret2
 exact ⟨_, rfl, HR6.out, HB6.out⟩
theorem k'jj (p : List Int) (v vx : Value) (w : World) (hv : Rp w v p) (h : RP w vx p) (hl : p.length ≤ 25) (ht : ∀ a ∈ p, a.natAbs < Top) (hd : ∀ a ∈ p, (Nm.dg D9 a.natAbs).length ≤ 1000000) : Calls Tryz.prog 24 #[v, .int .i64 0, vx] w (BPost true w) := by
 have HO := i' (k'im p vx w h hl ht hd)
 have HS := i' (fun v2 w' (hb : Below w.heap.size w w') (h2 : Rp w' v2 p) => k'iq (zl p) (zl p) v v2 w' (hv.below hb) h2)
 rw [k'jh] at HS
 obtain ⟨a, b, off, cap, rfl, -, -, -, -⟩ := h
 obtain ⟨a1, b1, o1, c1, rfl, -, -, -, -⟩ := hv.open_
 generalize hTl : p.length = tl at *
 clear ht hd hv hTl
 go_enter Tryz.func24, Tryz.ntmps24
 go_wp2_with fail
 refine HO.out.mono ?_
 rintro e w1 ⟨v1, rfl, r1, b1⟩
 have R1 := i' r1
 have B1 := i' b1
 clear r1 b1
 go_wp2_with fail
 refine (HS.out _ _ B1.out R1.out).mono ?_
 rintro e w2 ⟨rfl, b2⟩
 have B2 := i' (chain B1.out b2)
 clear b2
 go_wp2
 go_ret
 exact ⟨rfl, B2.out⟩
theorem k'jr (L : List (Bool × ByteArray)) (v : Value) (w : World) (h : Rw w v L) (z : Small L) (he : vldP L = false) :
 Calls Tryz.prog 34 #[v] w (ResE 2 w) := by
 have HD := i' (k'd6 L v w h z)
 rw [he] at HD
 clear h z he
 go_enter Tryz.func34, Tryz.ntmps34
 go_wp2_with fail
 refine HD.out.mono ?_
 rintro en w1 ⟨rfl, b1⟩
 have B1 := i' b1
 clear b1
 go_wp2
 go_ret2
 exact ⟨rfl, B1.out⟩
theorem k'jt (L : List (Bool × ByteArray)) (v : Value) (w : World) (h : Rw w v L) (z : Small L) (he : vldP L = false) :
 Calls Tryz.prog 33 #[v] w (Ret (.tuple #[Z 0, .int .i64 2]) w) := by
 obtain ⟨w0, hw0⟩ : ∃ w0 : World, w0 = w.alloc (.cells #[.bool false, .string ⟨#[]⟩] 44) := ⟨_, rfl⟩
 have HA0 : Hid (Aw w0 w.heap.size [0]) := by show Aw _ _ _; rw [hw0]; exact Aw.made w [0]
 have B0 : Hid (Below w.heap.size w w0) := by show Below _ _ _; rw [hw0]; exact (Below.refl _ _).alloc (Nat.le_refl _) _
 have HD := i' (k'd6 L v w0 (h.below B0.out) z)
 rw [he] at HD
 clear h z he
 go_enter Tryz.func33, Tryz.ntmps33
 go_wp2_with fail
 rw [← hw0]
 clear hw0
 refine HD.out.mono ?_
 rintro en w1 ⟨rfl, b1⟩
 have B1 := i' (chain B0.out b1)
 have HA1 := i' (HA0.out.below b1)
 obtain ⟨e0, e1⟩ := HA1.out.cell 0 (by simp)
 simp only [Nat.zero_mul, Nat.zero_add, List.getElem_cons_zero] at e0 e1
 have f0 := HA1.out.free 0
 have f1 := HA1.out.free 1
 have HB8 := i' ((B1.out.setCell (p := ⟨w.heap.size, 0, none⟩) (Nat.le_refl _) (.bool false)).setCell (p := ⟨w.heap.size, 1, none⟩) (Nat.le_refl _) (.string ⟨#[]⟩))
 clear b1
 go_wp2
 exact bodyPost_ret (v := .tuple #[Z 0, .int .i64 2]) (by simp [results, Tryz.results33, go_sem, e0, e1]; exact ⟨rfl, rfl⟩) rfl ⟨rfl, HB8.out⟩
theorem k'jz (L : List (Bool × ByteArray)) (v : Value) (w : World) (h : Rw w v L) (z : Small L) (he : vldP L = false) :
 Calls Tryz.prog 32 #[v] w (ResE 2 w) := by
 have HD := i' (k'd6 L v w h z)
 rw [he] at HD
 clear h z he
 go_enter Tryz.func32, Tryz.ntmps32
 go_wp2_with fail
 refine HD.out.mono ?_
 rintro en w1 ⟨rfl, b1⟩
 have B1 := i' b1
 clear b1
 go_wp2
 go_ret2
 exact ⟨rfl, B1.out⟩
theorem k'k0 (v : Value) (w : World) (h : Rp w v []) (hp : VP []) :
 Calls Tryz.prog 32 #[v] w (ResP [] w) := by
 have HD := i' (k'd9 [] v w h hp)
 obtain ⟨a, b, off, cap, rfl, -⟩ := h.open_
 clear h hp
 simp only [List.length_nil] at *
 go_enter Tryz.func32, Tryz.ntmps32
 go_wp2_with fail
 refine HD.out.mono ?_
 rintro en w1 ⟨rfl, b1⟩
 have B1 := i' b1
 clear b1
 go_wp2
 go_ret2
 exact ⟨_, rfl, Rw.nil _, B1.out⟩
theorem k'ld (L : List (Bool × ByteArray)) (v : Value) (a : Bool) (s : ByteArray) (w : World) (h : Rw w v L) (z : Small L) (zs1 : s.size ≤ 140737488351232) (he : (vldP L && vld a s) = false) :
 Calls Tryz.prog 31 #[v, .agg #[.bool a, .string s]] w (ResE 2 w) := by
 obtain ⟨w0, hw0⟩ : ∃ w0 : World, w0 = w.alloc (.cells #[.bool a, .string s] 44) := ⟨_, rfl⟩
 have B0 : Hid (Below w.heap.size w w0) := by show Below _ _ _; rw [hw0]; exact (Below.refl _ _).alloc (Nat.le_refl _) _
 have C0 : Hid (w0.cell? ⟨w.heap.size, 0, none⟩ = some (.bool a) ∧ w0.cell? ⟨w.heap.size, 1, none⟩ = some (.string s)) := by rw [hw0]; exact ⟨by simp [go_sem], by simp [go_sem]⟩
 have HV := i' (k'd6 L v w0 (h.below B0.out) z)
 have HS := i' (fun w => k'3z a s w zs1)
 clear h z zs1
 generalize vldP L = x1 at *
 generalize vld a s = x2 at *
 cases x1
 ·clear he HS
  go_enter Tryz.func31, Tryz.ntmps31
  go_wp2_with fail
  rw [← hw0]
  clear hw0
  refine HV.out.mono ?_
  rintro e w1 ⟨rfl, b1⟩
  have B1 := i' (chain B0.out b1)
  clear b1
  go_wp2
  go_ret2
  exact ⟨rfl, B1.out⟩
 ·obtain rfl : x2 = false := he
  go_enter Tryz.func31, Tryz.ntmps31
  go_wp2_with fail
  rw [← hw0]
  clear hw0
  refine HV.out.mono ?_
  rintro e w1 ⟨rfl, b1⟩
  have c0 := keep1 b1 C0.out.1
  have c1 := keep1 b1 C0.out.2
  have B1 := i' (chain B0.out b1)
  clear b1
  go_wp2_with fail
  refine (HS.out _).mono ?_
  rintro e w2 ⟨rfl, b2⟩
  have B2 := i' (chain B1.out b2)
  clear b2 c0 c1
  go_wp2
  go_ret2
  exact ⟨rfl, B2.out⟩
theorem k'le (p : List Int) (v : Value) (a : Int) (w : World) (h : Rp w v p) (hp : VP p) (ha : a.natAbs < Top) (hb : Pl.sm p * a.natAbs < Top) :
 Calls Tryz.prog 31 #[v, Z a] w (ResP (Pl.trim (Pl.mul p [a])) w) := by
 obtain ⟨w0, hw0⟩ : ∃ w0 : World, w0 = w.alloc (.cells #[.bool (zb a), .string (zs a)] 44) := ⟨_, rfl⟩
 have B0 : Hid (Below w.heap.size w w0) := by show Below _ _ _; rw [hw0]; exact (Below.refl _ _).alloc (Nat.le_refl _) _
 have HA0 : Hid (Aw w0 w.heap.size [a]) := by show Aw _ _ _; rw [hw0]; exact Aw.made w [a]
 have HV := i' (k'd9 p v w0 (h.below B0.out) hp)
 have HS := i' (fun w => k'3z (zb a) (zs a) w (Nat.le_trans (k'5t ha) (by decide)))
 rw [zvt ha] at HS
 have hl := hp.len
 have hmx : Pl.mx [a] = a.natAbs := by simp [Pl.mx]
 have HM : Hid (∀ c v2 w', Below w.heap.size w w' → Ck w' c 0 → Rp w' v2 [a] → Calls Tryz.prog 81 #[.pointer (some ⟨c, 0, none⟩), v, v2] w' (RpPost (Pl.mul p [a]) w')) := fun c v2 w' hbw hck hr => by
  by_cases h0 : p = []
  ·refine (k'gu c p [a] v v2 w' (h.below hbw) hr (Or.inl h0) (by omega)).mono ?_
   rintro e w1 ⟨rfl, b1⟩
   exact ⟨_, rfl, by rw [h0]; exact Rw.nil _, b1⟩
  ·exact k'gq c p [a] v v2 0 w' (h.below hbw) hr hck h0 (by simp) (by omega) (by simp) hp.top (by intro x hx; simp at hx; rw [hx]; exact ha) (by rw [hmx]; exact hb)
 have HT : Hid (∀ v' w', Rp w' v' (Pl.mul p [a]) → Calls Tryz.prog 86 #[v'] w' (RpPost (Pl.trim (Pl.mul p [a])) w')) := fun v' w' hr => by
  refine k'dx v' _ w' hr ?_
  intro x hx
  by_cases h0 : p = []
  ·subst h0; simp [Pl.mul] at hx
  ·obtain ⟨k, hk, rfl⟩ := List.mem_iff_getElem.1 hx
   rw [← Pl.cf_lt hk, Pl.cf_mul]
   have h5 := Pl.conv_le p [a] p.length k (Nat.le_refl _)
   rw [List.take_length, hmx] at h5
   exact Nat.lt_of_le_of_lt h5 hb
 generalize Pl.trim (Pl.mul p [a]) = T at *
 generalize Pl.mul p [a] = M at *
 clear h hp ha hb hmx
 unfold Z
 go_enter Tryz.func31, Tryz.ntmps31
 go_wp2_with fail
 rw [← hw0]
 clear hw0
 refine HV.out.mono ?_
 rintro e w1 ⟨rfl, b1⟩
 have HA1 := i' (HA0.out.below b1)
 have B1 := i' (chain B0.out b1)
 clear b1
 obtain ⟨c0, c1⟩ := HA1.out.cell 0 (by simp)
 simp only [Nat.zero_mul, Nat.zero_add, List.getElem_cons_zero] at c0 c1
 go_wp2_with fail
 refine (HS.out _).mono ?_
 rintro e w2 ⟨rfl, b2⟩
 have HA2 := i' (HA1.out.below b2)
 have B2 := i' (chain B1.out b2)
 clear c0 c1 b2
 obtain ⟨w3, hw3⟩ : ∃ w3 : World, w3 = w2.alloc (.cells #[.int .i64 0] 96) := ⟨_, rfl⟩
 have HK : Hid (Ck w3 w2.heap.size 0) := by show Ck _ _ _; rw [hw3]; exact heap_alloc_new w2 _
 have B3 : Hid (Below w.heap.size w w3) := by show Below _ _ _; rw [hw3]; exact B2.out.alloc B2.out.size _
 have HA3 : Hid (Aw w3 w.heap.size [a]) := by rw [hw3]; exact HA2.out.alloc _
 go_upto_region 4 with (fail)
 rw [← hw3]
 clear hw3
 obtain ⟨c0, c1⟩ := HA3.out.cell 0 (by simp)
 simp only [Nat.zero_mul, Nat.zero_add, List.getElem_cons_zero] at c0 c1
 obtain ⟨w4, hw4⟩ : ∃ w4 : World, w4 = w3.alloc (.cells #[.bool (zb a), .string (zs a)] 44) := ⟨_, rfl⟩
 have HK4 : Hid (Ck w4 w2.heap.size 0) := by rw [hw4]; exact HK.out.alloc _
 have B4 : Hid (Below w.heap.size w w4) := by show Below _ _ _; rw [hw4]; exact B3.out.alloc B3.out.size _
 have HA4 : Hid (Aw w4 w3.heap.size [a]) := by show Aw _ _ _; rw [hw4]; exact Aw.made w3 [a]
 go_wp2_with fail
 rw [← hw4]
 clear hw4 c0 c1
 refine (HM.out _ _ _ B4.out HK4.out (Rp.of_whole HA4.out 1 1 rfl (Nat.le_refl _) (by decide))).mono ?_
 rintro e w5 ⟨v5, rfl, r5, b5⟩
 have HK5 := i' (HK4.out.below b5)
 have B5 := i' (chain B4.out b5)
 have R5 := i' r5
 clear b5 r5
 go_wp2_with fail
 refine (HT.out _ _ R5.out).mono ?_
 rintro e w6 ⟨v6, rfl, r6, b6⟩
 obtain ⟨a6, bb6, o6, c6, rfl, -⟩ := r6.open_
 have HK6 := i' (HK5.out.below b6)
 have B6 := i' (chain B5.out b6)
 have R6 := i' r6
 clear b6 r6
 go_wp2_with fail
 refine (k'dy _ _ _ _ _ HK6.out).mono ?_
 rintro en w9 ⟨rfl, b7⟩
 have B7 := i' (chain B6.out b7)
 have R7 := i' (R6.out.below b7)
 clear b7
 go_wp2
 go_ret2
 exact ⟨_, rfl, R7.out, B7.out⟩
theorem k'lf {L : List (Bool × ByteArray)} {v : Value} {w : World} (h : Rw w v L) (z : Lim L) (r : Bool) (hr : shP L = r) :
 Calls Tryz.prog 11 #[.slice (some ⟨w.heap.size, 0, none⟩) 1 1] (w.alloc (.cells #[v] 23)) (BPost r w) := by
 have h := k'ds [L] _ _ (k'dn w h) (by intro L' hL; simp at hL; subst hL; exact z) (by simp)
 have e : [L].all shP = r := by rw [← hr]; simp
 rw [e] at h
 exact h.mono fun e w' ⟨h1, h2⟩ => ⟨h1, chain (k'56 _ _) h2⟩
theorem k'lg {L : List (Bool × ByteArray)} {v : Value} {w : World} (h : Rw w v L) (z : Small L) (r : Bool) (hr : vldP L = r) :
 Calls Tryz.prog 19 #[.slice (some ⟨w.heap.size, 0, none⟩) 1 1] (w.alloc (.cells #[v] 23)) (BPost r w) := by
 have h := k'dr [L] _ _ (k'dn w h) (by intro L' hL; simp at hL; subst hL; exact z) (by simp)
 have e : [L].all vldP = r := by rw [← hr]; simp
 rw [e] at h
 exact h.mono fun e w' ⟨h1, h2⟩ => ⟨h1, chain (k'56 _ _) h2⟩
theorem k'lh (L : List (Bool × ByteArray)) (v : Value) (b : Bool) (s : ByteArray) (w : World) (h : Rw w v L) (z : Lim L) (hz : s.size ≤ 9223372036854775807) (hs : shP L = false) :
 Calls Tryz.prog 5 #[v, .agg #[.bool b, .string s]] w (Ret (.bool true) w) := by
 obtain ⟨w0, hw0⟩ : ∃ w0 : World, w0 = w.alloc (.cells #[.bool b, .string s] 44) := ⟨_, rfl⟩
 have I3 : Hid (ZC (.bool b) (.string s) w0 w.heap.size) := by rw [hw0]; exact ZC.new rfl
 have B0 : Hid (Below w.heap.size w w0) := by rw [hw0]; exact k'56 _ _
 have HK := i' k'l8
 have HS := i' (k'lf (h.below B0.out) z _ hs)
 obtain ⟨p1, a1, o1, c1, rfl, -, -, -, -⟩ := h
 generalize L.length = n1 at *
 clear z hs
 unfold BPost at *
 unfold Ret at *
 go_enter Tryz.func5, Tryz.ntmps5
 go_upto_region 1 with (fail)
 rw [← hw0]
 clear hw0
 go_wp2_with fail
 refine (HS.out).mono ?_
 rintro e x1 ⟨rfl, b1⟩
 have E := i' (b1)
 clear b1
 go_wp2_with fail
 refine (HK.out _).mono ?_
 rintro e x2 ⟨rfl, b2⟩
 have E := i' (chain E.out b2)
 clear b2
 go_wp2
 go_ret
 exact ⟨rfl, chain B0.out E.out⟩
theorem k'li (L : List (Bool × ByteArray)) (v : Value) (b : Bool) (s : ByteArray) (w : World) (h : Rw w v L) (z : Lim L) (hz : s.size ≤ 9223372036854775807) (hs : shP L = true) (hl : 30 < s.size) :
 Calls Tryz.prog 5 #[v, .agg #[.bool b, .string s]] w (Ret (.bool true) w) := by
 obtain ⟨w0, hw0⟩ : ∃ w0 : World, w0 = w.alloc (.cells #[.bool b, .string s] 44) := ⟨_, rfl⟩
 have I3 : Hid (ZC (.bool b) (.string s) w0 w.heap.size) := by rw [hw0]; exact ZC.new rfl
 have B0 : Hid (Below w.heap.size w w0) := by rw [hw0]; exact k'56 _ _
 have HK := i' k'l8
 have HS := i' (k'lf (h.below B0.out) z _ hs)
 have f1 : (30 : Int) < (s.size : Int) := by omega
 obtain ⟨p1, a1, o1, c1, rfl, -, -, -, -⟩ := h
 generalize L.length = n1 at *
 clear z hs
 unfold BPost at *
 unfold Ret at *
 go_enter Tryz.func5, Tryz.ntmps5
 go_upto_region 1 with (fail)
 rw [← hw0]
 clear hw0
 go_wp2_with fail
 refine (HS.out).mono ?_
 rintro e x1 ⟨rfl, b1⟩
 have E := i' (b1)
 clear b1
 obtain ⟨k0, k1, _⟩ := I3.out.next E.out
 go_wp2_with fail
 refine (HK.out _).mono ?_
 rintro e x2 ⟨rfl, b2⟩
 have E := i' (chain E.out b2)
 clear b2
 go_wp2
 go_ret
 exact ⟨rfl, chain B0.out E.out⟩
theorem k'lj (L : List (Bool × ByteArray)) (v : Value) (b : Bool) (s : ByteArray) (w : World) (h : Rw w v L) (z : Lim L) (hz : s.size ≤ 9223372036854775807) (hs : shP L = true) (hl : s.size ≤ 30) (hv : vldP L = false) :
 Calls Tryz.prog 5 #[v, .agg #[.bool b, .string s]] w (Ret (.bool true) w) := by
 obtain ⟨w0, hw0⟩ : ∃ w0 : World, w0 = w.alloc (.cells #[.bool b, .string s] 44) := ⟨_, rfl⟩
 have I3 : Hid (ZC (.bool b) (.string s) w0 w.heap.size) := by rw [hw0]; exact ZC.new rfl
 have B0 : Hid (Below w.heap.size w w0) := by rw [hw0]; exact k'56 _ _
 have HK := i' k'l8
 have HS := i' (k'lf (h.below B0.out) z _ hs)
 have s1 := k'dt hs
 have f1 : ¬ (30 : Int) < (s.size : Int) := by omega
 have HA := i' (fun w' (hb : Below w0.heap.size w0 w') => k'ld L v b s w' (h.below (chain B0.out hb)) s1 (by omega) (by rw [hv]; rfl))
 have HD := i' (fun w' (hb : Below w0.heap.size w0 w') => k'jz L v w' (h.below (chain B0.out hb)) s1 hv)
 have HC := i' (fun w' (hb : Below w0.heap.size w0 w') => k'jt L v w' (h.below (chain B0.out hb)) s1 hv)
 have HP := i' (fun w' (hb : Below w0.heap.size w0 w') => k'jr L v w' (h.below (chain B0.out hb)) s1 hv)
 have HV := i' (fun w' (hb : Below w0.heap.size w0 w') => k'lg (h.below (chain B0.out hb)) s1 _ hv)
 have hz0 : Z 0 = .agg #[.bool false, .string ⟨#[]⟩] := by rfl
 rw [hz0] at HC
 clear hv s1 hz0
 unfold ResE at *
 obtain ⟨p1, a1, o1, c1, rfl, -, -, -, -⟩ := h
 generalize L.length = n1 at *
 clear z hs
 unfold BPost at *
 unfold Ret at *
 go_enter Tryz.func5, Tryz.ntmps5
 go_upto_region 1 with (fail)
 rw [← hw0]
 clear hw0
 go_wp2_with fail
 refine (HS.out).mono ?_
 rintro e x1 ⟨rfl, b1⟩
 have E := i' (b1)
 clear b1
 obtain ⟨k0, k1, _⟩ := I3.out.next E.out
 go_wp2_with fail
 refine (HA.out _ E.out).mono ?_
 rintro e x2 ⟨rfl, b2⟩
 have E := i' (chain E.out b2)
 clear b2
 go_wp2_with fail
 refine (HD.out _ E.out).mono ?_
 rintro e x3 ⟨rfl, b3⟩
 have E := i' (chain E.out b3)
 clear b3
 go_wp2_with fail
 refine (HC.out _ E.out).mono ?_
 rintro e x4 ⟨rfl, b4⟩
 have E := i' (chain E.out b4)
 clear b4
 obtain ⟨u, hu⟩ : ∃ u : World, u = x4.alloc (.cells #[.bool false, .string ⟨#[]⟩] 44) := ⟨_, rfl⟩
 have T9 : Hid (ZC (.bool false) (.string ⟨#[]⟩) u x4.heap.size) := by rw [hu]; exact ZC.new rfl
 have E : Hid (Below w0.heap.size w0 u) := by rw [hu]; exact E.out.alloc E.out.size _
 go_upto_region 6 with (fail)
 rw [← hu]
 clear hu k0 k1
 go_wp2_with fail
 refine (HP.out _ E.out).mono ?_
 rintro e x5 ⟨rfl, b5⟩
 have E := i' (chain E.out b5)
 have T9 := i' (T9.out.next b5)
 clear b5
 go_wp2_with fail
 refine (HV.out _ E.out).mono ?_
 rintro e x6 ⟨rfl, b6⟩
 have E := i' (chain E.out b6)
 have T9 := i' (T9.out.next b6)
 clear b6
 obtain ⟨m0, m1, _⟩ := T9.out
 go_wp2_with fail
 refine (HK.out _).mono ?_
 rintro e x7 ⟨rfl, b7⟩
 have E := i' (chain E.out b7)
 clear b7
 go_wp2
 go_ret
 exact ⟨rfl, chain B0.out E.out⟩
theorem k'm0 {z : Int} {n : Nat} (h : z.natAbs < D9 ^ n) (hn : n ≤ 2000) : z.natAbs < Top := (k'i3 h rfl).top (by omega)
end Go.Proofs.YtepddegphdlbeaaGreat
namespace Go.Proofs.YtepddegphdlbeaaGreat
open Go.ChangeShapes Go.WideShapes Go.ChangeAt Go.RowKit Go.Joins
open Go.ChangeMaps (open_string shut_string)
theorem k'm6 {H : Type} {enc : TypeId × Value → H} {w : World} {base : Nat} {b0 : Nat} {spare : Nat → Bool} {held : Bool} {r : Reach} {v : Value} {d : DataW H} {p : List MemPlace}
 (hv : Value.okWide Tryz.prog w r b0 44 v) (h : DataW.Trod enc Tryz.prog w base spare held 44 v d p) :
 ∃ (a : Bool) (s : ByteArray), v = .agg #[.bool a, .string s] ∧ d = .agg [.lit (.bool a), .lit (.string s.data.toList)] ∧ p = [] ∧ s.size ≤ maxLen := by
 obtain ⟨c0, c1, y0, y1, m, rfl, rfl, rfl, hy0, hy1⟩ := open_agg2 Tryz.underlying44 (by kernel_rfl) Tryz.cellsWide hv h
 obtain ⟨a, e0, rfl⟩ := DataW.trod_bool Tryz.underlying4 hy0
 obtain ⟨s, e1, rfl, hs⟩ := DataW.trod_string Tryz.underlying9 hy1
 simp at e0 e1
 subst e0 e1
 exact ⟨a, s, rfl, rfl, rfl, hs⟩
theorem k'm7 {H : Type} {enc : TypeId × Value → H} {w : World} {base : Nat} {spare : Nat → Bool} {held : Bool} {a : Bool} {s : ByteArray} (hs : s.size ≤ maxLen) :
 DataW.Trod enc Tryz.prog w base spare held 44 (.agg #[.bool a, .string s]) (.agg [.lit (.bool a), .lit (.string s.data.toList)]) [] :=
 shut_agg2 (y0 := (.lit (.bool a), [])) (y1 := (.lit (.string s.data.toList), [])) Tryz.underlying44 (by kernel_rfl) Tryz.cellsWide ⟨1, by simp [DataW.trod, Tryz.underlying4]⟩ ⟨1, by simp [DataW.trod, Tryz.underlying9, hs]⟩
end Go.Proofs.YtepddegphdlbeaaGreat
namespace Go.Proofs.YtepddegphdlbeaaGreat
open Go.RowKit
theorem k'md (p Ts Td Tp : List Int) (c : Int) (cb : Bool) (cs : ByteArray) (v : Value) (b : Bool) (s : ByteArray) (w : World) (n : Nat) (hn : p.length = n) (h : Rp w v p) (hl : s.size ≤ 30)
 (HS : ∀ w', Below w.heap.size w w' → Calls Tryz.prog 11 #[.slice (some ⟨w'.heap.size, 0, none⟩) 1 1] (w'.alloc (.cells #[v] 23)) (BPost true w'))
 (HV : ∀ w', Below w.heap.size w w' → Calls Tryz.prog 19 #[.slice (some ⟨w'.heap.size, 0, none⟩) 1 1] (w'.alloc (.cells #[v] 23)) (BPost true w'))
 (HA : ∀ w', Below w.heap.size w w' → Calls Tryz.prog 31 #[v, .agg #[.bool b, .string s]] w' (ResE 2 w'))
 (HD : ∀ w', Below w.heap.size w w' → Calls Tryz.prog 32 #[v] w' (ResP Td w'))
 (HC : ∀ w', Below w.heap.size w w' → Calls Tryz.prog 33 #[v] w' (Ret (.tuple #[.agg #[.bool cb, .string cs], .int .i64 0]) w'))
 (HP : ∀ w', Below w.heap.size w w' → Calls Tryz.prog 34 #[v] w' (ResP Tp w'))
 (HF : ∀ w', Below w.heap.size w w' → Calls Tryz.prog 21 #[v] w' (RPPost p w'))
 (HW : ∀ w', Calls Tryz.prog 35 #[.agg #[.bool b, .string s]] w' (BPost false w'))
 (HRD : ∀ w' x, RP w' x p → Calls Tryz.prog 38 #[x] w' (RPPost Td w'))
 (HRC : ∀ w' x, RP w' x p → Calls Tryz.prog 40 #[x] w' (IntPost c w'))
 (HRP : ∀ w' x, RP w' x p → Calls Tryz.prog 41 #[x] w' (RPPost Tp w'))
 (HT : ∀ w' u, Rz w' u c → Calls Tryz.prog 39 #[iV c u] w' fun e w'' => e = .returned (.agg #[.bool cb, .string cs]) ∧ Below w'.heap.size w' w'')
 (HE : ∀ T, T = Td ∨ T = Tp → ∀ w' v x, Rp w' v T → RP w' x T → Calls Tryz.prog 24 #[v, .int .i64 0, x] w' (BPost true w')) :
 Calls Tryz.prog 5 #[v, .agg #[.bool b, .string s]] w (Ret (.bool true) w) := by
 have ED := i' (HE Td (Or.inl rfl))
 have EP := i' (HE Tp (Or.inr rfl))
 obtain ⟨w0, hw0⟩ : ∃ w0 : World, w0 = w.alloc (.cells #[.bool b, .string s] 44) := ⟨_, rfl⟩
 have I3 : Hid (ZC (.bool b) (.string s) w0 w.heap.size) := by rw [hw0]; exact ZC.new rfl
 have B0 : Hid (Below w.heap.size w w0) := by rw [hw0]; exact k'56 _ _
 have HK := i' k'l8
 have HS := i' HS
 have HV := i' HV
 have HA := i' HA
 have HD := i' HD
 have HC := i' HC
 have HP := i' HP
 have HF := i' HF
 have HW := i' HW
 have HRD := i' HRD
 have HRC := i' HRC
 have HRP := i' HRP
 have HT := i' HT
 have f1 : ¬ (30 : Int) < (s.size : Int) := by omega
 obtain ⟨p1, a1, o1, c1, rfl, -, -, -, -⟩ := h.open_
 clear HE h hl
 rw [hn] at *
 clear hn
 unfold ResP at *
 unfold ResE at HA
 unfold RPPost at *
 unfold IntPost iV at *
 unfold BPost at *
 unfold Ret at *
 go_enter Tryz.func5, Tryz.ntmps5
 go_upto_region 1 with (fail)
 rw [← hw0]
 clear hw0
 go_wp2_with fail
 refine (HS.out _ B0.out).mono ?_
 rintro e x1 ⟨rfl, b1⟩
 have E := i' (chain B0.out b1)
 have I3 := i' (I3.out.next b1)
 clear b1
 obtain ⟨k0, k1, _⟩ := I3.out
 go_wp2_with fail
 refine (HA.out _ E.out).mono ?_
 rintro e x2 ⟨rfl, b2⟩
 have E := i' (chain E.out b2)
 have I3 := i' (I3.out.next b2)
 clear b2
 go_wp2_with fail
 refine (HD.out _ E.out).mono ?_
 rintro e x3 ⟨y3, rfl, r3, b3⟩
 have E := i' (chain E.out b3)
 have I3 := i' (I3.out.next b3)
 have RD := i' r3
 clear r3
 clear b3
 go_wp2_with fail
 refine (HC.out _ E.out).mono ?_
 rintro e x4 ⟨rfl, b4⟩
 have RD := i' (RD.out.below b4)
 have E := i' (chain E.out b4)
 have I3 := i' (I3.out.next b4)
 clear b4
 clear k0 k1
 obtain ⟨u, hu⟩ : ∃ u : World, u = x4.alloc (.cells #[.bool cb, .string cs] 44) := ⟨_, rfl⟩
 have T9 : Hid (ZC (.bool cb) (.string cs) u x4.heap.size) := by rw [hu]; exact ZC.new rfl
 have B9 : Hid (Below x4.heap.size x4 u) := by rw [hu]; exact k'56 _ _
 have E := i' (chain E.out B9.out)
 have I3 := i' (I3.out.next B9.out)
 have RD := i' (RD.out.below B9.out)
 go_upto_region 6 with (fail)
 rw [← hu]
 clear hu B9
 go_wp2_with fail
 refine (HP.out _ E.out).mono ?_
 rintro e x5 ⟨y5, rfl, r5, b5⟩
 have RD := i' (RD.out.below b5)
 have T9 := i' (T9.out.next b5)
 have E := i' (chain E.out b5)
 have I3 := i' (I3.out.next b5)
 have RP1 := i' r5
 clear r5
 clear b5
 go_wp2_with fail
 refine (HV.out _ E.out).mono ?_
 rintro e x6 ⟨rfl, b6⟩
 have RD := i' (RD.out.below b6)
 have RP1 := i' (RP1.out.below b6)
 have T9 := i' (T9.out.next b6)
 have E := i' (chain E.out b6)
 have I3 := i' (I3.out.next b6)
 clear b6
 go_wp2_with fail
 refine (HF.out _ E.out).mono ?_
 rintro e x7 ⟨y7, rfl, r7, b7⟩
 have RD := i' (RD.out.below b7)
 have RP1 := i' (RP1.out.below b7)
 have T9 := i' (T9.out.next b7)
 have E := i' (chain E.out b7)
 have I3 := i' (I3.out.next b7)
 have RX := i' r7
 clear r7
 clear b7
 obtain ⟨k0, k1, _⟩ := I3.out
 go_wp2_with fail
 refine (HW.out _).mono ?_
 rintro e x8 ⟨rfl, b8⟩
 have RD := i' (RD.out.below b8)
 have RP1 := i' (RP1.out.below b8)
 have RX := i' (RX.out.below b8)
 have T9 := i' (T9.out.next b8)
 have E := i' (chain E.out b8)
 have I3 := i' (I3.out.next b8)
 clear b8
 obtain ⟨m0, m1, _⟩ := T9.out
 clear T9 I3 k0 k1
 go_wp2_with fail
 go_region_held3 (fun W' => W'.cell? ⟨x4.heap.size, 0, none⟩ = some (.bool cb) ∧ W'.cell? ⟨x4.heap.size, 1, none⟩ = some (.string cs)) (go_keep)
  (first
   | (go_at_call 38; (with_reducible refine (HRD.out _ _ (RX.out.below ?psc_inva)).mono ?_); (first | exact D.out | exact (Below.refl _ _).drew); rintro e y ⟨z9, rfl, r9, b9⟩; have D := i' (show Below x8.heap.size x8 y by first | exact chain D.out b9 | exact chain ((Below.refl _ _).drew) b9); have QD := i' r9; clear r9; have p0 := keep1 D.out m0; have p1 := keep1 D.out m1; clear b9)
   | (go_at_call 24; (with_reducible refine (ED.out _ _ _ (RD.out.below ?psc_invb) (QD.out.below ?psc_invc)).mono ?_); (first | exact D.out | exact (Below.refl _ _).drew); (first | exact Below.refl _ _ | exact (Below.refl _ _).drew); rintro e y ⟨rfl, b9⟩; have D := i' (show Below x8.heap.size x8 y by first | exact chain D.out b9 | exact chain ((Below.refl _ _).drew) b9); have p0 := keep1 D.out m0; have p1 := keep1 D.out m1; clear b9)
   | (go_at_call 40; (with_reducible refine (HRC.out _ _ (RX.out.below ?psc_invd)).mono ?_); (first | exact D.out | exact (Below.refl _ _).drew); rintro e y ⟨z9, rfl, r9, b9⟩; have D := i' (show Below x8.heap.size x8 y by first | exact chain D.out b9 | exact chain ((Below.refl _ _).drew) b9); have QC := i' r9; clear r9; have p0 := keep1 D.out m0; have p1 := keep1 D.out m1; clear b9)
   | (go_at_call 39; (with_reducible refine (HT.out _ _ (Rz.below QC.out ?psc_inve)).mono ?_); (first | exact Below.refl _ _ | exact (Below.refl _ _).drew); rintro e y ⟨rfl, b9⟩; have D := i' (show Below x8.heap.size x8 y by first | exact chain D.out b9 | exact chain ((Below.refl _ _).drew) b9); have p0 := keep1 D.out m0; have p1 := keep1 D.out m1; clear b9)
   | (go_at_call 41; (with_reducible refine (HRP.out _ _ (RX.out.below ?psc_invf)).mono ?_); (first | exact D.out | exact (Below.refl _ _).drew); rintro e y ⟨z9, rfl, r9, b9⟩; have D := i' (show Below x8.heap.size x8 y by first | exact chain D.out b9 | exact chain ((Below.refl _ _).drew) b9); have QP := i' r9; clear r9; have p0 := keep1 D.out m0; have p1 := keep1 D.out m1; clear b9)
   | (go_at_call 24; (with_reducible refine (EP.out _ _ _ (RP1.out.below ?psc_invg) (QP.out.below ?psc_invh)).mono ?_); (first | exact D.out | exact (Below.refl _ _).drew); (first | exact Below.refl _ _ | exact (Below.refl _ _).drew); rintro e y ⟨rfl, b9⟩; have D := i' (show Below x8.heap.size x8 y by first | exact chain D.out b9 | exact chain ((Below.refl _ _).drew) b9); have p0 := keep1 D.out m0; have p1 := keep1 D.out m1; clear b9)
   | (go_at_call 12; (with_reducible refine (HK.out _).mono ?_); rintro e y ⟨rfl, b9⟩; have D := i' (show Below x8.heap.size x8 y by first | exact chain D.out b9 | exact chain ((Below.refl _ _).drew) b9); have p0 := keep1 D.out m0; have p1 := keep1 D.out m1; clear b9)
   | fail)
 go_wp2
 go_ret
 exact ⟨rfl, chain E.out D.out⟩
theorem k'me (p Ts Td Tp : List Int) (c c2 : Int) (cb : Bool) (cs : ByteArray) (v : Value) (b : Bool) (s : ByteArray) (w : World) (n : Nat) (hn : p.length = n) (h : Rp w v p) (hl : s.size ≤ 30)
 (HS : ∀ w', Below w.heap.size w w' → Calls Tryz.prog 11 #[.slice (some ⟨w'.heap.size, 0, none⟩) 1 1] (w'.alloc (.cells #[v] 23)) (BPost true w'))
 (HV : ∀ w', Below w.heap.size w w' → Calls Tryz.prog 19 #[.slice (some ⟨w'.heap.size, 0, none⟩) 1 1] (w'.alloc (.cells #[v] 23)) (BPost true w'))
 (HA : ∀ w', Below w.heap.size w w' → Calls Tryz.prog 31 #[v, .agg #[.bool b, .string s]] w' (ResP Ts w'))
 (HD : ∀ w', Below w.heap.size w w' → Calls Tryz.prog 32 #[v] w' (ResP Td w'))
 (HC : ∀ w', Below w.heap.size w w' → Calls Tryz.prog 33 #[v] w' (Ret (.tuple #[.agg #[.bool cb, .string cs], .int .i64 0]) w'))
 (HP : ∀ w', Below w.heap.size w w' → Calls Tryz.prog 34 #[v] w' (ResP Tp w'))
 (HF : ∀ w', Below w.heap.size w w' → Calls Tryz.prog 21 #[v] w' (RPPost p w'))
 (HW : ∀ w', Calls Tryz.prog 35 #[.agg #[.bool b, .string s]] w' (BPost true w'))
 (HG : ∀ w', Calls Tryz.prog 37 #[.agg #[.bool b, .string s]] w' (IntPost c2 w'))
 (HRS : ∀ w' x u, RP w' x p → Rz w' u c2 → Calls Tryz.prog 36 #[x, iV c2 u] w' (RPPost Ts w'))
 (HRD : ∀ w' x, RP w' x p → Calls Tryz.prog 38 #[x] w' (RPPost Td w'))
 (HRC : ∀ w' x, RP w' x p → Calls Tryz.prog 40 #[x] w' (IntPost c w'))
 (HRP : ∀ w' x, RP w' x p → Calls Tryz.prog 41 #[x] w' (RPPost Tp w'))
 (HT : ∀ w' u, Rz w' u c → Calls Tryz.prog 39 #[iV c u] w' fun e w'' => e = .returned (.agg #[.bool cb, .string cs]) ∧ Below w'.heap.size w' w'')
 (HE : ∀ T, T = Ts ∨ T = Td ∨ T = Tp → ∀ w' v x, Rp w' v T → RP w' x T → Calls Tryz.prog 24 #[v, .int .i64 0, x] w' (BPost true w')) :
 Calls Tryz.prog 5 #[v, .agg #[.bool b, .string s]] w (Ret (.bool true) w) := by
 have ES := i' (HE Ts (Or.inl rfl))
 have ED := i' (HE Td (Or.inr (Or.inl rfl)))
 have EP := i' (HE Tp (Or.inr (Or.inr rfl)))
 obtain ⟨w0, hw0⟩ : ∃ w0 : World, w0 = w.alloc (.cells #[.bool b, .string s] 44) := ⟨_, rfl⟩
 have I3 : Hid (ZC (.bool b) (.string s) w0 w.heap.size) := by rw [hw0]; exact ZC.new rfl
 have B0 : Hid (Below w.heap.size w w0) := by rw [hw0]; exact k'56 _ _
 have HK := i' k'l8
 have HS := i' HS
 have HV := i' HV
 have HA := i' HA
 have HD := i' HD
 have HC := i' HC
 have HP := i' HP
 have HF := i' HF
 have HW := i' HW
 have HG := i' HG
 have HRS := i' HRS
 have HRD := i' HRD
 have HRC := i' HRC
 have HRP := i' HRP
 have HT := i' HT
 have f1 : ¬ (30 : Int) < (s.size : Int) := by omega
 obtain ⟨p1, a1, o1, c1, rfl, -, -, -, -⟩ := h.open_
 clear HE h hl
 rw [hn] at *
 clear hn
 unfold ResP at *
 unfold RPPost at *
 unfold IntPost iV at *
 unfold BPost at *
 unfold Ret at *
 go_enter Tryz.func5, Tryz.ntmps5
 go_upto_region 1 with (fail)
 rw [← hw0]
 clear hw0
 go_wp2_with fail
 refine (HS.out _ B0.out).mono ?_
 rintro e x1 ⟨rfl, b1⟩
 have E := i' (chain B0.out b1)
 have I3 := i' (I3.out.next b1)
 clear b1
 obtain ⟨k0, k1, _⟩ := I3.out
 go_wp2_with fail
 refine (HA.out _ E.out).mono ?_
 rintro e x2 ⟨y2, rfl, r2, b2⟩
 have E := i' (chain E.out b2)
 have I3 := i' (I3.out.next b2)
 have RS := i' r2
 clear r2
 clear b2
 go_wp2_with fail
 refine (HD.out _ E.out).mono ?_
 rintro e x3 ⟨y3, rfl, r3, b3⟩
 have RS := i' (RS.out.below b3)
 have E := i' (chain E.out b3)
 have I3 := i' (I3.out.next b3)
 have RD := i' r3
 clear r3
 clear b3
 go_wp2_with fail
 refine (HC.out _ E.out).mono ?_
 rintro e x4 ⟨rfl, b4⟩
 have RS := i' (RS.out.below b4)
 have RD := i' (RD.out.below b4)
 have E := i' (chain E.out b4)
 have I3 := i' (I3.out.next b4)
 clear b4
 clear k0 k1
 obtain ⟨u, hu⟩ : ∃ u : World, u = x4.alloc (.cells #[.bool cb, .string cs] 44) := ⟨_, rfl⟩
 have T9 : Hid (ZC (.bool cb) (.string cs) u x4.heap.size) := by rw [hu]; exact ZC.new rfl
 have B9 : Hid (Below x4.heap.size x4 u) := by rw [hu]; exact k'56 _ _
 have E := i' (chain E.out B9.out)
 have I3 := i' (I3.out.next B9.out)
 have RS := i' (RS.out.below B9.out)
 have RD := i' (RD.out.below B9.out)
 go_upto_region 6 with (fail)
 rw [← hu]
 clear hu B9
 go_wp2_with fail
 refine (HP.out _ E.out).mono ?_
 rintro e x5 ⟨y5, rfl, r5, b5⟩
 have RS := i' (RS.out.below b5)
 have RD := i' (RD.out.below b5)
 have T9 := i' (T9.out.next b5)
 have E := i' (chain E.out b5)
 have I3 := i' (I3.out.next b5)
 have RP1 := i' r5
 clear r5
 clear b5
 go_wp2_with fail
 refine (HV.out _ E.out).mono ?_
 rintro e x6 ⟨rfl, b6⟩
 have RS := i' (RS.out.below b6)
 have RD := i' (RD.out.below b6)
 have RP1 := i' (RP1.out.below b6)
 have T9 := i' (T9.out.next b6)
 have E := i' (chain E.out b6)
 have I3 := i' (I3.out.next b6)
 clear b6
 go_wp2_with fail
 refine (HF.out _ E.out).mono ?_
 rintro e x7 ⟨y7, rfl, r7, b7⟩
 have RS := i' (RS.out.below b7)
 have RD := i' (RD.out.below b7)
 have RP1 := i' (RP1.out.below b7)
 have T9 := i' (T9.out.next b7)
 have E := i' (chain E.out b7)
 have I3 := i' (I3.out.next b7)
 have RX := i' r7
 clear r7
 clear b7
 obtain ⟨k0, k1, _⟩ := I3.out
 go_wp2_with fail
 refine (HW.out _).mono ?_
 rintro e x8 ⟨rfl, b8⟩
 have RS := i' (RS.out.below b8)
 have RD := i' (RD.out.below b8)
 have RP1 := i' (RP1.out.below b8)
 have RX := i' (RX.out.below b8)
 have T9 := i' (T9.out.next b8)
 have E := i' (chain E.out b8)
 have I3 := i' (I3.out.next b8)
 clear b8
 clear k0 k1
 obtain ⟨k0, k1, _⟩ := I3.out
 go_wp2_with fail
 refine (HG.out _).mono ?_
 rintro e x9 ⟨y9, rfl, r9, b9⟩
 have RS := i' (RS.out.below b9)
 have RD := i' (RD.out.below b9)
 have RP1 := i' (RP1.out.below b9)
 have RX := i' (RX.out.below b9)
 have T9 := i' (T9.out.next b9)
 have E := i' (chain E.out b9)
 have I3 := i' (I3.out.next b9)
 have RG := i' r9
 clear r9
 clear b9
 go_wp2_with fail
 refine (HRS.out _ _ _ RX.out RG.out).mono ?_
 rintro e x10 ⟨y10, rfl, r10, b10⟩
 have RS := i' (RS.out.below b10)
 have RD := i' (RD.out.below b10)
 have RP1 := i' (RP1.out.below b10)
 have RX := i' (RX.out.below b10)
 have RG := i' (RG.out.below b10)
 have T9 := i' (T9.out.next b10)
 have E := i' (chain E.out b10)
 have I3 := i' (I3.out.next b10)
 have ZS := i' r10
 clear r10
 clear b10
 go_wp2_with fail
 refine (ES.out _ _ _ RS.out ZS.out).mono ?_
 rintro e x11 ⟨rfl, b11⟩
 have RS := i' (RS.out.below b11)
 have RD := i' (RD.out.below b11)
 have RP1 := i' (RP1.out.below b11)
 have RX := i' (RX.out.below b11)
 have RG := i' (RG.out.below b11)
 have ZS := i' (ZS.out.below b11)
 have T9 := i' (T9.out.next b11)
 have E := i' (chain E.out b11)
 have I3 := i' (I3.out.next b11)
 clear b11
 clear RS RG ZS
 obtain ⟨m0, m1, _⟩ := T9.out
 clear T9 I3 k0 k1
 go_wp2_with fail
 go_region_held3 (fun W' => W'.cell? ⟨x4.heap.size, 0, none⟩ = some (.bool cb) ∧ W'.cell? ⟨x4.heap.size, 1, none⟩ = some (.string cs)) (go_keep)
  (first
   | (go_at_call 38; (with_reducible refine (HRD.out _ _ (RX.out.below ?psc_oka)).mono ?_); (first | exact D.out | exact (Below.refl _ _).drew); rintro e y ⟨z9, rfl, r9, b9⟩; have D := i' (show Below x11.heap.size x11 y by first | exact chain D.out b9 | exact chain ((Below.refl _ _).drew) b9); have QD := i' r9; clear r9; have p0 := keep1 D.out m0; have p1 := keep1 D.out m1; clear b9)
   | (go_at_call 24; (with_reducible refine (ED.out _ _ _ (RD.out.below ?psc_okb) (QD.out.below ?psc_okc)).mono ?_); (first | exact D.out | exact (Below.refl _ _).drew); (first | exact Below.refl _ _ | exact (Below.refl _ _).drew); rintro e y ⟨rfl, b9⟩; have D := i' (show Below x11.heap.size x11 y by first | exact chain D.out b9 | exact chain ((Below.refl _ _).drew) b9); have p0 := keep1 D.out m0; have p1 := keep1 D.out m1; clear b9)
   | (go_at_call 40; (with_reducible refine (HRC.out _ _ (RX.out.below ?psc_okd)).mono ?_); (first | exact D.out | exact (Below.refl _ _).drew); rintro e y ⟨z9, rfl, r9, b9⟩; have D := i' (show Below x11.heap.size x11 y by first | exact chain D.out b9 | exact chain ((Below.refl _ _).drew) b9); have QC := i' r9; clear r9; have p0 := keep1 D.out m0; have p1 := keep1 D.out m1; clear b9)
   | (go_at_call 39; (with_reducible refine (HT.out _ _ (Rz.below QC.out ?psc_oke)).mono ?_); (first | exact Below.refl _ _ | exact (Below.refl _ _).drew); rintro e y ⟨rfl, b9⟩; have D := i' (show Below x11.heap.size x11 y by first | exact chain D.out b9 | exact chain ((Below.refl _ _).drew) b9); have p0 := keep1 D.out m0; have p1 := keep1 D.out m1; clear b9)
   | (go_at_call 41; (with_reducible refine (HRP.out _ _ (RX.out.below ?psc_okf)).mono ?_); (first | exact D.out | exact (Below.refl _ _).drew); rintro e y ⟨z9, rfl, r9, b9⟩; have D := i' (show Below x11.heap.size x11 y by first | exact chain D.out b9 | exact chain ((Below.refl _ _).drew) b9); have QP := i' r9; clear r9; have p0 := keep1 D.out m0; have p1 := keep1 D.out m1; clear b9)
   | (go_at_call 24; (with_reducible refine (EP.out _ _ _ (RP1.out.below ?psc_okg) (QP.out.below ?psc_okh)).mono ?_); (first | exact D.out | exact (Below.refl _ _).drew); (first | exact Below.refl _ _ | exact (Below.refl _ _).drew); rintro e y ⟨rfl, b9⟩; have D := i' (show Below x11.heap.size x11 y by first | exact chain D.out b9 | exact chain ((Below.refl _ _).drew) b9); have p0 := keep1 D.out m0; have p1 := keep1 D.out m1; clear b9)
   | (go_at_call 12; (with_reducible refine (HK.out _).mono ?_); rintro e y ⟨rfl, b9⟩; have D := i' (show Below x11.heap.size x11 y by first | exact chain D.out b9 | exact chain ((Below.refl _ _).drew) b9); have p0 := keep1 D.out m0; have p1 := keep1 D.out m1; clear b9)
   | fail)
 go_wp2
 go_ret
 exact ⟨rfl, chain E.out D.out⟩
theorem k'mf (p : List Int) (k : Nat) (h : k < p.length) : Nat.gcd (Pl.cont (p.take k)) (p[k]).natAbs = Pl.cont (p.take (k + 1)) := by
 unfold Pl.cont
 rw [List.take_succ_eq_append_getElem h, List.foldl_append]
 rfl
theorem k'mg {n : Nat} {p : List Int} (s : Sz n p) (k : Nat) : Pl.cont (p.take k) < D9 ^ n := by
 induction k with
 | zero => simp [Pl.cont]; exact Nat.pow_pos (by decide)
 | succ k ih =>
  by_cases h : k < p.length
  ·rw [← k'mf p k h]
   rcases Nat.eq_zero_or_pos (Pl.cont (p.take k)) with h0 | h0
   ·rw [h0, Nat.gcd_zero_left]
    have := s k
    rwa [Pl.cf_lt h] at this
   ·exact Nat.lt_of_le_of_lt (Nat.gcd_le_left _ h0) ih
  ·rw [List.take_of_length_le (by omega)]
   rw [List.take_of_length_le (by omega)] at ih
   exact ih
theorem Sz.prim {n : Nat} {p : List Int} (s : Sz n p) : Sz n (Pl.prim p) := fun k => by
 rw [Pl.cf_prim]
 exact Nat.lt_of_le_of_lt (Int.natAbs_ediv_le_natAbs _ _) (s k)
theorem k'mh (n : Nat) (hn : n ≤ 90000) (p : List Int) (v : Value) (w : World) (h : RP w v p) (l : p.length ≤ 1000) (s : Sz n p) :
 Calls Tryz.prog 40 #[v] w (IntPost (Pl.cont p : Nat) w) := by
 obtain ⟨w0, hw0⟩ : ∃ w0 : World, w0 = (w.alloc (.cells #[.bool false, .slice none 0 0] 52)).alloc (.cells #[.bool false, .slice none 0 0] 52) := ⟨_, rfl⟩
 have hb0 : Hid (Below w.heap.size w w0) := by rw [hw0]; exact (k'56 _ _).alloc (by simp) _
 have I2 : Hid (Bz w0 w.heap.size 0) := by rw [hw0]; exact (Bz.made (k'h6 w)).alloc _
 have T0 : Hid (Bz w0 (w.heap.size + 1) 0) := by
  show Bz _ _ _
  rw [hw0]
  have := Bz.made (k'h6 (w.alloc (.cells #[.bool false, .slice none 0 0] 52)))
  simpa using this
 have HZ0 : Hid (w0.heap.size = w.heap.size + 2) := by show _ = _; rw [hw0]; simp
 have HG := i' (fun k (hk : k < p.length) u1 u2 w' (g1 : Rz w' u1 ((Pl.cont (p.take k) : Nat) : Int)) (g2 : Rz w' u2 p[k]) => k'7j _ _ u1 u2 w' g1 g2 (by
  refine Nat.le_trans (len9 (k := n) ?_) (by omega)
  rw [Int.natAbs_natCast]; exact k'mg s k) (by
  have := s.len k
  rw [Pl.cf_lt hk] at this
  omega))
 have HC : ∀ k (hk : k < p.length), (Nat.gcd ((Pl.cont (p.take k) : Nat) : Int).natAbs (p[k]).natAbs) = Pl.cont (p.take (k + 1)) := fun k hk => by rw [Int.natAbs_natCast]; exact k'mf p k hk
 have HG : Hid (∀ k (hk : k < p.length) u1 u2 w', Rz w' u1 ((Pl.cont (p.take k) : Nat) : Int) → Rz w' u2 p[k] → Calls Tryz.prog 97 #[iV ((Pl.cont (p.take k) : Nat) : Int) u1, iV p[k] u2] w' (IntPost ((Pl.cont (p.take (k + 1)) : Nat) : Int) w')) := fun k hk u1 u2 w' g1 g2 => by rw [← HC k hk]; exact HG.out k hk u1 u2 w' g1 g2
 have Hw0 := i' hw0
 clear hw0 s hn HC
 obtain ⟨f, hf⟩ : ∃ f : Nat → Int, f = fun k => ((Pl.cont (p.take k) : Nat) : Int) := ⟨_, rfl⟩
 have HF : ∀ k, ((Pl.cont (p.take k) : Nat) : Int) = f k := fun k => by rw [hf]
 simp only [HF] at HG
 have E0 : Hid (f 0 = 0) := by show _ = _; rw [hf]; rfl
 have EN : Hid (((Pl.cont p : Nat) : Int) = f p.length) := by show _ = _; rw [hf]; simp only; rw [List.take_length]
 rw [EN.out]
 obtain ⟨a1, b1, o1, c1, rfl, -, -, h4, h5⟩ := h
 have H4 := i' h4
 have H5 := i' h5
 obtain ⟨n1, hn1⟩ : ∃ n, n = p.length := ⟨_, rfl⟩
 rw [← hn1] at l ⊢
 have HN := i' hn1
 clear h4 h5 HF hf EN hn1
 go_enter Tryz.func40, Tryz.ntmps40
 go_upto_region 2 with (fail)
 rw [← Hw0.out]
 clear Hw0
 go_wp2
 go_loopw [4] (fun iv wr => ∃ (wz : World) (k : Nat), wz = wr ∧ iv = .int .i64 (k : Int) ∧ k ≤ n1 ∧ Hid (Bz wz (w.heap.size + 1) (f k)) ∧ Hid (Bz wz w.heap.size 0) ∧ Hid (Below w.heap.size w wz))
  (fun iv _ => n1 - (intOf iv).toNat)
 case atStart => exact ⟨w0, 0, rfl, rfl, Nat.zero_le _, by rw [E0.out]; exact T0.out, I2.out, hb0.out⟩
 case round =>
  obtain ⟨wz, k, rfl, rfl, hk, ht, hI, hd⟩ := hrel
  clear T0
  obtain ⟨pz, cz, R, k0, k1, k2, k3⟩ := ht.out.open_
  have HR := i' R
  clear R
  by_cases hlt : k < n1
  ·have hkp : k < p.length := by have h5 : n1 = p.length := HN.out; omega
   have hkk : (k : Int) < (n1 : Int) := by omega
   have hk0 : (0 : Int) ≤ (k : Int) := by omega
   obtain rfl := H4.out (by intro e; rw [e] at hkp; exact absurd hkp (Nat.not_lt_zero _))
   obtain ⟨uk, g0, g1, g2⟩ := H5.out k hkp
   have G0 := i' (And.intro g0 g1)
   have hbl1 := World.block_lt_of_cell? w _ g0
   simp only at hbl1
   have c0 := keep1 hd.out g0
   have c1 := keep1 hd.out g1
   have HG := i' (fun w' (h1 : Rz w' (.slice pz (Nm.dg D9 (f k).natAbs).length cz) (f k)) (hb : Below wz.heap.size wz w') => HG.out k hkp _ uk w' h1 ((g2.below hd.out).below hb))
   have q1 : ¬ b1 = w.heap.size + 1 := by omega
   generalize p[k] = x at *
   obtain ⟨pk, bk, ok, ck, rfl, -⟩ := g2
   unfold iV at HG
   clear g0 g1 hkp
   go_upto_region 5 with (fail)
   refine wp_region_noPanic ?_
   refine wp_region_held_drew (S := (fun W' => W'.cell? ⟨b1, o1 + k * 2, none⟩ = some (.bool (decide (x < 0))) ∧ W'.cell? ⟨b1, o1 + k * 2 + 1, none⟩ = some (.slice pk (Nm.dg D9 x.natAbs).length ck))) (by kernel_rfl) ?_ (fun hHeld => ?_)
   ·(try dsimp only)
    exact ⟨c0, c1⟩
   refine wpAnyH_take (i := 1) (oi := ?oi1) (v := ?v1) ?hi1 (by kernel_rfl) (by kernel_rfl) (by kernel_rfl) (fun _ _ _ h => h) (Or.inl ⟨?hw1, ?hy1⟩) (by assumption) ?rest1
   case hi1 => simp only [List.getElem?_toArray, List.getElem?_cons_succ, List.getElem?_cons_zero]; rfl
   case hw1 => rfl
   case hy1 =>
    intro w hSw
    (try dsimp only at hSw)
    go_simp
    (try with_reducible rfl)
   (try simp only [Act.put, List.setIfInBounds_toArray, List.set_cons_zero, List.set_cons_succ])
   refine wpAnyH_take (i := 2) (oi := ?oi2) (v := ?v2) ?hi2 (by kernel_rfl) (by kernel_rfl) (by kernel_rfl) (fun _ _ _ h => h) (Or.inl ⟨?hw2, ?hy2⟩) (by assumption) ?rest2
   case hi2 => simp only [List.getElem?_toArray, List.getElem?_cons_succ, List.getElem?_cons_zero]; rfl
   case hw2 => rfl
   case hy2 =>
    intro w hSw
    (try dsimp only at hSw)
    go_simp
    (try with_reducible rfl)
   (try simp only [Act.put, List.setIfInBounds_toArray, List.set_cons_zero, List.set_cons_succ])
   refine wpAnyH_take (i := 3) (oi := ?oi3) (v := ?v3) ?hi3 (by kernel_rfl) (by kernel_rfl) (by kernel_rfl) (fun _ _ _ h => h) (Or.inl ⟨?hw3, ?hy3⟩) (by assumption) ?rest3
   case hi3 => simp only [List.getElem?_toArray, List.getElem?_cons_succ, List.getElem?_cons_zero]; rfl
   case hw3 => rfl
   case hy3 =>
    intro w hSw
    (try dsimp only at hSw)
    go_simp
    (try with_reducible rfl)
   (try simp only [Act.put, List.setIfInBounds_toArray, List.set_cons_zero, List.set_cons_succ])
   refine wpAnyH_take (i := 4) (oi := ?oi4) (v := ?v4) ?hi4 (by kernel_rfl) (by kernel_rfl) (by kernel_rfl) (fun _ _ _ h => h) (Or.inl ⟨?hw4, ?hy4⟩) (by assumption) ?rest4
   case hi4 => simp only [List.getElem?_toArray, List.getElem?_cons_succ, List.getElem?_cons_zero]; rfl
   case hw4 => rfl
   case hy4 =>
    intro w hSw
    (try dsimp only at hSw)
    go_simp
    (try with_reducible rfl)
   (try simp only [Act.put, List.setIfInBounds_toArray, List.set_cons_zero, List.set_cons_succ])
   refine wpAnyH_ready (rs := [0]) (by kernel_rfl) (by simp) ?_
   refine AllReadyH.cons (o := ?oi5) ?hi5 ?rest5 AllReadyH.nil
   case hi5 => simp only [List.getElem?_toArray, List.getElem?_cons_succ, List.getElem?_cons_zero]; rfl
   intro K hK
   go_simp
   refine hK.out _ _ ?_ (fun hHeld => ?_)
   ·(try dsimp only)
    exact ⟨c0, c1⟩
   clear hK K
   (try simp only [Act.put, List.setIfInBounds_toArray, List.set_cons_zero, List.set_cons_succ])
   refine wpAnyH_ready (rs := [5]) (by kernel_rfl) (by simp) ?_
   refine AllReadyH.cons (o := ?oi6) ?hi6 ?rest6 AllReadyH.nil
   case hi6 => simp only [List.getElem?_toArray, List.getElem?_cons_succ, List.getElem?_cons_zero]; rfl
   intro K hK
   go_simp
   (with_reducible refine (HG.out wz.drew HR.out.drew (Below.refl _ _).drew).mono ?_)
   rintro e y ⟨v2, rfl, r2, b2⟩
   have d2 := chain ((Below.refl wz.heap.size wz).drew) b2
   unfold iV
   have ZZ := i' (ht.out.below d2)
   have C2 := i' (k'5c (chain hd.out d2) (g := w.heap.size + 1) (by omega) (.bool (decide (f (k + 1) < 0))) v2)
   have CI := i' ((hI.out.below d2).other ZZ.out (by omega) (.bool (decide (f (k + 1) < 0))) v2)
   have TT := i' (ZZ.out.store r2)
   have p0 := keep1 d2 c0
   have p1 := keep1 d2 c1
   obtain ⟨_, _, -, j0, j1, j2, j3⟩ := ZZ.out.open_
   obtain ⟨pq2, bb2, oo2, cc2, rfl, rr2⟩ := r2
   clear b2 d2 rr2
   (try go_wp2_with fail)
   refine hK.out _ _ ?_ (fun hHeld => ?_)
   ·(try dsimp only)
    exact ⟨p0, p1⟩
   clear hK K
   (try simp only [Act.put, List.setIfInBounds_toArray, List.set_cons_zero, List.set_cons_succ])
   refine wpAnyH_ready (rs := [6]) (by kernel_rfl) (by simp) ?_
   refine AllReadyH.cons (o := ?oi7) ?hi7 ?rest7 AllReadyH.nil
   case hi7 => simp only [List.getElem?_toArray, List.getElem?_cons_succ, List.getElem?_cons_zero]; rfl
   intro K hK
   go_simp
   refine hK.out _ _ ?_ (fun hHeld => ?_)
   ·(try dsimp only)
    exact ⟨far2 (by simp only; omega) p0, far2 (by simp only; omega) p1⟩
   clear hK K
   (try simp only [Act.put, List.setIfInBounds_toArray, List.set_cons_zero, List.set_cons_succ])
   refine wpAnyH_done (by kernel_rfl) ?_ _
   refine NoPanic.normal ?_
   (try dsimp only [Exit.then])
   go_wp2
   go_roundw
   case rel => exact ⟨_, k + 1, rfl, by go_num, by omega, TT.out, CI.out, C2.out⟩
   case measure => simp [intOf]; omega
  ·obtain rfl : k = n1 := by omega
   have ZI := hI
   obtain ⟨_, _, -, m0, m1, m2, m3⟩ := ZI.out.open_
   have f1 : ¬ w.heap.size + 1 = w.heap.size := by omega
   have f2 : ¬ w.heap.size = w.heap.size + 1 := by omega
   have HZ := i' (k'5c hd.out (g := w.heap.size) (Nat.le_refl _) (.bool (decide (f k < 0))) (.slice pz (Nm.dg D9 (f k).natAbs).length cz))
   have HR2 := i' (HR.out.stored ZI.out (.bool (decide (f k < 0))) (.slice pz (Nm.dg D9 (f k).natAbs).length cz))
   go_wp2
   exact bodyPost_ret (v := .agg #[.bool (decide (f k < 0)), .slice pz (Nm.dg D9 (f k).natAbs).length cz]) (by simp [results, Tryz.results40, go_sem, m0, m1]) rfl ⟨_, rfl, HR2.out, HZ.out⟩
theorem k'mi (n : Nat) (hn : n ≤ 80000) (p : List Int) (v : Value) (w : World) (h : RP w v p) (l : p.length ≤ 1000) (s : Sz n p) (hnr : Pl.Nrm p) :
 Calls Tryz.prog 41 #[v] w (RPPost (Pl.prim p) w) := by
 have HC := i' (k'mh n (by omega) p v w h l s)
 have HQ := i' (fun k (hk : k < p.length) u1 u2 w' (g1 : Rz w' u1 p[k]) (g2 : Rz w' u2 ((Pl.cont p : Nat) : Int)) => k'ad p[k] ((Pl.cont p : Nat) : Int) u1 u2 w' (n + 1) (by omega) (by
  have := s k
  rw [Pl.cf_lt hk] at this
  exact Nat.lt_of_lt_of_le this (Nat.pow_le_pow_right (by decide) (Nat.le_succ _))) (by
  have := k'mg s p.length
  rw [List.take_length] at this
  rw [Int.natAbs_natCast]
  exact Nat.lt_of_lt_of_le this (Nat.pow_le_pow_right (by decide) (Nat.le_succ _))) g1 g2 (by
  have := Pl.cont_pos hnr (by intro e; rw [e] at hk; exact absurd hk (Nat.not_lt_zero _))
  omega))
 obtain ⟨f, hf⟩ : ∃ f : Nat → Int, f = fun k => Pl.cf p k / ((Pl.cont p : Nat) : Int) := ⟨_, rfl⟩
 have HF := i' (fun k (hk : k < p.length) => show p[k] / ((Pl.cont p : Nat) : Int) = f k by rw [hf]; simp only; rw [Pl.cf_lt hk])
 have HT : Hid (tab f p.length = Pl.prim p) := Pl.ext_cf (by rw [k'ht, Pl.prim_length]) fun k hk => by
  rw [k'ht] at hk
  rw [k'hu, Pl.cf_prim, hf, if_pos hk]
 rw [← HT.out]
 generalize ((Pl.cont p : Nat) : Int) = g at *
 clear hf s hn hnr HT
 obtain ⟨a1, b1, o1, c1, rfl, -, -, h4, h5⟩ := h
 have H4 := i' h4
 have H5 := i' h5
 obtain ⟨n1, hn1⟩ : ∃ n, n = p.length := ⟨_, rfl⟩
 rw [← hn1] at l HC ⊢
 have HN := i' hn1
 clear h4 h5 hn1
 unfold IntPost iV at HC
 generalize hbg : decide (g < 0) = bg at *
 have HBG := i' hbg
 clear hbg
 go_enter Tryz.func41, Tryz.ntmps41
 go_wp2_with fail
 refine HC.out.mono ?_
 rintro e y0 ⟨v0, rfl, r0, b0⟩
 obtain ⟨u0, hu0⟩ : ∃ u0 : World, u0 = y0.alloc (.cells #[.bool bg, v0] 52) := ⟨_, rfl⟩
 have T0 : Hid (ZC (.bool bg) v0 u0 y0.heap.size) := by rw [hu0]; exact ZC.new rfl
 have R0 : Hid (Rz u0 v0 g) := by rw [hu0]; exact r0.allocd _
 have D0 : Hid (Below w.heap.size w u0) := by rw [hu0]; exact b0.alloc b0.size _
 obtain ⟨p0, bb0, o0, c0, rfl, rr0⟩ := r0
 have Hu0 := i' hu0
 clear b0 rr0 hu0 HC
 generalize (Nm.dg D9 g.natAbs).length = lg at *
 go_upto_region 2 with (fail)
 rw [← Hu0.out]
 clear Hu0
 go_wp2
 go_loopw [4, 5] (fun v iv wr => ∃ (wz : World) (k : Nat), wz = wr ∧ k ≤ n1 ∧ iv = .int .i64 (k : Int) ∧ Hid (RowP wz u0.heap.size v (tab f k)) ∧ Hid (Below u0.heap.size u0 wz))
  (fun _ iv _ => n1 - (intOf iv).toNat)
 case atStart => exact ⟨u0, 0, rfl, Nat.zero_le _, rfl, RowP.nil _ _, Below.refl _ _⟩
 case round =>
  obtain ⟨wz, k, rfl, hk, rfl, hrow, hd⟩ := hrel
  have hk0 : (0 : Int) ≤ (k : Int) := by omega
  by_cases hlt : k < n1
  ·have hkp : k < p.length := by have h5 : n1 = p.length := HN.out; omega
   have hkk : (k : Int) < (n1 : Int) := by omega
   obtain rfl := H4.out (by intro e; rw [e] at hkp; exact absurd hkp (Nat.not_lt_zero _))
   obtain ⟨uk, g0, g1, g2⟩ := H5.out k hkp
   have d0 := keep1 (chain D0.out hd.out) g0
   have d1 := keep1 (chain D0.out hd.out) g1
   obtain ⟨d2, d3, -, -⟩ := T0.out.next hd.out
   have HQ := i' (fun w' (hb : Below wz.heap.size wz w') => HQ.out k hkp uk (.slice p0 lg c0) w' ((g2.below (chain D0.out hd.out)).below hb) ((R0.out.below hd.out).below hb))
   rw [HF.out k hkp] at HQ
   have HS := i' (k'hs f k)
   have hb1 := World.block_lt_of_cell? w _ g0
   simp only at hb1
   have hy0 := T0.out.lt
   have hw0 := hd.out.size
   have hdw := D0.out.size
   have e1 : ¬ b1 = wz.heap.size := by omega
   have e2 : ¬ b1 = wz.heap.size + 1 := by omega
   have e3 : ¬ y0.heap.size = wz.heap.size := by omega
   have e4 : ¬ y0.heap.size = wz.heap.size + 1 := by omega
   have e5 : ¬ wz.heap.size = b1 := by omega
   have e6 : ¬ wz.heap.size + 1 = b1 := by omega
   have e7 : ¬ wz.heap.size = y0.heap.size := by omega
   have e8 : ¬ wz.heap.size + 1 = y0.heap.size := by omega
   generalize p[k] = x at *
   generalize f k = z at *
   generalize x % g = zr at *
   obtain ⟨pk, bk, ok, ck, rfl, -⟩ := g2
   unfold iV at HQ
   rw [HBG.out] at HQ
   unfold QIPost iV at HQ
   generalize (Nm.dg D9 x.natAbs).length = lx at *
   generalize decide (x < 0) = bx at *
   obtain ⟨bz, hbz⟩ : ∃ b, decide (z < 0) = b := ⟨_, rfl⟩
   obtain ⟨bzr, hbzr⟩ : ∃ b, decide (zr < 0) = b := ⟨_, rfl⟩
   rw [hbz, hbzr] at HQ
   have HBZ := i' hbz
   clear g0 g1 hkp hbz hbzr hb1 hw0 hdw hy0
   go_upto_region 6 with (fail)
   go_cut [6, 7] (fun sa sb wx => ∃ (ga gb : Nat) (pa pb : Option Addr) (na ca nb cb : Nat), sa = .pointer (some ⟨ga, 0, none⟩) ∧ sb = .pointer (some ⟨gb, 0, none⟩) ∧ Hid (CutI (.bool bz) (.bool bzr) (.slice pa na ca) (.slice pb nb cb) (Nm.dg D9 z.natAbs) (Nm.dg D9 zr.natAbs) wz.heap.size wz wx ga gb))
   case first =>
    rename_i J0 K0 hRJ hMK
    go_region_held3 (fun W' => W'.cell? ⟨b1, o1 + k * 2, none⟩ = some (.bool bx) ∧ W'.cell? ⟨b1, o1 + k * 2 + 1, none⟩ = some (.slice pk lx ck) ∧ W'.cell? ⟨y0.heap.size, 0, none⟩ = some (.bool bg) ∧ W'.cell? ⟨y0.heap.size, 1, none⟩ = some (.slice p0 lg c0)) (go_keep)
     (first
      | (go_at_call 98; (with_reducible refine (HQ.out _ (by first | exact Below.refl _ _ | exact (Below.refl _ _).drew | exact k'56 _ _ | exact k'57 _ _ _ | exact (k'56 _ _).drew | exact (k'57 _ _ _).drew)).mono ?_); rintro e y9 ⟨v9, x9, rfl, r9, s9, b9⟩; (try unfold iV); (try (have b9 := k'5b b9)); have c9 : Below wz.heap.size wz y9 := chain (by first | exact Below.refl _ _ | exact (Below.refl _ _).drew | exact k'56 _ _ | exact k'57 _ _ _ | exact (k'56 _ _).drew | exact (k'57 _ _ _).drew) b9; have p0a := keep1 c9 d0; have p0b := keep1 c9 d1; have p0c := keep1 c9 d2; have p0d := keep1 c9 d3; have hz9 := c9.size; (try (have A0 := i' (ZC.made (g := wz.heap.size) rfl b9); obtain ⟨A0a, A0b, A0c, A0d⟩ := A0.out)); (try (have A0 := i' (ZC.made1 (g := wz.heap.size) rfl b9); have B0 := i' (ZC.made (g := wz.heap.size + 1) (by simp) b9); obtain ⟨A0a, A0b, A0c, A0d⟩ := A0.out; obtain ⟨B0a, B0b, B0c, B0d⟩ := B0.out)); (try (have L01 := i' (k'58 (g := wz.heap.size) rfl b9); obtain ⟨l01x, l01y, l01z⟩ := L01.out)); (try (have MM := i' (k'59 (g := wz.heap.size) rfl b9); have L01 := i' MM.out.1; have M01 := i' MM.out.2; clear MM; obtain ⟨l01x, l01y, l01z⟩ := L01.out; obtain ⟨m01x, m01y, m01z⟩ := M01.out)); have G9 := i' (And.intro r9 s9); obtain ⟨pq9, bq9, oq9, cq9, rfl, rrq9⟩ := r9; obtain ⟨ps9, bs9, os9, cs9, rfl, rrs9⟩ := s9; clear rrq9 rrs9)
      | fail)
    all_goals
     obtain ⟨r1, r2⟩ := G9.out
     refine hMK _ _ (Met.intro (hRJ _ _ ?_))
     (repeat apply Exists.intro)
     refine ⟨?_, rfl⟩
     refine ⟨_, _, pq9, ps9, (Nm.dg D9 z.natAbs).length, cq9, (Nm.dg D9 zr.natAbs).length, cs9, rfl, rfl, ?_⟩
     show CutI (.bool bz) (.bool bzr) (.slice pq9 _ cq9) (.slice ps9 _ cs9) (Nm.dg D9 z.natAbs) (Nm.dg D9 zr.natAbs) wz.heap.size wz _ _ _
     have sA0 : wz.heap.size ≤ wz.heap.size := Nat.le_refl _
     have sB0 : wz.heap.size ≤ wz.heap.size + 1 := Nat.le_succ _
     have sA2 : wz.heap.size ≤ y9.heap.size := c9.size
     have n0 : ¬ wz.heap.size = wz.heap.size + 1 := Nat.ne_of_lt (Nat.lt_succ_self _)
     have m0 : ¬ wz.heap.size + 1 = wz.heap.size := fun e => n0 e.symm
     first
      | with_reducible exact CutI.s1 r1 r2 c9 sA2
      | with_reducible exact CutI.s2 r1 r2 c9 sA2
      | with_reducible exact CutI.s3 A0.out sA0 r1 r2 c9 sA2
      | with_reducible exact CutI.s4 A0.out sA0 r1 r2 c9 sA2
      | with_reducible exact CutI.s3 B0.out sB0 r1 r2 c9 sA2
      | with_reducible exact CutI.s4 B0.out sB0 r1 r2 c9 sA2
      | with_reducible exact CutI.s5 A0.out sA0 B0.out sB0 n0 r1 r2 c9
      | with_reducible exact CutI.s5 B0.out sB0 A0.out sA0 m0 r1 r2 c9
      | fail
   obtain ⟨ga, gb, pa, pb, na, ca, nb, cb, rfl, rfl, hcut⟩ := hcut
   obtain ⟨_, T6, -, R6, -, bxx⟩ := hcut.out
   obtain ⟨k0, k1, -, -⟩ := T6
   have HX5 := i' (hrow.out.below bxx)
   have HB5 := i' (chain hd.out bxx)
   have HR5 := i' R6
   clear bxx R6 d0 d1 d2 d3 hcut e1 e2 e3 e4 e5 e6 e7 e8
   have HLk : Hid ((tab f k).length ≤ 100000) := by show _ ≤ _; rw [k'ht]; omega
   go_wp2_with (at_builtin; rw [← HBZ.out]; refine k'h5 rfl rfl _ _ rfl rfl rfl HX5.out HR5.out HLk.out HB5.out ?_)
   intro v' w1 hrow1 hb1 _
   have HN1 := i' hrow1
   have HB1 := i' hb1
   rw [HS.out] at HN1
   clear hrow1 hb1
   go_wp2
   go_roundw
   case rel => exact ⟨_, k + 1, rfl, by omega, by go_num, HN1.out, HB1.out⟩
   case measure => simp [intOf]; omega
  ·obtain rfl : k = n1 := by omega
   have HRo := i' hrow.out.rp
   have HB6 := i' (chain D0.out hd.out)
   go_wp2
   go_ret
   exact ⟨_, rfl, HRo.out, HB6.out⟩
theorem k'mj (p : List Int) : derL p = tab (fun k => Pl.cf p (k + 1) * ((k : Int) + 1)) (p.length - 1) := rfl
theorem k'mk (n : Nat) (hn : n ≤ 90000) (p : List Int) (v : Value) (w : World) (h : RP w v p) (l : p.length ≤ 1000) (s : Sz n p) :
 Calls Tryz.prog 38 #[v] w (RPPost (derL p) w) := by
 obtain ⟨f, hf⟩ : ∃ f : Nat → Int, f = fun k => Pl.cf p (k + 1) * ((k : Int) + 1) := ⟨_, rfl⟩
 have HNm := i' (fun (k : Nat) (hk : k ≤ 1000) w' => k'8f ((k : Int) + 1) w' (by omega) (by omega))
 have HM := i' (fun (k : Nat) (hk : k ≤ 1000) u1 u2 w' (g1 : Rz w' u1 (Pl.cf p (k + 1))) (g2 : Rz w' u2 ((k : Int) + 1)) => k'7b (Pl.cf p (k + 1)) ((k : Int) + 1) u1 u2 w' g1 g2 (Nat.le_trans (s.len (k + 1)) (by omega)) (Nat.le_trans (len9 (k := 1) (by show _ < 1000000000 ^ 1; omega)) (by omega)))
 have HF : ∀ k : Nat, Pl.cf p (k + 1) * ((k : Int) + 1) = f k := fun k => by rw [hf]
 simp only [HF] at HM
 have HT : Hid (tab f (p.length - 1) = derL p) := by show _ = _; rw [k'mj, hf]
 rw [← HT.out]
 clear HF hf s hn HT
 obtain ⟨a1, b1, o1, c1, rfl, -, -, h4, h5⟩ := h
 have H4 := i' h4
 have H5 := i' h5
 obtain ⟨n1, hn1⟩ : ∃ n, n = p.length := ⟨_, rfl⟩
 rw [← hn1] at l ⊢
 have HN := i' hn1
 clear hn1 h4 h5
 go_enter Tryz.func38, Tryz.ntmps38
 go_wp2
 go_loopw [3, 4] (fun v iv wr => ∃ (wz : World) (k : Nat), wz = wr ∧ k ≤ n1 - 1 ∧ iv = .int .i64 ((k : Int) + 1) ∧ Hid (RowP wz w.heap.size v (tab f k)) ∧ Hid (Below w.heap.size w wz))
  (fun _ iv _ => n1 - (intOf iv).toNat)
 case atStart => exact ⟨w, 0, rfl, Nat.zero_le _, rfl, RowP.nil _ _, Below.refl _ _⟩
 case round =>
  obtain ⟨wz, k, rfl, hk, rfl, hrow, hbl⟩ := hrel
  have hk0 : (0 : Int) ≤ (k : Int) + 1 := by omega
  by_cases hlt : k + 1 < n1
  ·have hkp : k + 1 < p.length := by have h5 : n1 = p.length := HN.out; omega
   have hkk : (k : Int) + 1 < (n1 : Int) := by omega
   have hk2 : k ≤ 1000 := by omega
   have hkb : (k : Int) + 1 ≤ 2000 := by omega
   obtain rfl := H4.out (by intro e; rw [e] at hkp; exact absurd hkp (Nat.not_lt_zero _))
   obtain ⟨uk, g0, g1, g2⟩ := H5.out (k + 1) hkp
   rw [← Pl.cf_lt hkp] at g0 g2
   rw [show (k + 1) * 2 = ((k : Int) + 1).toNat * 2 by omega] at g0 g1
   have HM := i' (fun u2 w' (g : Rz w' u2 ((k : Int) + 1)) (hb : Below w.heap.size w w') => HM.out k hk2 uk u2 w' (g2.below hb) g)
   have HNm := i' (HNm.out k hk2)
   have HS := i' (k'hs f k)
   generalize Pl.cf p (k + 1) = x at *
   generalize f k = z at *
   obtain ⟨i, hi⟩ : ∃ i : Int, i = (k : Int) + 1 := ⟨_, rfl⟩
   have HI := i' hi
   rw [← hi] at HM HNm hkk hk0 hkb g0 g1 ⊢
   have G0 := i' (And.intro g0 g1)
   have c0 := keep1 hbl.out G0.out.1
   have c1' := keep1 hbl.out G0.out.2
   obtain ⟨pk, bk, ok, ck, rfl, -⟩ := g2
   unfold iV at HM
   unfold IntPost iV at HNm
   clear g0 g1 hi hlt hkp hk2
   have hii : ((i.toNat : Nat) : Int) = i := by omega
   go_upto_region 5 with (fail)
   go_region_held3 (fun W' => W'.cell? ⟨b1, o1 + i.toNat * 2, none⟩ = some (.bool (decide (x < 0))) ∧ W'.cell? ⟨b1, o1 + i.toNat * 2 + 1, none⟩ = some (.slice pk (Nm.dg D9 x.natAbs).length ck)) (go_keep)
    (first
     | (go_at_call 74; (with_reducible refine (HNm.out _).mono ?_); rintro e w4 ⟨u4, rfl, r4, b4⟩; have d4 := chain (hbl.out.drew) b4; have p0 := keep1 d4 G0.out.1; have p1 := keep1 d4 G0.out.2; have HR4 := i' r4; have HX4 := i' (hrow.out.below (chain ((Below.refl _ _).drew) b4)); have HB4 := i' d4; clear r4 b4 d4)
     | (go_at_call 83; (with_reducible refine (HM.out _ _ HR4.out HB4.out).mono ?_); rintro e w5 ⟨u5, rfl, r5, b5⟩; unfold iV; have d5 := chain HB4.out b5; have p0 := keep1 d5 G0.out.1; have p1 := keep1 d5 G0.out.2; have HR5 := i' r5; have HX5 := i' (HX4.out.below b5); have HB5 := i' d5; clear r5 b5 d5)
     | (rw [if_pos (by rfl)]; refine k'h4 rfl _ _ rfl rfl rfl HX5.out HR5.out (by rw [k'ht]; omega) HB5.out ?_; intro v' w1 hrow1 hb1 _; have p0 := keep1 hb1 G0.out.1; have p1 := keep1 hb1 G0.out.2; have HN1 := i' hrow1; have HB1 := i' hb1; clear hrow1 hb1)
     | fail)
   rw [HS.out] at HN1
   go_wp2
   go_roundw
   case rel => exact ⟨_, k + 1, rfl, by have := HI.out; omega, by rw [HI.out]; go_num, HN1.out, HB1.out⟩
   case measure => simp [intOf]; omega
  ·obtain rfl : k = n1 - 1 := by omega
   have hkk : ¬ ((n1 - 1 : Nat) : Int) + 1 < (n1 : Int) := by omega
   have HRo := i' hrow.out.rp
   go_wp2
   go_ret
   exact ⟨_, rfl, HRo.out, hbl.out⟩
def Ap (w : World) (g : Nat) (p : List Int) : Prop := ∃ us : List Value, us.length = p.length ∧ w.heap[g]? = some (.cells (rv p us).toArray 52 (0, 0)) ∧ ∀ k (h : k < us.length) (h2 : k < p.length), Rz w us[k] p[k]
theorem Ap.lt {w : World} {g : Nat} {p : List Int} (h : Ap w g p) : g < w.heap.size := by obtain ⟨us, _, h, _⟩ := h; exact lt_of_block h
theorem Ap.cell {w : World} {g : Nat} {p : List Int} (h : Ap w g p) (k : Nat) (hk : k < p.length) : ∃ u, w.cell? ⟨g, k * 2, none⟩ = some (.bool (decide (p[k] < 0))) ∧ w.cell? ⟨g, k * 2 + 1, none⟩ = some u ∧ Rz w u p[k] := by
 obtain ⟨us, hl, h, hz⟩ := h
 obtain ⟨h1, h2⟩ := k'df hl k hk
 exact ⟨us[k], by rw [cell_of_row w g _ _ _ _ h, List.getElem?_toArray]; exact h1, by rw [cell_of_row w g _ _ _ _ h, List.getElem?_toArray]; exact h2, hz k (by omega) hk⟩
theorem Ap.free {w : World} {g : Nat} {p : List Int} (h : Ap w g p) (k : Nat) : w.frozen? ⟨g, k, none⟩ = false := by obtain ⟨us, _, h, _⟩ := h; exact frozen_of_row w g k _ _ h
theorem Ap.below {w w' : World} {g : Nat} {p : List Int} (h : Ap w g p) (hb : Below w.heap.size w w') : Ap w' g p := by
 obtain ⟨us, hl, h, hz⟩ := h
 exact ⟨us, hl, (hb.block g (lt_of_block h)).trans h, fun k h1 h2 => (hz k h1 h2).below hb⟩
theorem Ap.row {w : World} {g B n : Nat} {p : List Int} (h : Ap w g p) (hB : B ≤ g) (hn : p.length = n) (hm : n ≤ maxLen) : RowP w B (.slice (some ⟨g, 0, none⟩) n n) p := by
 obtain ⟨us, hl, h, hz⟩ := h
 subst hn
 refine ⟨us, hl, ⟨k'dd hl, Or.inr ⟨g, p.length, _, rfl, hB, h, Nat.le_refl _, hm, ?_, ?_⟩⟩, hz⟩
 ·simp [k'dd hl]
 ·simp only [List.toList_toArray]
  rw [List.take_of_length_le (by rw [k'dd hl]; exact Nat.le_refl _)]
theorem k'ml {p : List Int} {us : List Value} (h : us.length = p.length) (k : Nat) (z : Int) (u : Value) : ((rv p us).set (k * 2) (.bool (decide (z < 0)))).set (k * 2 + 1) u = rv (p.set k z) (us.set k u) := by
 induction p generalizing us k with
 | nil => cases us with
  | nil => rfl
  | cons u us => simp at h
 | cons y p ih =>
  cases us with
  | nil => simp at h
  | cons x us =>
   cases k with
   | zero => rfl
   | succ k =>
    have h2 : us.length = p.length := by simpa using h
    rw [show (k + 1) * 2 = k * 2 + 1 + 1 by omega]
    simp only [rv, List.set_cons_succ]
    rw [ih h2]
theorem Rz.set {w : World} {v old u : Value} {z : Int} {p : Addr} (h : Rz w v z) (hp : w.cell? p = some old) (hno : ∀ n, old ≠ .int .i64 n) : Rz (w.setCell p u) v z := by
 obtain ⟨q, b, off, cap, h1, h2, h3, h4, h5, h6⟩ := h
 refine ⟨q, b, off, cap, h1, h2, h3, h4, h5.imp id (fun g => ⟨g.1, g.2.set _ _⟩), fun k hk => ?_⟩
 rw [World.cell?_setCell_other]
 ·exact h6 k hk
 ·intro e
  subst e
  rw [h6 k hk] at hp
  exact hno _ (Option.some.inj hp).symm
theorem Ap.set {w : World} {g : Nat} {p : List Int} {z : Int} {u : Value} (h : Ap w g p) (k : Nat) (hk : k < p.length) (hu : Rz w u z) : Ap ((w.setCell ⟨g, k * 2, none⟩ (.bool (decide (z < 0)))).setCell ⟨g, k * 2 + 1, none⟩ u) g (p.set k z) := by
 obtain ⟨u0, g0, g1, g2⟩ := h.cell k hk
 obtain ⟨us, hl, h, hz⟩ := h
 have h1 := heap_setCell_same w g (k * 2) _ _ (.bool (decide (z < 0))) h
 have h2 := heap_setCell_same _ g (k * 2 + 1) _ _ u h1
 have hs : ∀ {v' : Value} {z' : Int}, Rz w v' z' → Rz ((w.setCell ⟨g, k * 2, none⟩ (.bool (decide (z < 0)))).setCell ⟨g, k * 2 + 1, none⟩ u) v' z' := fun h' =>
  (h'.set (u := .bool (decide (z < 0))) g0 (fun _ => by simp)).set (old := u0) ((World.cell?_setCell_other w ⟨g, k * 2, none⟩ ⟨g, k * 2 + 1, none⟩ (.bool (decide (z < 0))) (by simp)).trans g1) g2.noint
 refine ⟨us.set k u, by simp [hl], h2.trans ?_, fun j h3 h4 => ?_⟩
 ·rw [← k'ml hl]
  simp
 ·by_cases e : j = k
  ·subst e
   have e1 : (us.set j u)[j]'h3 = u := by simp
   have e2 : (p.set j z)[j]'h4 = z := by simp
   rw [e1, e2]
   exact hs hu
  ·have e1 : (us.set k u)[j]'h3 = us[j]'(by simpa using h3) := by rw [List.getElem_set_ne (Ne.symm e)]
   have e2 : (p.set k z)[j]'h4 = p[j]'(by simpa using h4) := by rw [List.getElem_set_ne (Ne.symm e)]
   rw [e1, e2]
   exact hs (hz j _ _)
theorem Ap.stored {w : World} {g : Nat} {p : List Int} (h : Ap w g p) (k : Nat) (hk : k < p.length) {v : Value} {z : Int} (hv : Rz w v z) (x : Value) (u : Value) : Rz ((w.setCell ⟨g, k * 2, none⟩ x).setCell ⟨g, k * 2 + 1, none⟩ u) v z := by
 obtain ⟨u0, g0, g1, g2⟩ := h.cell k hk
 exact (hv.set (u := x) g0 (fun _ => by simp)).set (old := u0) ((World.cell?_setCell_other w ⟨g, k * 2, none⟩ ⟨g, k * 2 + 1, none⟩ x (by simp)).trans g1) g2.noint
theorem Ap.made (w : World) (n : Nat) : Ap (w.alloc (.cells (rv (List.replicate n 0) (List.replicate n (.slice none 0 0))).toArray 52)) w.heap.size (List.replicate n 0) :=
 ⟨List.replicate n (.slice none 0 0), by simp, heap_alloc_new w _, fun k h1 h2 => by
  have e1 : (List.replicate n (Value.slice none 0 0))[k]'h1 = .slice none 0 0 := by simp
  have e2 : (List.replicate n (0 : Int))[k]'h2 = 0 := by simp
  rw [e1, e2]
  exact k'h6 _⟩
theorem mx_lt {n : Nat} {p : List Int} (s : Sz n p) : Pl.mx p < D9 ^ n := by
 have h : Pl.mx p ≤ D9 ^ n - 1 := Pl.mx_le fun k _ => by have := s k; omega
 have : 0 < D9 ^ n := Nat.pow_pos (by decide)
 omega
theorem k'mu (p : List Int) (a : Int) (k : Nat) : Pl.cf (Pl.mul p [a]) k = a * Pl.cf p k := by
 induction p generalizing k with
 | nil => rw [Pl.mul, Pl.cf_nil, Int.mul_zero]
 | cons x p ih =>
  rw [Pl.mul, Pl.cf_add, Pl.cf_scl]
  cases k with
  | zero => rw [Pl.cf_cons_zero, Pl.cf_cons_zero, Pl.cf_cons_zero, Int.add_zero, Int.mul_comm]
  | succ k => rw [Pl.cf_cons_succ, Pl.cf_cons_succ, Pl.cf_cons_succ, Pl.cf_nil, ih, Int.mul_zero, Int.zero_add]
theorem k'mv (p : List Int) (a : Int) : Pl.trim (Pl.mul p [a]) = Pl.trim (Pl.scl a p) :=
 Pl.nrm_ext (Pl.nrm_trim _) (Pl.nrm_trim _) fun k => by rw [Pl.cf_trim, Pl.cf_trim, k'mu, Pl.cf_scl]
theorem k'mw {x y n m : Nat} (hx : x < D9 ^ n) (hy : y < D9 ^ m) : x * y < D9 ^ (n + m) := by
 rw [Nat.pow_add]
 exact Nat.mul_lt_mul'' hx hy
theorem k'mx {x n : Nat} (h : x < D9 ^ n) (hn : n ≤ 2000) : x < Top := by
 have := k'm0 (z := (x : Int)) (by rw [Int.natAbs_natCast]; exact h) hn
 rwa [Int.natAbs_natCast] at this
theorem k'my {n : Nat} {p : List Int} (s : Sz n p) (hl : p.length ≤ 1000) : Pl.sm p < D9 ^ (1 + n) := by
 have h1 := Pl.sm_le p
 have h2 := mx_lt s
 refine Nat.lt_of_le_of_lt h1 (k'mw (by unfold D9; omega) h2)
theorem k'mz {n : Nat} {p : List Int} (s : Sz n p) (hl : p.length ≤ 1000) : Sz (n + 1) (derL p) ∧ ∀ k, k < p.length - 1 → (Pl.cf p (k + 1) * ((k : Int) + 1)).natAbs < D9 ^ (n + 1) := by
 have key : ∀ k, k < p.length - 1 → (Pl.cf p (k + 1) * ((k : Int) + 1)).natAbs < D9 ^ (n + 1) := by
  intro k hk
  rw [Int.natAbs_mul]
  exact k'mw (s (k + 1)) (by unfold D9; omega)
 refine ⟨fun k => ?_, key⟩
 rcases Nat.lt_or_ge k (derL p).length with g | g
 ·rw [Pl.cf_lt g]
  have h2 : k < p.length - 1 := by rwa [k'jy] at g
  have := key k h2
  simpa [derL] using this
 ·rw [Pl.cf_ge g]; exact Nat.pow_pos (by decide)
theorem k'n0 {n : Nat} {p : List Int} (s : Sz n p) : Pl.cont p < D9 ^ n := by
 have := k'mg s p.length
 rwa [List.take_length] at this
theorem to_zz (z : Int) {n : Nat} (h : z.natAbs < D9 ^ n) (hn : n ≤ 2000) (w : World) (u : Value) (hu : Rz w u z) : Calls Tryz.prog 39 #[iV z u] w fun e w' => e = .returned (.agg #[.bool (zb z), .string (zs z)]) ∧ Below w.heap.size w w' := by
 have := k'7y z u w hu ((k'i3 h rfl).len (by omega))
 unfold ToPost at this
 rwa [wz_eq] at this
theorem k'n1 (p : List Int) (v : Value) (b : Bool) (s : ByteArray) (w : World) (h : Rp w v p) (hp : VP p) (g : shP (zl p) = true) (hz : Lim (zl p)) (hl : s.size ≤ 30) :
 Calls Tryz.prog 5 #[v, .agg #[.bool b, .string s]] w (Ret (.bool true) w) := by
 have s1 := k'i5 g
 obtain ⟨N, hN⟩ : ∃ N : Nat, N = 16 := ⟨_, rfl⟩
 rw [← hN] at s1
 have l1 := k'dw g hp.len
 have sm := k'd7 hp.top
 have HS := fun w' (hb : Below w.heap.size w w') => k'lf (h.below hb) hz true g
 have HV := fun w' (hb : Below w.heap.size w w') => k'lg (h.below hb) sm true hp.ok
 have HD : ∀ w', Below w.heap.size w w' → Calls Tryz.prog 32 #[v] w' (ResP (derL p) w') := by
  intro w' hb
  by_cases h0 : p = []
  ·have h' := h.below hb
   subst h0
   exact k'k0 v w' h' hp
  ·exact k'k1 p v w' (h.below hb) hp h0 (fun k hk => k'm0 ((k'mz s1 (by omega)).2 k hk) (by omega))
 have HC := fun w' (hb : Below w.heap.size w w') => k'ju p v w' (h.below hb) hp
 have HP := fun w' (hb : Below w.heap.size w w') => k'js p v w' (h.below hb) hp
 have HF := fun w' (hb : Below w.heap.size w w') => k'dk p v w' (h.below hb) (by omega) hp.top
 have HRD := fun w' x (hx : RP w' x p) => k'mk N (by omega) p x w' hx (by omega) s1
 have HRC := fun w' x (hx : RP w' x p) => k'mh N (by omega) p x w' hx (by omega) s1
 have HRP := fun w' x (hx : RP w' x p) => k'mi N (by omega) p x w' hx (by omega) s1 hp.nrm
 have HT := fun w' u (hu : Rz w' u ((Pl.cont p : Nat) : Int)) => to_zz ((Pl.cont p : Nat) : Int) (n := N) (by rw [Int.natAbs_natCast]; exact k'n0 s1) (by omega) w' u hu
 have HED : ∀ w' v x, Rp w' v (derL p) → RP w' x (derL p) → Calls Tryz.prog 24 #[v, .int .i64 0, x] w' (BPost true w') :=
  fun w' v x hv hx => k'jj _ v x w' hv hx (by rw [k'jy]; omega) ((k'mz s1 (by omega)).1.top (by omega)) ((k'mz s1 (by omega)).1.len9 (by omega))
 have HEP : ∀ w' v x, Rp w' v (Pl.prim p) → RP w' x (Pl.prim p) → Calls Tryz.prog 24 #[v, .int .i64 0, x] w' (BPost true w') :=
  fun w' v x hv hx => k'jj _ v x w' hv hx (by rw [Pl.prim_length]; omega) (s1.prim.top (by omega)) (s1.prim.len9 (by omega))
 have HW := fun w' => k'5v b s w' (by omega)
 cases hv : vld b s with
 | false =>
  rw [hv] at HW
  refine k'md p [] (derL p) (Pl.prim p) _ _ _ v b s w p.length rfl h hl HS HV (fun w' hb => k'ld (zl p) v b s w' (h.below hb) sm (by omega) (by rw [hv]; simp)) HD HC HP HF HW HRD HRC HRP HT ?_
  rintro T (rfl | rfl)
  ·exact HED
  ·exact HEP
 | true =>
  rw [hv] at HW
  obtain ⟨a, ha⟩ : ∃ a, a = sg b (bv s) := ⟨_, rfl⟩
  have hzb := zb_sg hv
  rw [← ha] at hzb
  have ha9 : a.natAbs < D9 ^ 30 := by
   have h1 := bvk (k := 30) rfl hl
   have h2 : a.natAbs = bv s := by rw [ha]; unfold sg; split <;> omega
   rw [h2]
   exact Nat.lt_of_lt_of_le h1 (Nat.pow_le_pow_left (by decide) 30)
  obtain ⟨M, hM⟩ : ∃ M : Nat, M = 30 := ⟨_, rfl⟩
  rw [← hM] at ha9
  have hat := k'm0 ha9 (by omega)
  have s3 : Sz (M + N) (Pl.trim (Pl.scl a p)) := (s1.scl ha9).trim
  refine k'me p (Pl.trim (Pl.scl a p)) (derL p) (Pl.prim p) _ a _ _ v b s w p.length rfl h hl HS HV (fun w' hb => ?_) HD HC HP HF HW (fun w' => ?_) (fun w' x u hx hu => k'hw N M (by omega) (by omega) p a x u w' hx hu (by omega) s1 ha9) HRD HRC HRP HT ?_
  ·have h3 := k'le p v a w' (h.below hb) hp hat (k'mx (k'mw (k'my s1 (by omega)) ha9) (by omega))
   rw [k'mv] at h3
   unfold Z at h3
   rwa [hzb.1, hzb.2] at h3
  ·have h3 := k'94 b s w' (by omega)
   rwa [← ha] at h3
  ·rintro T (rfl | rfl | rfl)
   ·exact fun w' v x hv hx => k'jj _ v x w' hv hx (Nat.le_trans (Pl.trim_length _) (by rw [Pl.scl_length]; omega)) (s3.top (by omega)) (s3.len9 (by omega))
   ·exact HED
   ·exact HEP
theorem k'n2 (L : List (Bool × ByteArray)) (v : Value) (b : Bool) (s : ByteArray) (w : World) (h : Rw w v L) (z : Lim L) (hz : s.size ≤ 9223372036854775807) :
 Calls Tryz.prog 5 #[v, .agg #[.bool b, .string s]] w (Ret (.bool true) w) := by
 cases hs : shP L with
 | false => exact k'lh L v b s w h z hz hs
 | true =>
  by_cases hl : s.size ≤ 30
  ·cases hv : vldP L with
   | false => exact k'lj L v b s w h z hz hs hl hv
   | true =>
    obtain ⟨p, hp, rfl⟩ := VP.of hv
    exact k'n1 p v b s w h hp hs z hl
  ·exact k'li L v b s w h z hz hs (by omega)
end Go.Proofs.YtepddegphdlbeaaGreat
namespace Go.Proofs.YtepddegphdlbeaaGreat
open Go.ChangeShapes Go.WideShapes Go.ChangeAt Go.RowKit Go.Joins
open Go.ChangeMaps (open_string shut_string)
theorem k'n3 (os : Os) (started : os.Started) (H : Type) (enc : TypeId × Value → H) :
 ReturnsInHanded {} Tryz.checked os 5 .any (Rows.polyScalesSpec.pre6 enc Tryz.prog Tryz.f5 Rows.polyScalesRow.domain false) (Rows.polyScalesSpec.post enc Tryz.prog Tryz.f5 false true false false) := by
 refine returnsInHanded_of_change (C := Tryz.checked) Tryz.own started (by kernel_rfl) Tryz.func5
  (ChangeSpec.witness6 (enc := enc) (C := Tryz.checked) false ⟨#[], #[.slice none 0 0, .agg #[.bool false, .string ⟨#[]⟩]], []⟩ 8 (by kernel_rfl) (by kernel_rfl) (by kernel_rfl) (by kernel_rfl)) ?_
 intro W base args ds gs before hval0 hW hcnd _
 have hval : ∀ (j : Nat) t v, Tryz.f5.params[j]? = some t → args[j]? = some v → Value.okWide Tryz.prog W .any base t v := hval0
 have hW' := hW
 obtain ⟨p, q, hA0, hV, rfl, hfz, hnd⟩ := hW
 have hA : DataW.TrodAll enc Tryz.prog W 0 (fun _ => true) true Tryz.f5.params.toList args.toList ds p := hA0
 rw [Tryz.params5] at hA hval
 obtain ⟨v0, v1, d0, d1, p0, p1, rfl, rfl, rfl, h0, h1⟩ := trodAll_two hA
 obtain ⟨rfl, rfl⟩ := trodVars_none hV
 obtain ⟨L0, r0, z0, t0⟩ := k'm9 (hval 0 23 v0 rfl rfl) h0
 obtain ⟨b, s, rfl, rfl, rfl, hs⟩ := k'm6 (hval 1 44 v1 rfl rfl) h1
 clear hA0 hval0
 refine (k'n2 L0 v0 b s W r0 z0 (by unfold maxLen at hs; omega)).mono fun e W' ⟨he, bel⟩ => ?_
 subst he
 exact ⟨_, rfl, _, _, _, [], _, [], hW', trodAll_mk1 (shut_bool Tryz.underlying4 _), trodAll_mk2 (t0 W' bel) (k'm7 hs), rfl, bel.frame _, fun h => by cases h⟩
theorem pscales_holds : Rows.PolyScalesSaid :=
 OpenClaim.holds_of_wide 5 Tryz.f5 rfl rfl rfl rfl rfl rfl rfl ⟨rfl, rfl, rfl, rfl, rfl⟩ rfl rfl rfl rfl rfl (by kernel_rfl) Tryz.func5 (by kernel_rfl)
  (of_decide_eq_true (by kernel_rfl)) (by unfold Func.isWrapper; first | (rw [if_pos (by decide +kernel)]; kernel_rfl) | (rw [if_neg (by decide +kernel)]; exact ⟨rfl, rfl⟩))
  (fun os started H enc _ => k'n3 os started H enc)
end Go.Proofs.YtepddegphdlbeaaGreat
