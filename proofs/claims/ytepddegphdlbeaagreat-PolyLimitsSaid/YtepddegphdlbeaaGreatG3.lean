/- What the theorem leans on, part G3. -/
import Derived.Test.YtepddegphdlbeaaGreatG2
import Derived.Test.YtepddegphdlbeaaGreatG1
import Derived.Test.YtepddegphdlbeaaGreatG0
import Derived.Test.YtepddegphdlbeaaGreatProg
import Derived.WalkKit
import Derived.WalkSpells
import Derived.WalkLawsBesides
import Derived.Lib.Hide
import Derived.Deep.QuietTactic
import Derived.BigQuiet
import Derived.Shelf.Small.Bits
import Derived.Shelf.Small.Wraps
import Derived.Shelf.Strconv.Itoa0
import Derived.Shelf.Bits.Mul64
import Derived.Ground.Names2Prog
import Derived.Shelf.Slices.SearchI
import Derived.Shelf.Spec.BitsCarry
import Derived.Deep.LoopGhost
import Derived.Deep.RegionHeld3
import Derived.Deep.DeepCutAuto
set_option maxRecDepth 100000
set_option maxHeartbeats 16000000
set_option linter.all false
namespace Go.Proofs.YtepddegphdlbeaaGreat
open Go.RowKit
theorem k'4d {s : ByteArray} (hc : Can s) (h0 : 0 < s.size) : ∃ l : Nat, lenB s = l ∧ 1 ≤ l ∧ 2 ^ (l - 1) ≤ bv s ∧ bv s < 2 ^ l := by
 have hne := hc h0
 have h1 : s[0].toNat ≠ 0 := fun h3 => hne (UInt8.toNat_inj.1 h3)
 have h2 : s[0].toNat < 256 := s[0].toNat_lt
 obtain ⟨b1, b2, b3⟩ := k'1a _ _ (Nat.le_refl _) h1 (by omega)
 have e : s.data.toList = s[0] :: s.data.toList.tail := by
  cases hd : s.data.toList with
  | nil => have : s.data.toList.length = s.size := rfl; rw [hd] at this; simp at this; omega
  | cons x l =>
   have : s[0] = x := by
    have h2 : s[0] = s.data.toList[0]'(by simpa using h0) := rfl
    rw [h2]; simp [hd]
   rw [this]; rfl
 have hl : s.data.toList.tail.length = s.size - 1 := by rw [List.length_tail]; rfl
 have hv : bv s = Nm.val 256 (s.data.toList.tail.map UInt8.toNat).reverse + 256 ^ (s.size - 1) * s[0].toNat := by
  unfold bv rev
  rw [e, List.map_cons, List.reverse_cons, Nm.val_snoc, List.length_reverse, List.length_map, List.tail_cons, hl]
 have hlt := Nm.val_lt (k'2o s.data.toList.tail)
 rw [List.length_reverse, List.length_map, hl] at hlt
 refine ⟨8 * (s.size - 1) + Lib.bitLen s[0].toNat, ?_, by omega, ?_, ?_⟩
 ·rw [lenB, dif_pos h0]; omega
 ·rw [hv, show 8 * (s.size - 1) + Lib.bitLen s[0].toNat - 1 = 8 * (s.size - 1) + (Lib.bitLen s[0].toNat - 1) by omega, Nat.pow_add, show (2 : Nat) ^ (8 * (s.size - 1)) = 256 ^ (s.size - 1) by rw [Nat.pow_mul]]
  exact Nat.le_trans (Nat.mul_le_mul_left _ b2) (Nat.le_add_left _ _)
 ·rw [hv, Nat.pow_add, show (2 : Nat) ^ (8 * (s.size - 1)) = 256 ^ (s.size - 1) by rw [Nat.pow_mul]]
  have : 256 ^ (s.size - 1) * (s[0].toNat + 1) ≤ 256 ^ (s.size - 1) * 2 ^ Lib.bitLen s[0].toNat := Nat.mul_le_mul_left _ b3
  rw [Nat.mul_add, Nat.mul_one] at this
  omega
theorem k'4e (s : ByteArray) (hs : s.size ≤ 8192) : 0 ≤ lenB s ∧ lenB s ≤ 70000 := by
 unfold lenB
 split
 ·next h => have := k'1b s[0].toNat (by have h3 : s[0].toNat < 256 := s[0].toNat_lt; omega); omega
 ·omega
theorem k'4f {s : ByteArray} (hs : s.size ≤ 8192) : lenB s ≤ 65536 := by
 unfold lenB
 split
 ·next h =>
  have h3 : s[0].toNat < 2 ^ 8 := s[0].toNat_lt
  have := Lib.bitLen_le s[0].toNat 8 (by decide) h3
  omega
 ·omega
theorem k'4g {s t : ByteArray} (h1 : Can s) (h2 : Can t) (z1 : s.size ≤ 8192) (z2 : t.size ≤ 8192) (h : 65536 < lenB s + lenB t - 1) : Top ≤ bv s * bv t := by
 have b : ∀ s : ByteArray, s.size = 0 → lenB s = 0 := fun s h => by unfold lenB; rw [dif_neg (by omega)]
 have y1 := k'4f z1
 have y2 := k'4f z2
 rcases Nat.eq_zero_or_pos s.size with g1 | g1
 ·rw [b s g1] at h; omega
 ·rcases Nat.eq_zero_or_pos t.size with g2 | g2
  ·rw [b t g2] at h; omega
  ·obtain ⟨l1, e1, a1, c1, _⟩ := k'4d h1 g1
   obtain ⟨l2, e2, a2, c2, _⟩ := k'4d h2 g2
   rw [e1, e2] at h
   have h5 := Nat.mul_le_mul c1 c2
   rw [← Nat.pow_add] at h5
   refine Nat.le_trans ?_ h5
   rw [Top]
   exact Nat.pow_le_pow_right (by decide) (by rw [k'3m]; omega)
theorem k'4h {m n : Nat} (h1 : m < Top) (h2 : n < Top) : (Nm.dg W (m * n)).length ≤ 2048 := by
 refine k'46 2048 TopBits (m * n) ?_ (by rw [k'3m]; decide)
 exact Nat.mul_lt_mul'' h1 h2
theorem k'4i (a b : Bool) (s t : ByteArray) (w : World) (hv1 : vld a s = true) (hv2 : vld b t = true) :
 Calls Tryz.prog 126 #[.agg #[.bool a, .string s], .agg #[.bool b, .string t]] w (WPost (wres (a != b) (bv s * bv t)) (werr (bv s * bv t)) w) := by
 have z1 := k'41 hv1
 have z2 := k'41 hv2
 have HV1 := k'3z a s
 have HV2 := k'3z b t
 rw [hv1] at HV1
 rw [hv2] at HV2
 have HA := i' (fun w => HV1 w (by omega))
 have HB := i' (fun w => HV2 w (by omega))
 have HR1 := i' (fun w => k'3d a s w (by omega) (k'40 hv1))
 have HR2 := i' (fun w => k'3d b t w (by omega) (k'40 hv2))
 have t1 := bv_lt hv1
 have t2 := bv_lt hv2
 have HP := i' (fun v1 v2 w h1 h2 => k'36 a b v1 v2 (bv s) (bv t) w h1 h2 (Nat.le_trans (k'47 t1) (by decide)) (Nat.le_trans (k'47 t2) (by decide)))
 have HW := i' (fun v w h => k'3y (a != b) v (bv s * bv t) w h (Nat.le_trans (k'4h t1 t2) (by decide)))
 obtain ⟨rb, rs, hr⟩ := k'4a (a != b) (bv s * bv t)
 rw [hr] at HW ⊢
 clear HV1 HV2 t1 t2
 generalize hra : (a != b) = ra at *
 have HM : Hid (Top ≤ bv s * bv t → rb = false ∧ rs = ⟨#[]⟩ ∧ werr (bv s * bv t) = 7) := by
  intro h9
  rw [k'3p ra h9, wd, k'3r] at hr
  simp at hr
  exact ⟨hr.1, hr.2.symm, k'3q h9⟩
 have HT := i' (fun h9 => HM.out (k'4g (k'40 hv1) (k'40 hv2) z1 z2 h9))
 have HQ1 := i' (fun w => k'43 s w (by omega))
 have HQ2 := i' (fun w => k'43 t w (by omega))
 have L1 := k'4e s z1
 have L2 := k'4e t z2
 clear hr hv1 hv2 HM hra
 generalize bv s * bv t = rm at *
 generalize lenB s = y1 at *
 generalize lenB t = y2 at *
 generalize bv s = m at *
 generalize bv t = n at *
 generalize hrc : werr rm = rc at *
 clear hrc
 go_enter Tryz.func126, Tryz.ntmps126
 go_wp2_with fail
 obtain ⟨w0, hw0⟩ : ∃ w0 : World, w0 = ((w.alloc (.cells #[.bool a, .string s] 44)).alloc (.cells #[.bool b, .string t] 44)).alloc (.cells #[.bool false, .string ⟨#[]⟩] 44) := ⟨_, rfl⟩
 have hb0 : Hid (Below w.heap.size w w0) := by rw [hw0]; exact (((Below.refl _ _).alloc (Nat.le_refl _) _).alloc (by simp) _).alloc (by simp; omega) _
 have k0 : w0.cell? ⟨w.heap.size, 0, none⟩ = some (.bool a) := by rw [hw0]; simp [go_sem]
 have k1 : w0.cell? ⟨w.heap.size, 1, none⟩ = some (.string s) := by rw [hw0]; simp [go_sem]
 have k2 : w0.cell? ⟨w.heap.size + 1, 0, none⟩ = some (.bool b) := by rw [hw0]; simp [go_sem]
 have k3 : w0.cell? ⟨w.heap.size + 1, 1, none⟩ = some (.string t) := by rw [hw0]; simp [go_sem]
 have k4 : w0.cell? ⟨w.heap.size + 1 + 1, 0, none⟩ = some (.bool false) := by rw [hw0]; simp [go_sem]
 have k5 : w0.cell? ⟨w.heap.size + 1 + 1, 1, none⟩ = some (.string ⟨#[]⟩) := by rw [hw0]; simp [go_sem]
 have k6 : w0.frozen? ⟨w.heap.size + 1 + 1, 0, none⟩ = false := by rw [hw0]; simp [go_sem]
 have k7 : w0.frozen? ⟨w.heap.size + 1 + 1, 1, none⟩ = false := by rw [hw0]; simp [go_sem]
 have hsz : w0.heap.size = w.heap.size + 3 := by rw [hw0]; simp
 rw [← hw0]
 have KK := i' (And.intro k0 (And.intro k1 (And.intro k2 (And.intro k3 (And.intro k4 (And.intro k5 (And.intro k6 k7)))))))
 have Hsz := i' hsz
 clear k0 k1 k2 k3 k4 k5 k6 k7 hw0 hsz
 refine (HA.out _).mono ?_
 rintro e wa ⟨rfl, hba⟩
 have q2 := keep1 hba KK.out.2.2.1
 have q3 := keep1 hba KK.out.2.2.2.1
 have HBa := i' hba
 clear hba
 go_wp2_with fail
 refine (HB.out _).mono ?_
 rintro e wb ⟨rfl, hbb⟩
 have hbc := chain HBa.out hbb
 have k0 := keep1 hbc KK.out.1
 have k1 := keep1 hbc KK.out.2.1
 have k2 := keep1 hbc KK.out.2.2.1
 have k3 := keep1 hbc KK.out.2.2.2.1
 have k4 := keep1 hbc KK.out.2.2.2.2.1
 have k5 := keep1 hbc KK.out.2.2.2.2.2.1
 have k6 := keepf hbc KK.out.2.2.2.2.1 KK.out.2.2.2.2.2.2.1
 have k7 := keepf hbc KK.out.2.2.2.2.2.1 KK.out.2.2.2.2.2.2.2
 have HBc := i' hbc
 have n1 : ¬ (w.heap.size = w.heap.size + 1 + 1) := by omega
 have n2 : ¬ (w.heap.size + 1 + 1 = w.heap.size) := by omega
 clear q2 q3 hbb hbc
 go_wp2_with fail
 by_cases hbig : 65536 < y1 + y2 - 1
 ·obtain ⟨e1, e2, e3⟩ := HT.out hbig
  subst e1 e2
  have E3 := i' e3
  clear e3 HT
  go_quiet ((first | (go_at_call 138; with_reducible exact k'9 (HQ1.out _)) | (go_at_call 138; with_reducible exact k'9 (HQ2.out _))))
  have HZ := i' (((k'2f (chain hb0.out HBc.out) nq).setCell (p := ⟨w.heap.size + 1 + 1, 0, none⟩) (by simp; omega) (.bool false)).setCell (p := ⟨w.heap.size + 1 + 1, 1, none⟩) (by simp; omega) (.string ⟨#[]⟩))
  go_wp2
  exact bodyPost_ret (v := .tuple #[.agg #[.bool false, .string ⟨#[]⟩], .int .i64 7]) (by simp [results, Tryz.results126, go_sem, k4, k5]) rfl ⟨by rw [E3.out], HZ.out⟩
 clear HT
 go_quiet ((first | (go_at_call 138; with_reducible exact k'9 (HQ1.out _)) | (go_at_call 138; with_reducible exact k'9 (HQ2.out _))))
 go_wp2_with fail
 go_region_held3 (fun W' => W'.cell? ⟨w.heap.size, 0, none⟩ = some (.bool a) ∧ W'.cell? ⟨w.heap.size, 1, none⟩ = some (.string s) ∧ W'.cell? ⟨w.heap.size + 1, 0, none⟩ = some (.bool b) ∧ W'.cell? ⟨w.heap.size + 1, 1, none⟩ = some (.string t)) (go_keep)
  (first
   | (go_at_call 135; (with_reducible refine (HR1.out _).mono ?_); rintro e w1 ⟨v1, rfl, r1, b1⟩; have c1 := chain (k'2f (Below.refl _ _) _) b1; have p0 := keep1 c1 k0; have p1 := keep1 c1 k1; have p2 := keep1 c1 k2; have p3 := keep1 c1 k3; have G1 := i' (And.intro r1 c1); clear r1 b1 c1)
   | (go_at_call 135; (with_reducible refine (HR2.out _).mono ?_); rintro e w2 ⟨v2, rfl, r2, b2⟩; have c2 := chain G1.out.2 b2; have p0 := keep1 c2 k0; have p1 := keep1 c2 k1; have p2 := keep1 c2 k2; have p3 := keep1 c2 k3; have G2 := i' (And.intro (G1.out.1.below b2 (Nat.le_refl _)) (And.intro r2 c2)); clear r2 b2 c2)
   | (go_at_call 142; (with_reducible refine (HP.out _ _ _ G2.out.1 G2.out.2.1).mono ?_); rintro e w3 ⟨v3, rfl, r3, b3⟩; have c3 := chain G2.out.2.2 b3; have p0 := keep1 c3 k0; have p1 := keep1 c3 k1; have p2 := keep1 c3 k2; have p3 := keep1 c3 k3; have G3 := i' (And.intro r3 c3); clear r3 b3 c3)
   | (go_at_call 139; (with_reducible refine (HW.out _ _ G3.out.1).mono ?_); rintro e w4 ⟨rfl, b4⟩; have c4 := chain G3.out.2 b4; have p0 := keep1 c4 k0; have p1 := keep1 c4 k1; have p2 := keep1 c4 k2; have p3 := keep1 c4 k3; have p4 := keep1 c4 k4; have p5 := keep1 c4 k5; have p6 := keepf c4 k4 k6; have p7 := keepf c4 k5 k7; have G4 := i' c4; clear b4 c4))
 have HZ := i' (((chain (chain hb0.out HBc.out) G4.out).setCell (p := ⟨w.heap.size + 1 + 1, 0, none⟩) (by simp; omega) (.bool rb)).setCell (p := ⟨w.heap.size + 1 + 1, 1, none⟩) (by simp; omega) (.string rs))
 go_wp2
 exact bodyPost_ret (v := .tuple #[.agg #[.bool rb, .string rs], .int .i64 rc]) (by simp [results, Tryz.results126, go_sem, p4, p5]) rfl ⟨rfl, HZ.out⟩
def cmpV : Bool → ByteArray → Bool → ByteArray → Int
 | false, s, false, t => cmpN (bv s) (bv t)
 | true, s, true, t => cmpN (bv t) (bv s)
 | true, _, false, _ => -1
 | false, _, true, _ => 1
def sgV (a : Bool) (s : ByteArray) : Int := if vld a s = true ∧ 0 < s.size then (if a = true then -1 else 1) else 0
theorem k'4k (a : Bool) (s : ByteArray) (w : World) (z1 : s.size ≤ 140737488351232) :
 Calls Tryz.prog 70 #[.agg #[.bool a, .string s]] w (IPost (sgV a s) w) := by
 have HA := i' (fun w => k'3z a s w z1)
 have hb0 : Hid (Below w.heap.size w (w.alloc (.cells #[.bool a, .string s] 44))) := (Below.refl _ _).alloc (Nat.le_refl _) _
 rcases Nat.eq_zero_or_pos s.size with h0 | h0
 ·have E : Hid (sgV a s = 0) := by show _ = _; rw [sgV, if_neg (by omega)]
  rw [E.out]
  have := k'42 h0
  subst this
  clear h0 E HA
  go_enter Tryz.func70, Tryz.ntmps70
  go_wp2
  go_ret
  exact ⟨rfl, hb0.out⟩
 ·have he := k'2k s h0
  have he2 : (s.toList == []) = false := by
   cases hd : s.toList with
   | nil => rw [hd] at he; simp at he
   | cons x l => rfl
  have k0 : (w.alloc (.cells #[.bool a, .string s] 44)).cell? ⟨w.heap.size, 0, none⟩ = some (.bool a) := by simp [go_sem]
  have K0 := i' k0
  clear k0
  cases h1 : vld a s with
  | false =>
   have E : Hid (sgV a s = 0) := by show _ = _; rw [sgV, h1]; simp
   rw [E.out]
   rw [h1] at HA
   clear h1 E
   go_enter Tryz.func70, Tryz.ntmps70
   go_wp2_with fail
   refine (HA.out _).mono ?_
   rintro e wa ⟨rfl, hba⟩
   have HZ := i' (chain hb0.out hba)
   clear hba
   go_wp2
   go_ret
   exact ⟨rfl, HZ.out⟩
  | true =>
   have E : Hid (sgV a s = if a = true then -1 else 1) := by show _ = _; rw [sgV, if_pos ⟨h1, h0⟩]
   rw [E.out]
   rw [h1] at HA
   clear h1 E
   cases a
   all_goals
    go_enter Tryz.func70, Tryz.ntmps70
    go_wp2_with fail
    refine (HA.out _).mono ?_
    rintro e wa ⟨rfl, hba⟩
    have q0 := keep1 hba K0.out
    have HZ := i' (chain hb0.out hba)
    clear hba
    go_wp2
    go_ret
    exact ⟨rfl, HZ.out⟩
theorem bs_bv {s : ByteArray} (h : Can s) : bs (bv s) = s := by
 have e : Nm.dg 256 (bv s) = rev s := (Nm.eq_dg (by decide : 2 ≤ 256) (k'30 s) (k'2z s h)).symm
 have hd : (Nm.dg 256 (bv s)).reverse.map UInt8.ofNat = s.data.toList := by
  rw [e, rev, List.reverse_reverse, List.map_map]
  have : (UInt8.ofNat ∘ UInt8.toNat) = id := by funext x; simp
  rw [this, List.map_id]
 unfold bs
 rw [hd]
theorem k'4l {s : ByteArray} (h : Can s) : bv s = 0 ↔ s.size = 0 := by
 constructor
 ·intro h0
  have := Nm.val_zero (B := 256) (by decide) (k'2z s h) h0
  have h2 := k'31 s
  rw [this] at h2; simpa using h2.symm
 ·intro h0; rw [k'42 h0]; rfl
theorem k'4n (n : Int) (h1 : -9223372036854775808 ≤ n) (h2 : n < 0) : IntKind.u64.wrap (-IntKind.u64.wrap n) = ((n.natAbs : Nat) : Int) := by
 simp only [IntKind.wrap_u64]; omega
theorem k'4o (n : Int) (h1 : 0 ≤ n) (h2 : n ≤ 9223372036854775807) : IntKind.u64.wrap n = ((n.natAbs : Nat) : Int) := by
 simp only [IntKind.wrap_u64]; omega
def OfPost (n : Int) (w : World) (e : Ending) (w' : World) : Prop := e = .returned (.agg #[.bool (decide (n < 0)), .string (bs n.natAbs)]) ∧ Below w.heap.size w w'
theorem k'4p (n : Int) (w : World) (h1 : -9223372036854775808 ≤ n) (h2 : n ≤ 9223372036854775807) : Calls Tryz.prog 73 #[.int .i64 n] w (OfPost n w) := by
 have hW : n.natAbs < W := by unfold W; omega
 have HF := i' (fun a => k'3l a n.natAbs hW)
 by_cases hn : n < 0
 ·have en := k'4n n h1 hn
  have HD : Hid (decide (n < 0) = true) := decide_eq_true hn
  obtain ⟨sx, hsx⟩ : ∃ sx, bs n.natAbs = sx := ⟨_, rfl⟩
  rw [hsx] at HF
  have HS := i' hsx
  clear hsx
  obtain ⟨x, hx⟩ : ∃ x, n.natAbs = x := ⟨_, rfl⟩
  rw [hx] at HF en
  clear h1 h2 hW hx
  go_enter Tryz.func73, Tryz.ntmps73
  go_wp2_with fail
  refine (HF.out true _).mono ?_
  rintro e w' ⟨rfl, hb⟩
  have q4 := keep1 hb (p := ⟨w.heap.size, 0, none⟩) (v := .bool false) (by simp [go_sem])
  have q5 := keep1 hb (p := ⟨w.heap.size, 1, none⟩) (v := .string ⟨#[]⟩) (by simp [go_sem])
  have q6 := keepf hb (p := ⟨w.heap.size, 0, none⟩) (v := .bool false) (by simp [go_sem]) (by simp [go_sem])
  have q7 := keepf hb (p := ⟨w.heap.size, 1, none⟩) (v := .string ⟨#[]⟩) (by simp [go_sem]) (by simp [go_sem])
  have HZ := i' (((chain ((Below.refl w.heap.size w).alloc (Nat.le_refl _) _) hb).setCell (p := ⟨w.heap.size, 0, none⟩) (Nat.le_refl _) (.bool true)).setCell (p := ⟨w.heap.size, 1, none⟩) (Nat.le_refl _) (.string sx))
  clear hb
  go_wp2
  exact bodyPost_ret (v := .agg #[.bool true, .string sx]) (by simp [results, Tryz.results73, go_sem, q4, q5]) rfl ⟨by rw [HD.out, HS.out], HZ.out⟩
 ·have en := k'4o n (by omega) h2
  have HD : Hid (decide (n < 0) = false) := decide_eq_false hn
  obtain ⟨sx, hsx⟩ : ∃ sx, bs n.natAbs = sx := ⟨_, rfl⟩
  rw [hsx] at HF
  have HS := i' hsx
  clear hsx
  obtain ⟨x, hx⟩ : ∃ x, n.natAbs = x := ⟨_, rfl⟩
  rw [hx] at HF en
  clear h1 h2 hW hx
  go_enter Tryz.func73, Tryz.ntmps73
  go_wp2_with fail
  refine (HF.out false _).mono ?_
  rintro e w' ⟨rfl, hb⟩
  have q4 := keep1 hb (p := ⟨w.heap.size, 0, none⟩) (v := .bool false) (by simp [go_sem])
  have q5 := keep1 hb (p := ⟨w.heap.size, 1, none⟩) (v := .string ⟨#[]⟩) (by simp [go_sem])
  have q6 := keepf hb (p := ⟨w.heap.size, 0, none⟩) (v := .bool false) (by simp [go_sem]) (by simp [go_sem])
  have q7 := keepf hb (p := ⟨w.heap.size, 1, none⟩) (v := .string ⟨#[]⟩) (by simp [go_sem]) (by simp [go_sem])
  have HZ := i' (((chain ((Below.refl w.heap.size w).alloc (Nat.le_refl _) _) hb).setCell (p := ⟨w.heap.size, 0, none⟩) (Nat.le_refl _) (.bool false)).setCell (p := ⟨w.heap.size, 1, none⟩) (Nat.le_refl _) (.string sx))
  clear hb
  go_wp2
  exact bodyPost_ret (v := .agg #[.bool false, .string sx]) (by simp [results, Tryz.results73, go_sem, q4, q5]) rfl ⟨by rw [HD.out, HS.out], HZ.out⟩
def sg (a : Bool) (m : Nat) : Int := if a = true then -(m : Int) else m
def IntWPost (a : Bool) (s : ByteArray) (w : World) (e : Ending) (w' : World) : Prop :=
 (e = .returned (.tuple #[.int .i64 (if -9223372036854775808 ≤ sg a (bv s) ∧ sg a (bv s) ≤ 9223372036854775807 then sg a (bv s) else 0), .int .i64 (if -9223372036854775808 ≤ sg a (bv s) ∧ sg a (bv s) ≤ 9223372036854775807 then 0 else 3)])) ∧ Below w.heap.size w w'
def shd (a : Bool) (m k : Nat) : Nat := if a = true then (m - 1) / 2 ^ k + 1 else m / 2 ^ k
theorem dg_W1 : Nm.dg W 1 = [1] := by
 have := Nm.eq_dg W2 (l := [1]) (Nm.dig_cons.2 ⟨by decide, Nm.dig_nil W⟩) (show (1 : Nat) ≠ 0 by decide)
 rw [show Nm.val W [1] = 1 by simp [Nm.val]] at this
 exact this.symm
theorem k'4t {m n : Nat} (h : m ≤ n) : (Nm.dg W m).length ≤ (Nm.dg W n).length := by
 refine Nm.len_le_of_val W2 (Nm.nrm_dg W2 m) ?_
 have h1 := Nm.val_lt (Nm.dig_dg W2 n)
 rw [Nm.val_dg W2] at h1 ⊢
 omega
def GcdOK (m n : Nat) : Prop := ∀ v1 v2 w, Rd w v1 (Nm.dg W m) → Rd w v2 (Nm.dg W n) → Calls Tryz.prog 143 #[v1, v2] w (Gives (Nat.gcd m n) w)
theorem k'4u (x : Bool) (p : Option Addr) (n c : Nat) (w : World) : (Instr.field 143 (.agg #[.bool x, .slice p n c]) 1).run Tryz.prog w = .ok (.slice p n c) w := by kernel_rfl
theorem k'4v {m n : Nat} (h1 : m < Top) (h2 : n < Top) : Nat.gcd m n < Top := by
 rcases Nat.eq_zero_or_pos m with h | h
 ·subst h; rwa [Nat.gcd_zero_left]
 ·exact Nat.lt_of_le_of_lt (Nat.gcd_le_left n h) h1
theorem k'4w (a b : Bool) (s t : ByteArray) (w : World) (hg : GcdOK (bv s) (bv t)) (hv1 : vld a s = true) (hv2 : vld b t = true) :
 Calls Tryz.prog 127 #[.agg #[.bool a, .string s], .agg #[.bool b, .string t]] w (WPost (wres false (Nat.gcd (bv s) (bv t))) (werr (Nat.gcd (bv s) (bv t))) w) := by
 have z1 := k'41 hv1
 have z2 := k'41 hv2
 have HV1 := k'3z a s
 have HV2 := k'3z b t
 rw [hv1] at HV1
 rw [hv2] at HV2
 have HA := i' (fun w => HV1 w (by omega))
 have HB := i' (fun w => HV2 w (by omega))
 have HR1 := i' (fun w => k'3d a s w (by omega) (k'40 hv1))
 have HR2 := i' (fun w => k'3d b t w (by omega) (k'40 hv2))
 have t1 := bv_lt hv1
 have t2 := bv_lt hv2
 have HP := i' hg
 have HW := i' (fun v w h => k'3y false v (Nat.gcd (bv s) (bv t)) w h (Nat.le_trans (k'47 (k'4v t1 t2)) (by decide)))
 obtain ⟨rb, rs, hr⟩ := k'4a false (Nat.gcd (bv s) (bv t))
 rw [hr] at HW ⊢
 clear hr HV1 HV2 hv1 hv2 t1 t2 hg
 generalize hrm : Nat.gcd (bv s) (bv t) = rm at *
 have HP2 : Hid (∀ v1 v2 w, Rd w v1 (Nm.dg W (bv s)) → Rd w v2 (Nm.dg W (bv t)) → Calls Tryz.prog 143 #[v1, v2] w (Gives rm w)) := by rw [← hrm]; exact HP.out
 clear hrm HP
 generalize bv s = m at *
 generalize bv t = n at *
 generalize werr rm = rc at *
 go_enter Tryz.func127, Tryz.ntmps127
 go_wp2_with fail
 obtain ⟨w0, hw0⟩ : ∃ w0 : World, w0 = ((w.alloc (.cells #[.bool a, .string s] 44)).alloc (.cells #[.bool b, .string t] 44)).alloc (.cells #[.bool false, .string ⟨#[]⟩] 44) := ⟨_, rfl⟩
 have hb0 : Hid (Below w.heap.size w w0) := by rw [hw0]; exact (((Below.refl _ _).alloc (Nat.le_refl _) _).alloc (by simp) _).alloc (by simp; omega) _
 have k0 : w0.cell? ⟨w.heap.size, 0, none⟩ = some (.bool a) := by rw [hw0]; simp [go_sem]
 have k1 : w0.cell? ⟨w.heap.size, 1, none⟩ = some (.string s) := by rw [hw0]; simp [go_sem]
 have k2 : w0.cell? ⟨w.heap.size + 1, 0, none⟩ = some (.bool b) := by rw [hw0]; simp [go_sem]
 have k3 : w0.cell? ⟨w.heap.size + 1, 1, none⟩ = some (.string t) := by rw [hw0]; simp [go_sem]
 have k4 : w0.cell? ⟨w.heap.size + 1 + 1, 0, none⟩ = some (.bool false) := by rw [hw0]; simp [go_sem]
 have k5 : w0.cell? ⟨w.heap.size + 1 + 1, 1, none⟩ = some (.string ⟨#[]⟩) := by rw [hw0]; simp [go_sem]
 have k6 : w0.frozen? ⟨w.heap.size + 1 + 1, 0, none⟩ = false := by rw [hw0]; simp [go_sem]
 have k7 : w0.frozen? ⟨w.heap.size + 1 + 1, 1, none⟩ = false := by rw [hw0]; simp [go_sem]
 have hsz : w0.heap.size = w.heap.size + 3 := by rw [hw0]; simp
 rw [← hw0]
 have KK := i' (And.intro k0 (And.intro k1 (And.intro k2 (And.intro k3 (And.intro k4 (And.intro k5 (And.intro k6 k7)))))))
 have Hsz := i' hsz
 clear k0 k1 k2 k3 k4 k5 k6 k7 hw0 hsz
 refine (HA.out _).mono ?_
 rintro e wa ⟨rfl, hba⟩
 have q2 := keep1 hba KK.out.2.2.1
 have q3 := keep1 hba KK.out.2.2.2.1
 have HBa := i' hba
 clear hba
 go_wp2_with fail
 refine (HB.out _).mono ?_
 rintro e wb ⟨rfl, hbb⟩
 have hbc := chain HBa.out hbb
 have k0 := keep1 hbc KK.out.1
 have k1 := keep1 hbc KK.out.2.1
 have k2 := keep1 hbc KK.out.2.2.1
 have k3 := keep1 hbc KK.out.2.2.2.1
 have k4 := keep1 hbc KK.out.2.2.2.2.1
 have k5 := keep1 hbc KK.out.2.2.2.2.2.1
 have k6 := keepf hbc KK.out.2.2.2.2.1 KK.out.2.2.2.2.2.2.1
 have k7 := keepf hbc KK.out.2.2.2.2.2.1 KK.out.2.2.2.2.2.2.2
 have HBc := i' hbc
 have n1 : ¬ (w.heap.size = w.heap.size + 1 + 1) := by omega
 have n2 : ¬ (w.heap.size + 1 + 1 = w.heap.size) := by omega
 clear q2 q3 hbb hbc
 go_wp2_with fail
 have hfl := k'4u
 go_region_held3 (fun W' => W'.cell? ⟨w.heap.size, 0, none⟩ = some (.bool a) ∧ W'.cell? ⟨w.heap.size, 1, none⟩ = some (.string s) ∧ W'.cell? ⟨w.heap.size + 1, 0, none⟩ = some (.bool b) ∧ W'.cell? ⟨w.heap.size + 1, 1, none⟩ = some (.string t)) (go_keep)
  (first
   | (go_at_call 135; (with_reducible refine (HR1.out _).mono ?_); rintro e w1 ⟨v1, rfl, r1, b1⟩; have c1 := chain ((Below.refl _ _).drew) b1; have p0 := keep1 c1 k0; have p1 := keep1 c1 k1; have p2 := keep1 c1 k2; have p3 := keep1 c1 k3; have G1 := i' (And.intro r1 c1); obtain ⟨x1, x2, x3, x4, rfl, x5⟩ := r1; clear x5 b1 c1)
   | (go_at_call 135; (with_reducible refine (HR2.out _).mono ?_); rintro e w2 ⟨v2, rfl, r2, b2⟩; have c2 := chain G1.out.2 b2; have p0 := keep1 c2 k0; have p1 := keep1 c2 k1; have p2 := keep1 c2 k2; have p3 := keep1 c2 k3; have G2 := i' (And.intro (G1.out.1.below b2 (Nat.le_refl _)) (And.intro r2 c2)); obtain ⟨x6, x7, x8, x9, rfl, x10⟩ := r2; clear x10 b2 c2)
   | (go_at_call 143; (with_reducible refine (HP2.out _ _ _ G2.out.1 G2.out.2.1).mono ?_); rintro e w3 ⟨v3, rfl, r3, b3⟩; have c3 := chain G2.out.2.2 b3; have p0 := keep1 c3 k0; have p1 := keep1 c3 k1; have p2 := keep1 c3 k2; have p3 := keep1 c3 k3; have G3 := i' (And.intro r3 c3); obtain ⟨p9, b9, o9, c9, rfl, hr9⟩ := r3; clear hr9 b3 c3)
   | (go_at_call 139; (with_reducible refine (HW.out _ _ G3.out.1).mono ?_); rintro e w4 ⟨rfl, b4⟩; have c4 := chain G3.out.2 b4; have p0 := keep1 c4 k0; have p1 := keep1 c4 k1; have p2 := keep1 c4 k2; have p3 := keep1 c4 k3; have p4 := keep1 c4 k4; have p5 := keep1 c4 k5; have p6 := keepf c4 k4 k6; have p7 := keepf c4 k5 k7; have G4 := i' c4; clear b4 c4))
 have HZ := i' (((chain (chain hb0.out HBc.out) G4.out).setCell (p := ⟨w.heap.size + 1 + 1, 0, none⟩) (by simp; omega) (.bool rb)).setCell (p := ⟨w.heap.size + 1 + 1, 1, none⟩) (by simp; omega) (.string rs))
 go_wp2
 exact bodyPost_ret (v := .tuple #[.agg #[.bool rb, .string rs], .int .i64 rc]) (by simp [results, Tryz.results127, go_sem, p4, p5]) rfl ⟨rfl, HZ.out⟩
theorem k'4y {g : Nat} (h0 : g ≠ 0) (h : g < W) : Nm.dg W g = [g] := by
 have := Nm.eq_dg W2 (l := [g]) (Nm.dig_cons.2 ⟨h, Nm.dig_nil W⟩) h0
 rw [show Nm.val W [g] = g by simp [Nm.val]] at this
 exact this.symm
theorem k'4z (v1 v2 : Value) (m : Nat) (w : World) (sw : Bool) (h1 : Rd w v1 (Nm.dg W m)) (h2 : Rd w v2 []) (l1 : (Nm.dg W m).length ≤ 1000000000) (hm : sw = true → 0 < m) :
 Calls Tryz.prog 143 (if sw = true then #[v2, v1] else #[v1, v2]) w (Gives m w) := by
 have HR := i' h1
 have d2 : Nm.Dig W [] := Nm.dig_nil W
 cases sw with
 | false =>
  have HC := i' (k'2e v1 v2 _ _ w h1 h2 l1 (by simp) (Nm.dig_dg W2 m) d2 (Nm.nrm_dg W2 m) trivial)
  have hc0 : 0 ≤ cmpN (Nm.val W (Nm.dg W m)) (Nm.val W []) := k'2h (Nat.zero_le _)
  generalize cmpN (Nm.val W (Nm.dg W m)) (Nm.val W []) = cc at *
  obtain ⟨p2, b2, o2, c2, rfl, hr2⟩ := h2
  clear hr2 h1
  simp only [Bool.false_eq_true, if_false]
  go_enter Tryz.func143, Tryz.ntmps143
  go_wp2_with fail
  refine HC.out.mono ?_
  rintro e w' ⟨rfl, n, rfl⟩
  go_wp2
  go_ret
  exact ⟨_, rfl, HR.out.drewN n, k'2f (Below.refl _ _) n⟩
 | true =>
  have HC := i' (k'2e v2 v1 _ _ w h2 h1 (by simp) l1 d2 (Nm.dig_dg W2 m) trivial (Nm.nrm_dg W2 m))
  rw [Nm.val_dg W2, k'28 (show Nm.val W [] < m from hm rfl)] at HC
  obtain ⟨p2, b2, o2, c2, rfl, hr2⟩ := h2
  clear hr2 h1
  simp only [if_true]
  go_enter Tryz.func143, Tryz.ntmps143
  go_wp2_with fail
  refine HC.out.mono ?_
  rintro e w' ⟨rfl, n, rfl⟩
  go_wp2
  go_ret
  exact ⟨_, rfl, HR.out.drewN n, k'2f (Below.refl _ _) n⟩
theorem k'50 (v1 v2 : Value) (m x : Nat) (w : World) (sw : Bool) (h1 : Rd w v1 (Nm.dg W m)) (h2 : Rd w v2 [x]) (l1 : (Nm.dg W m).length ≤ 1000000000) (hx : x < W) (hx0 : 0 < x) (hm : x ≤ m) (hsw : sw = true → x < m) :
 Calls Tryz.prog 143 (if sw = true then #[v2, v1] else #[v1, v2]) w (Gives (Nat.gcd m x) w) := by
 have d2 : Nm.Dig W [x] := Nm.dig_cons.2 ⟨hx, Nm.dig_nil W⟩
 have hvx : Nm.val W [x] = x := by simp [Nm.val]
 have HRm := i' (fun W' (hb : Below w.heap.size w W') => k'26 v1 _ x W' (h1.below hb (Nat.le_refl _)) l1 (Nm.dig_dg W2 m) hx hx0)
 rw [Nm.val_dg W2] at HRm
 have hmod := Nat.mod_lt m hx0
 have HCw := i' (fun W' => k'27 x (m % x) W' hx (Nat.lt_trans hmod hx))
 have hgcd : Nat.gcd x (m % x) = Nat.gcd m x := by rw [Nat.gcd_comm x, ← Nat.gcd_rec, Nat.gcd_comm]
 rw [hgcd] at HCw
 have hg0 : Nat.gcd m x ≠ 0 := fun h => by have := Nat.eq_zero_of_gcd_eq_zero_right h; omega
 have hgW : Nat.gcd m x < W := Nat.lt_of_le_of_lt (Nat.gcd_le_right m hx0) hx
 have HD := i' (k'4y hg0 hgW)
 have HC1 := k'2e v1 v2 _ _ w h1 h2 l1 (by simp) (Nm.dig_dg W2 m) d2 (Nm.nrm_dg W2 m) (show x ≠ 0 by omega)
 have HC2 := k'2e v2 v1 _ _ w h2 h1 (by simp) l1 d2 (Nm.dig_dg W2 m) (show x ≠ 0 by omega) (Nm.nrm_dg W2 m)
 rw [Nm.val_dg W2, hvx] at HC1 HC2
 have H1 := i' h1
 clear h1
 obtain ⟨p2, b2, o2, c2, rfl, _, _, hp2, _, hx2⟩ := h2
 obtain rfl := hp2 (by simp)
 have e2 := hx2 0 (by simp)
 simp only [List.getElem_cons_zero, Nat.add_zero, List.length_singleton] at e2
 simp only [List.length_singleton] at HC1 HC2 ⊢
 generalize Nat.gcd m x = g at *
 generalize m % x = rm at *
 clear hp2 hx2 hgcd hg0 hgW hmod hvx d2
 have Hcc0 : Hid (∃ cc : Int, ((sw = true ∧ cc < 0) ∨ (sw = false ∧ 0 ≤ cc)) ∧ Calls Tryz.prog 151 (if sw = true then #[.slice (some ⟨b2, o2, none⟩) 1 c2, v1] else #[v1, .slice (some ⟨b2, o2, none⟩) 1 c2]) w (CmpPost cc w)) := by
  cases sw with
  | false => exact ⟨_, Or.inr ⟨rfl, k'2h hm⟩, HC1⟩
  | true => exact ⟨_, Or.inl ⟨rfl, by rw [k'28 (hsw rfl)]; decide⟩, HC2⟩
 clear HC1 HC2 hm hsw
 obtain ⟨cc, hcc, hcall⟩ := Hcc0.out
 clear Hcc0
 have HC := i' hcall
 clear hcall
 obtain ⟨p1, b1, o1, c1, hv1, hr1⟩ := H1.out
 clear hr1
 generalize (Nm.dg W m).length = len1 at *
 subst hv1
 rcases hcc with ⟨rfl, hcc⟩ | ⟨rfl, hcc⟩
 ·simp only [if_true] at HC ⊢
  go_enter Tryz.func143, Tryz.ntmps143
  go_wp2_with fail
  refine HC.out.mono ?_
  rintro e w' ⟨rfl, n, rfl⟩
  have e3 : (w.drewN n).cell? ⟨b2, o2, none⟩ = some (.int .u64 (x : Int)) := e2
  go_wp2_with fail
  go_region_held3 (fun W' => W'.cell? ⟨b2, o2, none⟩ = some (.int .u64 (x : Int))) (go_keep)
   (first
    | (go_at_call 156; (with_reducible refine (HRm.out _ ?_).mono ?_); (exact k'2f (Below.refl _ _) _); rintro e w1 ⟨rfl, n1, rfl⟩)
    | (go_at_call 155; (with_reducible refine (HCw.out _).mono ?_); rintro e w1 ⟨rfl, n1, rfl⟩))
  go_wp2
  go_ret
  exact ⟨_, rfl, by rw [HD.out]; exact Rd.one (w.drewN _) g, (k'2f (Below.refl w.heap.size w) _).alloc (Nat.le_refl _) _⟩
 ·simp only [Bool.false_eq_true, if_false] at HC ⊢
  go_enter Tryz.func143, Tryz.ntmps143
  go_wp2_with fail
  refine HC.out.mono ?_
  rintro e w' ⟨rfl, n, rfl⟩
  have e3 : (w.drewN n).cell? ⟨b2, o2, none⟩ = some (.int .u64 (x : Int)) := e2
  go_wp2_with fail
  go_region_held3 (fun W' => W'.cell? ⟨b2, o2, none⟩ = some (.int .u64 (x : Int))) (go_keep)
   (first
    | (go_at_call 156; (with_reducible refine (HRm.out _ ?_).mono ?_); (exact k'2f (Below.refl _ _) _); rintro e w1 ⟨rfl, n1, rfl⟩)
    | (go_at_call 155; (with_reducible refine (HCw.out _).mono ?_); rintro e w1 ⟨rfl, n1, rfl⟩))
  go_wp2
  go_ret
  exact ⟨_, rfl, by rw [HD.out]; exact Rd.one (w.drewN _) g, (k'2f (Below.refl w.heap.size w) _).alloc (Nat.le_refl _) _⟩
theorem k'51 (m n : Nat) (h : m < W ∨ n < W) (l1 : (Nm.dg W m).length ≤ 1000000000) (l2 : (Nm.dg W n).length ≤ 1000000000) : GcdOK m n := by
 intro v1 v2 w h1 h2
 rcases Nat.lt_or_ge m n with g | g
 ·rcases Nat.eq_zero_or_pos m with h0 | h0
  ·subst h0
   rw [Nat.gcd_zero_left]
   exact k'4z v2 v1 n w true h2 h1 l2 (fun _ => g)
  ·have hm : m < W := by omega
   rw [k'4y (by omega) hm] at h1
   rw [Nat.gcd_comm]
   exact k'50 v2 v1 n m w true h2 h1 l2 hm h0 (Nat.le_of_lt g) (fun _ => g)
 ·rcases Nat.eq_zero_or_pos n with h0 | h0
  ·subst h0
   rw [Nat.gcd_zero_right]
   exact k'4z v1 v2 m w false h1 h2 l1 (fun h => by cases h)
  ·have hn : n < W := by omega
   rw [k'4y (by omega) hn] at h2
   exact k'50 v1 v2 m n w false h1 h2 l1 hn h0 g (fun h => by cases h)
def DivOK (m n : Nat) : Prop := ∀ v1 v2 w, Rd w v1 (Nm.dg W m) → Rd w v2 (Nm.dg W n) → Calls Tryz.prog 146 #[v1, v2] w (DivPost m n w)
theorem k'52 (m n : Nat) (h0 : 0 < n) (h : m < n ∨ n < W) (l1 : (Nm.dg W m).length ≤ 1000000000) (l2 : (Nm.dg W n).length ≤ 1000000000) : DivOK m n := by
 intro v1 v2 w h1 h2
 rcases Nat.lt_or_ge m n with g | g
 ·have := k'2g v1 v2 _ _ w h1 h2 l1 l2 (Nm.dig_dg W2 m) (Nm.dig_dg W2 n) (Nm.nrm_dg W2 m) (Nm.nrm_dg W2 n) (by rw [Nm.val_dg W2, Nm.val_dg W2]; exact g)
  rwa [Nm.val_dg W2, Nm.val_dg W2] at this
 ·have hn : n < W := by rcases h with h | h; omega; exact h
  rw [k'4y (by omega) hn] at h2
  have := k'2i v1 v2 _ n w h1 h2 l1 (Nm.dig_dg W2 m) hn h0 (Nm.nrm_dg W2 m) (by rw [Nm.val_dg W2]; exact g)
  rwa [Nm.val_dg W2] at this
def eq1 (a : Bool) (m n : Nat) : Nat := if a = true ∧ m % n ≠ 0 then m / n + 1 else m / n
def er1 (a : Bool) (m n : Nat) : Nat := if a = true ∧ m % n ≠ 0 then n - m % n else m % n
def QPost (s : Bool) (q r : Nat) (w : World) (e : Ending) (w' : World) : Prop :=
 ∃ p1 n1 c1 p2 n2 c2, e = .returned (.tuple #[.agg #[.bool s, .slice p1 n1 c1], .agg #[.bool false, .slice p2 n2 c2]]) ∧ Rd w' (.slice p1 n1 c1) (Nm.dg W q) ∧ Rd w' (.slice p2 n2 c2) (Nm.dg W r) ∧ Below w.heap.size w w'
theorem Rd.form {w : World} {v : Value} {xs : List Nat} (h : Rd w v xs) : ∃ p n c, v = .slice p n c := by
 obtain ⟨p, _, _, c, h, _⟩ := h
 exact ⟨p, _, c, h⟩
theorem k'53 (a b : Bool) (v1 v2 : Value) (m n : Nat) (w : World) (hd : DivOK m n) (h0 : 0 < n) (h1 : Rd w v1 (Nm.dg W m)) (h2 : Rd w v2 (Nm.dg W n)) (l1 : (Nm.dg W m).length ≤ 1000000000) (l2 : (Nm.dg W n).length ≤ 1000000000) :
 Calls Tryz.prog 157 #[.agg #[.bool a, v1], .agg #[.bool b, v2]] w (QPost (a != b) (eq1 a m n) (er1 a m n) w) := by
 have HD := i' (fun W' (hb : Below w.heap.size w W') => hd v1 v2 W' (h1.below hb (Nat.le_refl _)) (h2.below hb (Nat.le_refl _)))
 have HV2 := i' (fun W' (hb : Below w.heap.size w W') => h2.below hb (Nat.le_refl _))
 have hlt := Nat.mod_lt m h0
 have d1 : Nm.Dig W [1] := by rw [← dg_W1]; exact Nm.dig_dg W2 1
 have e1 : Nm.val W [1] = 1 := by simp [Nm.val]
 have HA := i' (fun W' u1 u2 (g1 : Rd W' u1 (Nm.dg W (m / n))) (g2 : Rd W' u2 [1]) => k'q u1 u2 _ [1] W' g1 g2 (Nat.le_trans (k'4t (Nat.div_le_self _ _)) l1) (by simp) (Nm.dig_dg W2 _) d1)
 have HS := i' (fun W' u1 u2 (g1 : Rd W' u1 (Nm.dg W n)) (g2 : Rd W' u2 (Nm.dg W (m % n))) => k'33 u1 u2 _ _ W' g1 g2 l2 (Nm.dig_dg W2 _) (Nm.dig_dg W2 _) (Nm.nrm_dg W2 _) (by rw [Nm.val_dg W2, Nm.val_dg W2]; omega))
 rw [Nm.val_dg W2, e1] at HA
 rw [Nm.val_dg W2, Nm.val_dg W2] at HS
 have HZero : Hid (m % n = 0 ∨ 0 < (Nm.dg W (m % n)).length) := by
  rcases Nat.eq_zero_or_pos (m % n) with h | h
  ·exact Or.inl h
  ·refine Or.inr ?_
   rcases Nat.eq_zero_or_pos (Nm.dg W (m % n)).length with g | g
   ·have := Nm.val_dg W2 (m % n)
    rw [List.eq_nil_of_length_eq_zero g] at this
    simp only [Nm.val] at this; omega
   ·exact g
 obtain ⟨p1, n1, c1, rfl⟩ := h1.form
 obtain ⟨p2, n2, c2, rfl⟩ := h2.form
 obtain ⟨w0, hw0⟩ : ∃ w0 : World, w0 = (((w.alloc (.cells #[.bool a, .slice p1 n1 c1] 143)).alloc (.cells #[.bool b, .slice p2 n2 c2] 143)).alloc (.cells #[.bool false, .slice none 0 0] 143)).alloc (.cells #[.bool false, .slice none 0 0] 143) := ⟨_, rfl⟩
 have hb0 : Hid (Below w.heap.size w w0) := by rw [hw0]; exact ((((Below.refl _ _).alloc (Nat.le_refl _) _).alloc (by simp) _).alloc (by simp; omega) _).alloc (by simp; omega) _
 have k0 : w0.cell? ⟨w.heap.size, 0, none⟩ = some (.bool a) := by rw [hw0]; simp [go_sem]
 have k2 : w0.cell? ⟨w.heap.size + 1, 0, none⟩ = some (.bool b) := by rw [hw0]; simp [go_sem]
 have k3 : w0.cell? ⟨w.heap.size + 1, 1, none⟩ = some (.slice p2 n2 c2) := by rw [hw0]; simp [go_sem]
 have k4 : w0.cell? ⟨w.heap.size + 1 + 1, 0, none⟩ = some (.bool false) := by rw [hw0]; simp [go_sem]
 have k5 : w0.cell? ⟨w.heap.size + 1 + 1, 1, none⟩ = some (.slice none 0 0) := by rw [hw0]; simp [go_sem]
 have k6 : w0.frozen? ⟨w.heap.size + 1 + 1, 0, none⟩ = false := by rw [hw0]; simp [go_sem]
 have k7 : w0.frozen? ⟨w.heap.size + 1 + 1, 1, none⟩ = false := by rw [hw0]; simp [go_sem]
 have k8 : w0.cell? ⟨w.heap.size + 1 + 1 + 1, 0, none⟩ = some (.bool false) := by rw [hw0]; simp [go_sem]
 have k9 : w0.cell? ⟨w.heap.size + 1 + 1 + 1, 1, none⟩ = some (.slice none 0 0) := by rw [hw0]; simp [go_sem]
 have k10 : w0.frozen? ⟨w.heap.size + 1 + 1 + 1, 0, none⟩ = false := by rw [hw0]; simp [go_sem]
 have k11 : w0.frozen? ⟨w.heap.size + 1 + 1 + 1, 1, none⟩ = false := by rw [hw0]; simp [go_sem]
 have KK := i' (And.intro k0 (And.intro k2 (And.intro k3 (And.intro k4 (And.intro k5 (And.intro k6 (And.intro k7 (And.intro k8 (And.intro k9 (And.intro k10 k11))))))))))
 have Hw0 := i' hw0
 clear k0 k2 k3 k4 k5 k6 k7 k8 k9 k10 k11 hw0 h1 h2 hd e1 d1 hlt
 have HE1 : Hid (a = true → m % n ≠ 0 → eq1 a m n = m / n + 1 ∧ er1 a m n = n - m % n) := fun ha hm => ⟨if_pos ⟨ha, hm⟩, if_pos ⟨ha, hm⟩⟩
 have HE2 : Hid ((a = false ∨ m % n = 0) → eq1 a m n = m / n ∧ er1 a m n = m % n) := fun h => by
  have : ¬ (a = true ∧ m % n ≠ 0) := fun ⟨h1, h2⟩ => by
   rcases h with h | h
   ·rw [h] at h1; cases h1
   ·exact h2 h
  exact ⟨if_neg this, if_neg this⟩
 generalize eq1 a m n = Q at *
 generalize er1 a m n = R at *
 go_enter Tryz.func157, Tryz.ntmps157
 go_wp2_with fail
 rw [← Hw0.out]
 refine (HD.out _ hb0.out).mono ?_
 rintro e wa ⟨u1, u2, rfl, r1, r2, b1⟩
 generalize m / n = dq at *
 generalize m % n = dr at *
 have q0 := keep1 b1 KK.out.1
 have q2 := keep1 b1 KK.out.2.1
 have q3 := keep1 b1 KK.out.2.2.1
 have R1 := i' r1
 have R2 := i' r2
 have B1 := i' b1
 obtain ⟨y1, y2, y3, hy⟩ := r1.form
 obtain ⟨y4, y5, y6, hy2, hy3⟩ : ∃ p c, ∃ n : Nat, u2 = .slice p n c ∧ n = (Nm.dg W dr).length := by
  obtain ⟨p, _, _, c, h, _⟩ := r2
  exact ⟨p, c, _, h, rfl⟩
 subst hy hy2
 clear r1 r2 b1
 by_cases hc : a = true ∧ 0 < y6
 ·obtain ⟨ha, hp⟩ := hc
  subst ha
  have hne : dr ≠ 0 := fun h => by rw [h] at hy3; simp [Nm.dg_zero] at hy3; omega
  obtain ⟨E1, E2⟩ := HE1.out rfl hne
  have HE := i' (And.intro E1 E2)
  have hp2 : (0 : Int) < (y6 : Int) := by omega
  clear E1 E2 hne hy3
  have n1' : True := trivial
  go_wp2_with fail
  refine (HA.out _ _ _ (R1.out.below ((Below.refl _ _).alloc (Nat.le_refl _) _) (Nat.le_refl _)) (Rd.one wa 1)).mono ?_
  rintro e w3 ⟨v3, rfl, r3, b3⟩
  have b4 := chain ((Below.refl wa.heap.size wa).alloc (Nat.le_refl _) (.cells #[.int .u64 1] 129)) b3
  have b5 := chain B1.out b4
  have p3 := keep1 b5 KK.out.2.2.1
  have R3 := i' r3
  have R4 := i' (R2.out.below b4 (Nat.le_refl _))
  have B5 := i' b5
  obtain ⟨z1, z2, z3, hz⟩ := r3.form
  subst hz
  clear r3 b3 b4 b5 q3
  go_wp2_with fail
  refine (HS.out _ _ _ (HV2.out _ (chain hb0.out B5.out)) R4.out).mono ?_
  rintro e w5 ⟨v5, rfl, r5, b6⟩
  have b9 := chain B5.out b6
  have R5 := i' r5
  have R6 := i' (R3.out.below b6 (Nat.le_refl _))
  obtain ⟨z4, z5, z6, hz⟩ := r5.form
  subst hz
  clear r5 b6 p3 q0 q2
  cases b with
  | false =>
   have q0 := keep1 b9 KK.out.1
   have q2 := keep1 b9 KK.out.2.1
   have q4 := keep1 b9 KK.out.2.2.2.1
   have q5 := keep1 b9 KK.out.2.2.2.2.1
   have q6 := keepf b9 KK.out.2.2.2.1 KK.out.2.2.2.2.2.1
   have q7 := keepf b9 KK.out.2.2.2.2.1 KK.out.2.2.2.2.2.2.1
   have q8 := keep1 b9 KK.out.2.2.2.2.2.2.2.1
   have q9 := keep1 b9 KK.out.2.2.2.2.2.2.2.2.1
   have q10 := keepf b9 KK.out.2.2.2.2.2.2.2.1 KK.out.2.2.2.2.2.2.2.2.2.1
   have q11 := keepf b9 KK.out.2.2.2.2.2.2.2.2.1 KK.out.2.2.2.2.2.2.2.2.2.2
   have HF := i' (fun (x : Value) (xs : List Nat) (h : Rd w5 x xs) => ((((h.setCell q4 (fun n => by simp) (.bool true)).setCell (a := ⟨w.heap.size + 1 + 1, 1, none⟩) (u0 := .slice none 0 0) (by simp [go_sem, q5]) (fun n => by simp) (.slice z1 z2 z3)).setCell (a := ⟨w.heap.size + 1 + 1 + 1, 0, none⟩) (u0 := .bool false) (by simp [go_sem, q8]) (fun n => by simp) (.bool false)).setCell (a := ⟨w.heap.size + 1 + 1 + 1, 1, none⟩) (u0 := .slice none 0 0) (by simp [go_sem, q9]) (fun n => by simp) (.slice z4 z5 z6)))
   have HZ := i' (((((chain hb0.out b9).setCell (p := ⟨w.heap.size + 1 + 1, 0, none⟩) (by simp; omega) (.bool true)).setCell (p := ⟨w.heap.size + 1 + 1, 1, none⟩) (by simp; omega) (.slice z1 z2 z3)).setCell (p := ⟨w.heap.size + 1 + 1 + 1, 0, none⟩) (by simp; omega) (.bool false)).setCell (p := ⟨w.heap.size + 1 + 1 + 1, 1, none⟩) (by simp; omega) (.slice z4 z5 z6))
   clear b9
   go_wp2
   exact bodyPost_ret (v := .tuple #[.agg #[.bool true, (.slice z1 z2 z3)], .agg #[.bool false, (.slice z4 z5 z6)]]) (by simp [results, Tryz.results157, go_sem, q4, q5, q8, q9]) rfl ⟨_, _, _, _, _, _, rfl, HF.out _ _ (by rw [HE.out.1]; exact R6.out), HF.out _ _ (by rw [HE.out.2]; exact R5.out), HZ.out⟩
  | true =>
   have q0 := keep1 b9 KK.out.1
   have q2 := keep1 b9 KK.out.2.1
   have q4 := keep1 b9 KK.out.2.2.2.1
   have q5 := keep1 b9 KK.out.2.2.2.2.1
   have q6 := keepf b9 KK.out.2.2.2.1 KK.out.2.2.2.2.2.1
   have q7 := keepf b9 KK.out.2.2.2.2.1 KK.out.2.2.2.2.2.2.1
   have q8 := keep1 b9 KK.out.2.2.2.2.2.2.2.1
   have q9 := keep1 b9 KK.out.2.2.2.2.2.2.2.2.1
   have q10 := keepf b9 KK.out.2.2.2.2.2.2.2.1 KK.out.2.2.2.2.2.2.2.2.2.1
   have q11 := keepf b9 KK.out.2.2.2.2.2.2.2.2.1 KK.out.2.2.2.2.2.2.2.2.2.2
   have HF := i' (fun (x : Value) (xs : List Nat) (h : Rd w5 x xs) => ((((h.setCell q4 (fun n => by simp) (.bool false)).setCell (a := ⟨w.heap.size + 1 + 1, 1, none⟩) (u0 := .slice none 0 0) (by simp [go_sem, q5]) (fun n => by simp) (.slice z1 z2 z3)).setCell (a := ⟨w.heap.size + 1 + 1 + 1, 0, none⟩) (u0 := .bool false) (by simp [go_sem, q8]) (fun n => by simp) (.bool false)).setCell (a := ⟨w.heap.size + 1 + 1 + 1, 1, none⟩) (u0 := .slice none 0 0) (by simp [go_sem, q9]) (fun n => by simp) (.slice z4 z5 z6)))
   have HZ := i' (((((chain hb0.out b9).setCell (p := ⟨w.heap.size + 1 + 1, 0, none⟩) (by simp; omega) (.bool false)).setCell (p := ⟨w.heap.size + 1 + 1, 1, none⟩) (by simp; omega) (.slice z1 z2 z3)).setCell (p := ⟨w.heap.size + 1 + 1 + 1, 0, none⟩) (by simp; omega) (.bool false)).setCell (p := ⟨w.heap.size + 1 + 1 + 1, 1, none⟩) (by simp; omega) (.slice z4 z5 z6))
   clear b9
   go_wp2
   exact bodyPost_ret (v := .tuple #[.agg #[.bool false, (.slice z1 z2 z3)], .agg #[.bool false, (.slice z4 z5 z6)]]) (by simp [results, Tryz.results157, go_sem, q4, q5, q8, q9]) rfl ⟨_, _, _, _, _, _, rfl, HF.out _ _ (by rw [HE.out.1]; exact R6.out), HF.out _ _ (by rw [HE.out.2]; exact R5.out), HZ.out⟩
 ·have hE2 : a = false ∨ dr = 0 := by
   cases a with
   | false => exact Or.inl rfl
   | true =>
    refine Or.inr ?_
    rcases HZero.out with h | h
    ·exact h
    ·exact absurd ⟨rfl, by omega⟩ hc
  obtain ⟨E1, E2⟩ := HE2.out hE2
  have HE := i' (And.intro E1 E2)
  have b9 := B1.out
  have HY : Hid (a = true → y6 = 0) := fun h => by
   rcases Nat.eq_zero_or_pos y6 with g | g
   ·exact g
   ·exact absurd ⟨h, g⟩ hc
  clear E1 E2 hE2 hc hy3 q3 q0 q2
  cases a with
  | false =>
   cases b with
   | false =>
    have q0 := keep1 b9 KK.out.1
    have q2 := keep1 b9 KK.out.2.1
    have q4 := keep1 b9 KK.out.2.2.2.1
    have q5 := keep1 b9 KK.out.2.2.2.2.1
    have q6 := keepf b9 KK.out.2.2.2.1 KK.out.2.2.2.2.2.1
    have q7 := keepf b9 KK.out.2.2.2.2.1 KK.out.2.2.2.2.2.2.1
    have q8 := keep1 b9 KK.out.2.2.2.2.2.2.2.1
    have q9 := keep1 b9 KK.out.2.2.2.2.2.2.2.2.1
    have q10 := keepf b9 KK.out.2.2.2.2.2.2.2.1 KK.out.2.2.2.2.2.2.2.2.2.1
    have q11 := keepf b9 KK.out.2.2.2.2.2.2.2.2.1 KK.out.2.2.2.2.2.2.2.2.2.2
    have HF := i' (fun (x : Value) (xs : List Nat) (h : Rd wa x xs) => ((((h.setCell q4 (fun n => by simp) (.bool false)).setCell (a := ⟨w.heap.size + 1 + 1, 1, none⟩) (u0 := .slice none 0 0) (by simp [go_sem, q5]) (fun n => by simp) (.slice y1 y2 y3)).setCell (a := ⟨w.heap.size + 1 + 1 + 1, 0, none⟩) (u0 := .bool false) (by simp [go_sem, q8]) (fun n => by simp) (.bool false)).setCell (a := ⟨w.heap.size + 1 + 1 + 1, 1, none⟩) (u0 := .slice none 0 0) (by simp [go_sem, q9]) (fun n => by simp) (.slice y4 y6 y5)))
    have HZ := i' (((((chain hb0.out b9).setCell (p := ⟨w.heap.size + 1 + 1, 0, none⟩) (by simp; omega) (.bool false)).setCell (p := ⟨w.heap.size + 1 + 1, 1, none⟩) (by simp; omega) (.slice y1 y2 y3)).setCell (p := ⟨w.heap.size + 1 + 1 + 1, 0, none⟩) (by simp; omega) (.bool false)).setCell (p := ⟨w.heap.size + 1 + 1 + 1, 1, none⟩) (by simp; omega) (.slice y4 y6 y5))
    clear b9
    go_wp2
    exact bodyPost_ret (v := .tuple #[.agg #[.bool false, (.slice y1 y2 y3)], .agg #[.bool false, (.slice y4 y6 y5)]]) (by simp [results, Tryz.results157, go_sem, q4, q5, q8, q9]) rfl ⟨_, _, _, _, _, _, rfl, HF.out _ _ (by rw [HE.out.1]; exact R1.out), HF.out _ _ (by rw [HE.out.2]; exact R2.out), HZ.out⟩
   | true =>
    have q0 := keep1 b9 KK.out.1
    have q2 := keep1 b9 KK.out.2.1
    have q4 := keep1 b9 KK.out.2.2.2.1
    have q5 := keep1 b9 KK.out.2.2.2.2.1
    have q6 := keepf b9 KK.out.2.2.2.1 KK.out.2.2.2.2.2.1
    have q7 := keepf b9 KK.out.2.2.2.2.1 KK.out.2.2.2.2.2.2.1
    have q8 := keep1 b9 KK.out.2.2.2.2.2.2.2.1
    have q9 := keep1 b9 KK.out.2.2.2.2.2.2.2.2.1
    have q10 := keepf b9 KK.out.2.2.2.2.2.2.2.1 KK.out.2.2.2.2.2.2.2.2.2.1
    have q11 := keepf b9 KK.out.2.2.2.2.2.2.2.2.1 KK.out.2.2.2.2.2.2.2.2.2.2
    have HF := i' (fun (x : Value) (xs : List Nat) (h : Rd wa x xs) => ((((h.setCell q4 (fun n => by simp) (.bool true)).setCell (a := ⟨w.heap.size + 1 + 1, 1, none⟩) (u0 := .slice none 0 0) (by simp [go_sem, q5]) (fun n => by simp) (.slice y1 y2 y3)).setCell (a := ⟨w.heap.size + 1 + 1 + 1, 0, none⟩) (u0 := .bool false) (by simp [go_sem, q8]) (fun n => by simp) (.bool false)).setCell (a := ⟨w.heap.size + 1 + 1 + 1, 1, none⟩) (u0 := .slice none 0 0) (by simp [go_sem, q9]) (fun n => by simp) (.slice y4 y6 y5)))
    have HZ := i' (((((chain hb0.out b9).setCell (p := ⟨w.heap.size + 1 + 1, 0, none⟩) (by simp; omega) (.bool true)).setCell (p := ⟨w.heap.size + 1 + 1, 1, none⟩) (by simp; omega) (.slice y1 y2 y3)).setCell (p := ⟨w.heap.size + 1 + 1 + 1, 0, none⟩) (by simp; omega) (.bool false)).setCell (p := ⟨w.heap.size + 1 + 1 + 1, 1, none⟩) (by simp; omega) (.slice y4 y6 y5))
    clear b9
    go_wp2
    exact bodyPost_ret (v := .tuple #[.agg #[.bool true, (.slice y1 y2 y3)], .agg #[.bool false, (.slice y4 y6 y5)]]) (by simp [results, Tryz.results157, go_sem, q4, q5, q8, q9]) rfl ⟨_, _, _, _, _, _, rfl, HF.out _ _ (by rw [HE.out.1]; exact R1.out), HF.out _ _ (by rw [HE.out.2]; exact R2.out), HZ.out⟩
  | true =>
   have hy6 := HY.out rfl
   subst hy6
   cases b with
   | false =>
    have q0 := keep1 b9 KK.out.1
    have q2 := keep1 b9 KK.out.2.1
    have q4 := keep1 b9 KK.out.2.2.2.1
    have q5 := keep1 b9 KK.out.2.2.2.2.1
    have q6 := keepf b9 KK.out.2.2.2.1 KK.out.2.2.2.2.2.1
    have q7 := keepf b9 KK.out.2.2.2.2.1 KK.out.2.2.2.2.2.2.1
    have q8 := keep1 b9 KK.out.2.2.2.2.2.2.2.1
    have q9 := keep1 b9 KK.out.2.2.2.2.2.2.2.2.1
    have q10 := keepf b9 KK.out.2.2.2.2.2.2.2.1 KK.out.2.2.2.2.2.2.2.2.2.1
    have q11 := keepf b9 KK.out.2.2.2.2.2.2.2.2.1 KK.out.2.2.2.2.2.2.2.2.2.2
    have HF := i' (fun (x : Value) (xs : List Nat) (h : Rd wa x xs) => ((((h.setCell q4 (fun n => by simp) (.bool true)).setCell (a := ⟨w.heap.size + 1 + 1, 1, none⟩) (u0 := .slice none 0 0) (by simp [go_sem, q5]) (fun n => by simp) (.slice y1 y2 y3)).setCell (a := ⟨w.heap.size + 1 + 1 + 1, 0, none⟩) (u0 := .bool false) (by simp [go_sem, q8]) (fun n => by simp) (.bool false)).setCell (a := ⟨w.heap.size + 1 + 1 + 1, 1, none⟩) (u0 := .slice none 0 0) (by simp [go_sem, q9]) (fun n => by simp) (.slice y4 0 y5)))
    have HZ := i' (((((chain hb0.out b9).setCell (p := ⟨w.heap.size + 1 + 1, 0, none⟩) (by simp; omega) (.bool true)).setCell (p := ⟨w.heap.size + 1 + 1, 1, none⟩) (by simp; omega) (.slice y1 y2 y3)).setCell (p := ⟨w.heap.size + 1 + 1 + 1, 0, none⟩) (by simp; omega) (.bool false)).setCell (p := ⟨w.heap.size + 1 + 1 + 1, 1, none⟩) (by simp; omega) (.slice y4 0 y5))
    clear b9
    go_wp2
    exact bodyPost_ret (v := .tuple #[.agg #[.bool true, (.slice y1 y2 y3)], .agg #[.bool false, (.slice y4 0 y5)]]) (by simp [results, Tryz.results157, go_sem, q4, q5, q8, q9]) rfl ⟨_, _, _, _, _, _, rfl, HF.out _ _ (by rw [HE.out.1]; exact R1.out), HF.out _ _ (by rw [HE.out.2]; exact R2.out), HZ.out⟩
   | true =>
    have q0 := keep1 b9 KK.out.1
    have q2 := keep1 b9 KK.out.2.1
    have q4 := keep1 b9 KK.out.2.2.2.1
    have q5 := keep1 b9 KK.out.2.2.2.2.1
    have q6 := keepf b9 KK.out.2.2.2.1 KK.out.2.2.2.2.2.1
    have q7 := keepf b9 KK.out.2.2.2.2.1 KK.out.2.2.2.2.2.2.1
    have q8 := keep1 b9 KK.out.2.2.2.2.2.2.2.1
    have q9 := keep1 b9 KK.out.2.2.2.2.2.2.2.2.1
    have q10 := keepf b9 KK.out.2.2.2.2.2.2.2.1 KK.out.2.2.2.2.2.2.2.2.2.1
    have q11 := keepf b9 KK.out.2.2.2.2.2.2.2.2.1 KK.out.2.2.2.2.2.2.2.2.2.2
    have HF := i' (fun (x : Value) (xs : List Nat) (h : Rd wa x xs) => ((((h.setCell q4 (fun n => by simp) (.bool false)).setCell (a := ⟨w.heap.size + 1 + 1, 1, none⟩) (u0 := .slice none 0 0) (by simp [go_sem, q5]) (fun n => by simp) (.slice y1 y2 y3)).setCell (a := ⟨w.heap.size + 1 + 1 + 1, 0, none⟩) (u0 := .bool false) (by simp [go_sem, q8]) (fun n => by simp) (.bool false)).setCell (a := ⟨w.heap.size + 1 + 1 + 1, 1, none⟩) (u0 := .slice none 0 0) (by simp [go_sem, q9]) (fun n => by simp) (.slice y4 0 y5)))
    have HZ := i' (((((chain hb0.out b9).setCell (p := ⟨w.heap.size + 1 + 1, 0, none⟩) (by simp; omega) (.bool false)).setCell (p := ⟨w.heap.size + 1 + 1, 1, none⟩) (by simp; omega) (.slice y1 y2 y3)).setCell (p := ⟨w.heap.size + 1 + 1 + 1, 0, none⟩) (by simp; omega) (.bool false)).setCell (p := ⟨w.heap.size + 1 + 1 + 1, 1, none⟩) (by simp; omega) (.slice y4 0 y5))
    clear b9
    go_wp2
    exact bodyPost_ret (v := .tuple #[.agg #[.bool false, (.slice y1 y2 y3)], .agg #[.bool false, (.slice y4 0 y5)]]) (by simp [results, Tryz.results157, go_sem, q4, q5, q8, q9]) rfl ⟨_, _, _, _, _, _, rfl, HF.out _ _ (by rw [HE.out.1]; exact R1.out), HF.out _ _ (by rw [HE.out.2]; exact R2.out), HZ.out⟩
theorem k'54 {a : Bool} {m n : Nat} (h0 : 0 < n) : eq1 a m n ≤ m := by
 unfold eq1
 split
 ·next h =>
  have h1 := Nat.div_add_mod m n
  have h2 := Nat.mod_lt m h0
  have h3 : 2 ≤ n := by omega
  have h4 : 2 * (m / n) ≤ n * (m / n) := Nat.mul_le_mul_right _ h3
  omega
 ·exact Nat.div_le_self _ _
theorem k'55 {a : Bool} {m n : Nat} (h0 : 0 < n) : er1 a m n < n := by
 have h2 := Nat.mod_lt m h0
 unfold er1
 split <;> omega
def ZC (x y : Value) (w : World) (g : Nat) : Prop := w.cell? ⟨g, 0, none⟩ = some x ∧ w.cell? ⟨g, 1, none⟩ = some y ∧ w.frozen? ⟨g, 0, none⟩ = false ∧ w.frozen? ⟨g, 1, none⟩ = false
theorem ZC.next {x y : Value} {w2 w3 : World} {g : Nat} (h : ZC x y w2 g) (b : Below w2.heap.size w2 w3) : ZC x y w3 g := ⟨keep1 b h.1, keep1 b h.2.1, keepf b h.1 h.2.2.1, keepf b h.2.1 h.2.2.2⟩
theorem ZC.made {x y : Value} {w2 w3 : World} {t : TypeId} {g : Nat} (hg : w2.heap.size = g) (b3 : Below (w2.alloc (.cells #[x, y] t)).heap.size (w2.alloc (.cells #[x, y] t)) w3) : ZC x y w3 g := by
 subst hg
 exact ⟨keep1 b3 (by simp [go_sem]), keep1 b3 (by simp [go_sem]), keepf b3 (v := x) (by simp [go_sem]) (by simp [go_sem]), keepf b3 (v := y) (by simp [go_sem]) (by simp [go_sem])⟩
theorem ZC.made1 {x y : Value} {w2 w3 : World} {t : TypeId} {o : Obj} {g : Nat} (hg : w2.heap.size = g) (b3 : Below ((w2.alloc (.cells #[x, y] t)).alloc o).heap.size ((w2.alloc (.cells #[x, y] t)).alloc o) w3) : ZC x y w3 g :=
 ZC.made hg (((Below.refl _ _).alloc (Nat.le_refl _) _).trans (b3.mono (by simp)))
theorem k'56 (w : World) (o : Obj) : Below w.heap.size w (w.alloc o) := (Below.refl _ _).alloc (Nat.le_refl _) _
theorem k'57 (w : World) (o o2 : Obj) : Below w.heap.size w ((w.alloc o).alloc o2) := ((Below.refl _ _).alloc (Nat.le_refl _) _).alloc (by simp) _
theorem far8 {a x : Nat} (h : a + 4 ≤ x) : ¬(x = a) ∧ ¬(x = a+1) ∧ ¬(a = x) ∧ ¬(a+1 = x) ∧ ¬(x+1 = a) ∧ ¬(a = x+1) ∧ a < x ∧ a+1 < x := ⟨by omega, by omega, by omega, by omega, by omega, by omega, by omega, by omega⟩
def Apart (x y : Nat) : Prop := ¬(x = y) ∧ ¬(y = x) ∧ x < y
theorem k'58 {w2 w3 : World} {o : Obj} {g : Nat} (hg : w2.heap.size = g) (b : Below (w2.alloc o).heap.size (w2.alloc o) w3) : Apart g w3.heap.size := by
 have := b.size
 simp at this
 subst hg
 exact ⟨by omega, by omega, by omega⟩
theorem k'59 {w2 w3 : World} {o o2 : Obj} {g : Nat} (hg : w2.heap.size = g) (b : Below ((w2.alloc o).alloc o2).heap.size ((w2.alloc o).alloc o2) w3) : Apart g w3.heap.size ∧ Apart (g + 1) w3.heap.size := by
 have := b.size
 simp at this
 subst hg
 exact ⟨⟨by omega, by omega, by omega⟩, ⟨by omega, by omega, by omega⟩⟩
theorem k'5a {x y z : Nat} (h : Apart x y) (b : y ≤ z) : Apart x z := by
 obtain ⟨h1, h2, h3⟩ := h
 exact ⟨by omega, by omega, by omega⟩
theorem k'5b {w w' : World} (b : Below w.drew.heap.size w.drew w') : Below w.heap.size w w' := ⟨b.os, b.tape, b.output, b.size, b.block⟩
theorem Rd.alloc {w : World} {v : Value} {xs : List Nat} (h : Rd w v xs) (o : Obj) : Rd (w.alloc o) v xs := h.below (k'56 w o) (Nat.le_refl _)
theorem ZC.new {x y : Value} {w : World} {t : TypeId} {g : Nat} (hg : g = w.heap.size) : ZC x y (w.alloc (.cells #[x, y] t)) g := ZC.made hg.symm (Below.refl _ _)
theorem ZC.alloc {x y : Value} {w : World} {g : Nat} (h : ZC x y w g) (o : Obj) : ZC x y (w.alloc o) g := h.next (k'56 w o)
theorem ZC.set {x y x0 y0 : Value} {w : World} {g : Nat} (h : ZC x0 y0 w g) : ZC x y ((w.setCell ⟨g, 0, none⟩ x).setCell ⟨g, 1, none⟩ y) g := by
 obtain ⟨h1, h2, h3, h4⟩ := h
 refine ⟨?_, ?_, ?_, ?_⟩ <;> simp [go_sem, h1, h2, h3, h4]
theorem ZC.other {x y u v : Value} {w : World} {g g2 : Nat} (h : ZC x y w g) (hn : ¬ g = g2) : ZC x y ((w.setCell ⟨g2, 0, none⟩ u).setCell ⟨g2, 1, none⟩ v) g := by
 obtain ⟨h1, h2, h3, h4⟩ := h
 have hn2 : ¬ g2 = g := fun e => hn e.symm
 refine ⟨?_, ?_, ?_, ?_⟩ <;> simp [go_sem, h1, h2, h3, h4, hn, hn2]
theorem Rd.set {w : World} {p : Addr} {u old v : Value} {xs : List Nat} (h : Rd w v xs) (hp : w.cell? p = some old) (hno : ∀ n, old ≠ .int .u64 n) : Rd (w.setCell p u) v xs := by
 obtain ⟨q, b, off, cap, h1, h2, h3, h4, h5, h6⟩ := h
 refine ⟨q, b, off, cap, h1, h2, h3, h4, h5.imp id (fun g => ⟨g.1, by simpa [World.setCell] using g.2⟩), fun k hk => ?_⟩
 rw [World.cell?_setCell_other]
 ·exact h6 k hk
 ·intro e
  subst e
  rw [h6 k hk] at hp
  exact hno _ (Option.some.inj hp).symm
theorem Rd.set2 {w : World} {v : Value} {xs : List Nat} {b0 : Bool} {p : Option Addr} {n c : Nat} {g : Nat} (h : Rd w v xs) (z : ZC (.bool b0) (.slice p n c) w g) (u u' : Value) : Rd ((w.setCell ⟨g, 0, none⟩ u).setCell ⟨g, 1, none⟩ u') v xs :=
 (h.set z.1 (fun _ => by simp)).set (old := .slice p n c) ((World.cell?_setCell_other w ⟨g, 0, none⟩ ⟨g, 1, none⟩ u (by simp)).trans z.2.1) (fun _ => by simp)
theorem k'5c {B : Nat} {a w : World} {g : Nat} (h : Below B a w) (hg : B ≤ g) (u u' : Value) : Below B a ((w.setCell ⟨g, 0, none⟩ u).setCell ⟨g, 1, none⟩ u') :=
 (h.setCell (p := ⟨g, 0, none⟩) hg _).setCell (p := ⟨g, 1, none⟩) hg _
def CutR (x1 x2 s1 s2 : Value) (X1 X2 : List Nat) (B : Nat) (wb wx : World) (g7 g8 : Nat) : Prop := (B ≤ g7 ∧ B ≤ g8) ∧ ZC x1 s1 wx g7 ∧ ZC x2 s2 wx g8 ∧ Rd wx s1 X1 ∧ Rd wx s2 X2 ∧ Below B wb wx
section
variable {x1 x2 e1 e2 u1 u2 : Value} {X1 X2 : List Nat} {B : Nat} {wb w3 : World} {t : TypeId} {b0 b1 : Bool} {p p' : Option Addr} {n c n' c' g g' : Nat}
theorem CutR.s1 (r1 : Rd w3 e1 X1) (r2 : Rd w3 e2 X2) (b : Below B wb w3) (hB : B ≤ w3.heap.size) : CutR x1 x2 e1 e2 X1 X2 B wb ((w3.alloc (.cells #[x1, e1] t)).alloc (.cells #[x2, e2] t)) w3.heap.size (w3.heap.size + 1) :=
 ⟨⟨hB, by omega⟩, (ZC.new rfl).alloc _, ZC.new (by simp), (r1.alloc _).alloc _, (r2.alloc _).alloc _, (b.alloc hB _).alloc (by simp; omega) _⟩
theorem CutR.s2 (r1 : Rd w3 e1 X1) (r2 : Rd w3 e2 X2) (b : Below B wb w3) (hB : B ≤ w3.heap.size) : CutR x1 x2 e1 e2 X1 X2 B wb ((w3.alloc (.cells #[x2, e2] t)).alloc (.cells #[x1, e1] t)) (w3.heap.size + 1) w3.heap.size :=
 ⟨⟨by omega, hB⟩, ZC.new (by simp), (ZC.new rfl).alloc _, (r1.alloc _).alloc _, (r2.alloc _).alloc _, (b.alloc hB _).alloc (by simp; omega) _⟩
theorem CutR.s3 (z : ZC (.bool b0) (.slice p n c) w3 g) (hg : B ≤ g) (r1 : Rd w3 e1 X1) (r2 : Rd w3 e2 X2) (b : Below B wb w3) (hB : B ≤ w3.heap.size) :
 CutR x1 x2 e1 e2 X1 X2 B wb (((w3.setCell ⟨g, 0, none⟩ x1).setCell ⟨g, 1, none⟩ e1).alloc (.cells #[x2, e2] t)) g w3.heap.size :=
 ⟨⟨hg, hB⟩, z.set.alloc _, ZC.new (by simp), (r1.set2 z _ _).alloc _, (r2.set2 z _ _).alloc _, (k'5c b hg _ _).alloc (by simpa using hB) _⟩
theorem CutR.s4 (z : ZC (.bool b0) (.slice p n c) w3 g) (hg : B ≤ g) (r1 : Rd w3 e1 X1) (r2 : Rd w3 e2 X2) (b : Below B wb w3) (hB : B ≤ w3.heap.size) :
 CutR x1 x2 e1 e2 X1 X2 B wb (((w3.setCell ⟨g, 0, none⟩ x2).setCell ⟨g, 1, none⟩ e2).alloc (.cells #[x1, e1] t)) w3.heap.size g :=
 ⟨⟨hB, hg⟩, ZC.new (by simp), z.set.alloc _, (r1.set2 z _ _).alloc _, (r2.set2 z _ _).alloc _, (k'5c b hg _ _).alloc (by simpa using hB) _⟩
theorem CutR.s5 (z : ZC (.bool b0) (.slice p n c) w3 g) (hg : B ≤ g) (z' : ZC (.bool b1) (.slice p' n' c') w3 g') (hg' : B ≤ g') (hn : ¬ g = g') (r1 : Rd w3 e1 X1) (r2 : Rd w3 e2 X2) (b : Below B wb w3) :
 CutR x1 x2 e1 e2 X1 X2 B wb ((((w3.setCell ⟨g, 0, none⟩ x1).setCell ⟨g, 1, none⟩ e1).setCell ⟨g', 0, none⟩ x2).setCell ⟨g', 1, none⟩ e2) g g' :=
 have zz := z'.other (u := x1) (v := e1) (fun e => hn e.symm)
 ⟨⟨hg, hg'⟩, z.set.other hn, zz.set, (r1.set2 z _ _).set2 zz _ _, (r2.set2 z _ _).set2 zz _ _, k'5c (k'5c b hg _ _) hg' _ _⟩
end
def Q3Post (q r : Value) (c : Int) (w : World) (e : Ending) (w' : World) : Prop := e = .returned (.tuple #[q, r, .int .i64 c]) ∧ Below w.heap.size w w'
theorem k'5d (a b : Bool) (s t : ByteArray) (w : World) (hd : DivOK (bv s) (bv t)) (hv1 : vld a s = true) (hv2 : vld b t = true) (h0 : 0 < bv t) :
 Calls Tryz.prog 144 #[.agg #[.bool a, .string s], .agg #[.bool b, .string t]] w (Q3Post (wd (a != b) (eq1 a (bv s) (bv t))) (wd false (er1 a (bv s) (bv t))) 0 w) := by
 have z1 := k'41 hv1
 have z2 := k'41 hv2
 have HV1 := k'3z a s
 have HV2 := k'3z b t
 rw [hv1] at HV1
 rw [hv2] at HV2
 have HA := i' (fun w => HV1 w (by omega))
 have HB := i' (fun w => HV2 w (by omega))
 have HR1 := i' (fun w => k'3d a s w (by omega) (k'40 hv1))
 have HR2 := i' (fun w => k'3d b t w (by omega) (k'40 hv2))
 have t1 := bv_lt hv1
 have t2 := bv_lt hv2
 have HP := i' (fun v1 v2 w h1 h2 => k'53 a b v1 v2 (bv s) (bv t) w hd h0 h1 h2 (Nat.le_trans (k'47 t1) (by decide)) (Nat.le_trans (k'47 t2) (by decide)))
 have tq : eq1 a (bv s) (bv t) < Top := Nat.lt_of_le_of_lt (k'54 h0) t1
 have tr : er1 a (bv s) (bv t) < Top := Nat.lt_trans (k'55 h0) t2
 have HW1 := i' (fun v w h => k'3y (a != b) v (eq1 a (bv s) (bv t)) w h (Nat.le_trans (k'47 tq) (by decide)))
 have HW2 := i' (fun v w h => k'3y false v (er1 a (bv s) (bv t)) w h (Nat.le_trans (k'47 tr) (by decide)))
 rw [k'3n _ tq, k'3o tq] at HW1
 rw [k'3n _ tr, k'3o tr] at HW2
 have ht0 : 0 < t.size := by
  rcases Nat.eq_zero_or_pos t.size with h | h
  ·rw [k'42 h] at h0; exact absurd h0 (by decide)
  ·exact h
 have he := k'2k t ht0
 have he2 : (t.toList == []) = false := by
  cases hd : t.toList with
  | nil => rw [hd] at he; simp at he
  | cons x l => rfl
 obtain ⟨qb, qs, hq⟩ : ∃ x y, wd (a != b) (eq1 a (bv s) (bv t)) = .agg #[.bool x, .string y] := ⟨_, _, rfl⟩
 obtain ⟨rb, rs, hr⟩ : ∃ x y, wd false (er1 a (bv s) (bv t)) = .agg #[.bool x, .string y] := ⟨_, _, rfl⟩
 rw [hq] at HW1 ⊢
 rw [hr] at HW2 ⊢
 clear hq hr HV1 HV2 hv1 hv2 t1 t2 tq tr hd h0 ht0
 generalize eq1 a (bv s) (bv t) = qm at *
 generalize er1 a (bv s) (bv t) = rm at *
 generalize bv s = m at *
 generalize bv t = n at *
 generalize (a != b) = ab at *
 obtain ⟨w0, hw0⟩ : ∃ w0 : World, w0 = (((w.alloc (.cells #[.bool a, .string s] 44)).alloc (.cells #[.bool b, .string t] 44)).alloc (.cells #[.bool false, .string ⟨#[]⟩] 44)).alloc (.cells #[.bool false, .string ⟨#[]⟩] 44) := ⟨_, rfl⟩
 have hb0 : Hid (Below w.heap.size w w0) := by rw [hw0]; exact ((((Below.refl _ _).alloc (Nat.le_refl _) _).alloc (by simp) _).alloc (by simp; omega) _).alloc (by simp; omega) _
 have k0 : w0.cell? ⟨w.heap.size, 0, none⟩ = some (.bool a) := by rw [hw0]; simp [go_sem]
 have k1 : w0.cell? ⟨w.heap.size, 1, none⟩ = some (.string s) := by rw [hw0]; simp [go_sem]
 have k2 : w0.cell? ⟨w.heap.size + 1, 0, none⟩ = some (.bool b) := by rw [hw0]; simp [go_sem]
 have k3 : w0.cell? ⟨w.heap.size + 1, 1, none⟩ = some (.string t) := by rw [hw0]; simp [go_sem]
 have k4 : w0.cell? ⟨w.heap.size + 1 + 1, 0, none⟩ = some (.bool false) := by rw [hw0]; simp [go_sem]
 have k5 : w0.cell? ⟨w.heap.size + 1 + 1, 1, none⟩ = some (.string ⟨#[]⟩) := by rw [hw0]; simp [go_sem]
 have k6 : w0.frozen? ⟨w.heap.size + 1 + 1, 0, none⟩ = false := by rw [hw0]; simp [go_sem]
 have k7 : w0.frozen? ⟨w.heap.size + 1 + 1, 1, none⟩ = false := by rw [hw0]; simp [go_sem]
 have k8 : w0.cell? ⟨w.heap.size + 1 + 1 + 1, 0, none⟩ = some (.bool false) := by rw [hw0]; simp [go_sem]
 have k9 : w0.cell? ⟨w.heap.size + 1 + 1 + 1, 1, none⟩ = some (.string ⟨#[]⟩) := by rw [hw0]; simp [go_sem]
 have k10 : w0.frozen? ⟨w.heap.size + 1 + 1 + 1, 0, none⟩ = false := by rw [hw0]; simp [go_sem]
 have k11 : w0.frozen? ⟨w.heap.size + 1 + 1 + 1, 1, none⟩ = false := by rw [hw0]; simp [go_sem]
 have hsz : w.heap.size + 4 ≤ w0.heap.size := by rw [hw0]; simp
 have KK := i' (And.intro k0 (And.intro k1 (And.intro k2 k3)))
 have KQ := i' (And.intro k4 (And.intro k5 (And.intro k6 k7)))
 have KR := i' (And.intro k8 (And.intro k9 (And.intro k10 k11)))
 have Hsz := i' hsz
 have Hw0 := i' hw0
 clear k0 k1 k2 k3 k4 k5 k6 k7 k8 k9 k10 k11 hw0 hsz
 go_enter Tryz.func144, Tryz.ntmps144
 go_wp2_with fail
 rw [← Hw0.out]
 refine (HA.out _).mono ?_
 rintro e wa ⟨rfl, hba⟩
 have q2 := keep1 hba KK.out.2.2.1
 have q3 := keep1 hba KK.out.2.2.2
 have HBa := i' hba
 clear hba
 go_wp2_with fail
 refine (HB.out _).mono ?_
 rintro e wb ⟨rfl, hbb⟩
 have hbc := chain HBa.out hbb
 have k0 := keep1 hbc KK.out.1
 have k1 := keep1 hbc KK.out.2.1
 have k2 := keep1 hbc KK.out.2.2.1
 have k3 := keep1 hbc KK.out.2.2.2
 have HBc := i' hbc
 clear q2 q3 hbb hbc
 have HSB : Hid (w.heap.size + 4 ≤ wb.heap.size) := Nat.le_trans Hsz.out HBc.out.size
 go_upto_region 5 with (fail)
 obtain ⟨jba, jbb, jbc, jbd, jbe, jbf, jbg, jbh⟩ := far8 HSB.out
 go_cut [7, 8] (fun s7 s8 wx => ∃ (g7 g8 : Nat) (y1 y2 : Option Addr) (n1 c1 n2 c2 : Nat), s7 = .pointer (some ⟨g7, 0, none⟩) ∧ s8 = .pointer (some ⟨g8, 0, none⟩) ∧ Hid (CutR (.bool ab) (.bool false) (.slice y1 n1 c1) (.slice y2 n2 c2) (Nm.dg W qm) (Nm.dg W rm) wb.heap.size wb wx g7 g8))
 case first =>
  rename_i J0 K0 hRJ hMK
  go_region_held3 (fun W' => W'.cell? ⟨w.heap.size, 0, none⟩ = some (.bool a) ∧ W'.cell? ⟨w.heap.size, 1, none⟩ = some (.string s) ∧ W'.cell? ⟨w.heap.size + 1, 0, none⟩ = some (.bool b) ∧ W'.cell? ⟨w.heap.size + 1, 1, none⟩ = some (.string t)) (go_keep)
   (first
    | (go_at_call 135; (with_reducible refine (HR1.out _).mono ?_); rintro e w1 ⟨v1, rfl, r1, b1⟩; (try (have b1 := k'5b b1)); have d1 : Below wb.heap.size wb w1 := chain (by first | exact Below.refl _ _ | exact (Below.refl _ _).drew | exact k'56 _ _ | exact k'57 _ _ _ | exact ((Below.refl _ _).drew).alloc (Nat.le_refl _) _ | exact (((Below.refl _ _).drew).alloc (Nat.le_refl _) _).alloc (by simp) _) b1; have c1 : Below wb.heap.size wb w1 := d1; have p0 := keep1 c1 k0; have p1 := keep1 c1 k1; have p2 := keep1 c1 k2; have p3 := keep1 c1 k3; obtain ⟨j1a, j1b, j1c, j1d, j1e, j1f, j1g, j1h⟩ := far8 (show w.heap.size + 4 ≤ w1.heap.size from Nat.le_trans HSB.out c1.size); (try (have A0 := i' (ZC.made (g := wb.heap.size) rfl b1); obtain ⟨A0a, A0b, A0c, A0d⟩ := A0.out)); (try (have A0 := i' (ZC.made1 (g := wb.heap.size) rfl b1); have B0 := i' (ZC.made (g := wb.heap.size + 1) (by simp) b1); obtain ⟨A0a, A0b, A0c, A0d⟩ := A0.out; obtain ⟨B0a, B0b, B0c, B0d⟩ := B0.out)); (try (have L01 := i' (k'58 (g := wb.heap.size) rfl b1); obtain ⟨l01x, l01y, l01z⟩ := L01.out)); (try (have MM := i' (k'59 (g := wb.heap.size) rfl b1); have L01 := i' MM.out.1; have M01 := i' MM.out.2; clear MM; obtain ⟨l01x, l01y, l01z⟩ := L01.out; obtain ⟨m01x, m01y, m01z⟩ := M01.out)); have G1 := i' r1)
    | (go_at_call 135; (with_reducible refine (HR2.out _).mono ?_); rintro e w2 ⟨v2, rfl, r2, b2⟩; have d2 : Below w1.heap.size w1 w2 := chain (by first | exact Below.refl _ _ | exact (Below.refl _ _).drew | exact k'56 _ _ | exact k'57 _ _ _ | exact ((Below.refl _ _).drew).alloc (Nat.le_refl _) _ | exact (((Below.refl _ _).drew).alloc (Nat.le_refl _) _).alloc (by simp) _) b2; have c2 : Below wb.heap.size wb w2 := chain c1 d2; have p0 := keep1 c2 k0; have p1 := keep1 c2 k1; have p2 := keep1 c2 k2; have p3 := keep1 c2 k3; obtain ⟨j2a, j2b, j2c, j2d, j2e, j2f, j2g, j2h⟩ := far8 (show w.heap.size + 4 ≤ w2.heap.size from Nat.le_trans HSB.out c2.size); (try (have A1 := i' (ZC.made (g := w1.heap.size) rfl b2); obtain ⟨A1a, A1b, A1c, A1d⟩ := A1.out)); (try (have A1 := i' (ZC.made1 (g := w1.heap.size) rfl b2); have B1 := i' (ZC.made (g := w1.heap.size + 1) (by simp) b2); obtain ⟨A1a, A1b, A1c, A1d⟩ := A1.out; obtain ⟨B1a, B1b, B1c, B1d⟩ := B1.out)); (try (have A0 := i' (A0.out.next d2); obtain ⟨A0a, A0b, A0c, A0d⟩ := A0.out)); (try (have B0 := i' (B0.out.next d2); obtain ⟨B0a, B0b, B0c, B0d⟩ := B0.out)); (try (have L02 := i' (k'5a L01.out d2.size); obtain ⟨l02x, l02y, l02z⟩ := L02.out)); (try (have M02 := i' (k'5a M01.out d2.size); obtain ⟨m02x, m02y, m02z⟩ := M02.out)); (try (have L12 := i' (k'58 (g := w1.heap.size) rfl b2); obtain ⟨l12x, l12y, l12z⟩ := L12.out)); (try (have MM := i' (k'59 (g := w1.heap.size) rfl b2); have L12 := i' MM.out.1; have M12 := i' MM.out.2; clear MM; obtain ⟨l12x, l12y, l12z⟩ := L12.out; obtain ⟨m12x, m12y, m12z⟩ := M12.out)); have G2 := i' (And.intro (G1.out.below d2 (Nat.le_refl _)) r2))
    | (go_at_call 157; (with_reducible refine (HP.out _ _ _ (by first | exact G2.out.1 | exact G2.out.1.alloc _ | exact (G2.out.1.alloc _).alloc _) (by first | exact G2.out.2 | exact G2.out.2.alloc _ | exact (G2.out.2.alloc _).alloc _)).mono ?_); rintro e w3 ⟨p1x, n1x, c1x, p2x, n2x, c2x, rfl, r3, r4, b3⟩; have d3 : Below w2.heap.size w2 w3 := chain (by first | exact Below.refl _ _ | exact (Below.refl _ _).drew | exact k'56 _ _ | exact k'57 _ _ _ | exact ((Below.refl _ _).drew).alloc (Nat.le_refl _) _ | exact (((Below.refl _ _).drew).alloc (Nat.le_refl _) _).alloc (by simp) _) b3; have c3 : Below wb.heap.size wb w3 := chain c2 d3; have p0 := keep1 c3 k0; have p1 := keep1 c3 k1; have p2 := keep1 c3 k2; have p3 := keep1 c3 k3; obtain ⟨j3a, j3b, j3c, j3d, j3e, j3f, j3g, j3h⟩ := far8 (show w.heap.size + 4 ≤ w3.heap.size from Nat.le_trans HSB.out c3.size); (try (have A2 := i' (ZC.made (g := w2.heap.size) rfl b3); obtain ⟨A2a, A2b, A2c, A2d⟩ := A2.out)); (try (have A2 := i' (ZC.made1 (g := w2.heap.size) rfl b3); have B2 := i' (ZC.made (g := w2.heap.size + 1) (by simp) b3); obtain ⟨A2a, A2b, A2c, A2d⟩ := A2.out; obtain ⟨B2a, B2b, B2c, B2d⟩ := B2.out)); (try (have A0 := i' (A0.out.next d3); obtain ⟨A0a, A0b, A0c, A0d⟩ := A0.out)); (try (have B0 := i' (B0.out.next d3); obtain ⟨B0a, B0b, B0c, B0d⟩ := B0.out)); (try (have A1 := i' (A1.out.next d3); obtain ⟨A1a, A1b, A1c, A1d⟩ := A1.out)); (try (have B1 := i' (B1.out.next d3); obtain ⟨B1a, B1b, B1c, B1d⟩ := B1.out)); (try (have L03 := i' (k'5a L02.out d3.size); obtain ⟨l03x, l03y, l03z⟩ := L03.out)); (try (have M03 := i' (k'5a M02.out d3.size); obtain ⟨m03x, m03y, m03z⟩ := M03.out)); (try (have L13 := i' (k'5a L12.out d3.size); obtain ⟨l13x, l13y, l13z⟩ := L13.out)); (try (have M13 := i' (k'5a M12.out d3.size); obtain ⟨m13x, m13y, m13z⟩ := M13.out)); (try (have L23 := i' (k'58 (g := w2.heap.size) rfl b3); obtain ⟨l23x, l23y, l23z⟩ := L23.out)); (try (have MM := i' (k'59 (g := w2.heap.size) rfl b3); have L23 := i' MM.out.1; have M23 := i' MM.out.2; clear MM; obtain ⟨l23x, l23y, l23z⟩ := L23.out; obtain ⟨m23x, m23y, m23z⟩ := M23.out)); have G3 := i' (And.intro r3 (And.intro r4 c3)))
    | fail)
  all_goals
   obtain ⟨r1, r2, _⟩ := G3.out
   refine hMK _ _ (Met.intro (hRJ _ _ ?_))
   (repeat apply Exists.intro)
   refine ⟨?_, rfl⟩
   refine ⟨_, _, p1x, p2x, n1x, c1x, n2x, c2x, rfl, rfl, ?_⟩
   show CutR (.bool ab) (.bool false) (.slice p1x n1x c1x) (.slice p2x n2x c2x) (Nm.dg W qm) (Nm.dg W rm) wb.heap.size wb _ _ _
   have sA0 : wb.heap.size ≤ wb.heap.size := Nat.le_refl _
   have sB0 : wb.heap.size ≤ wb.heap.size + 1 := Nat.le_succ _
   have sA1 : wb.heap.size ≤ w1.heap.size := c1.size
   have sB1 : wb.heap.size ≤ w1.heap.size + 1 := Nat.le_succ_of_le sA1
   have sA2 : wb.heap.size ≤ w2.heap.size := c2.size
   have sB2 : wb.heap.size ≤ w2.heap.size + 1 := Nat.le_succ_of_le sA2
   have sA3 : wb.heap.size ≤ w3.heap.size := c3.size
   have n0 : ¬ wb.heap.size = wb.heap.size + 1 := Nat.ne_of_lt (Nat.lt_succ_self _)
   have n1 : ¬ w1.heap.size = w1.heap.size + 1 := Nat.ne_of_lt (Nat.lt_succ_self _)
   have n2 : ¬ w2.heap.size = w2.heap.size + 1 := Nat.ne_of_lt (Nat.lt_succ_self _)
   have m0 : ¬ wb.heap.size + 1 = wb.heap.size := fun e => n0 e.symm
   have m1 : ¬ w1.heap.size + 1 = w1.heap.size := fun e => n1 e.symm
   have m2 : ¬ w2.heap.size + 1 = w2.heap.size := fun e => n2 e.symm
   first
    | with_reducible exact CutR.s1 r1 r2 c3 sA3
    | with_reducible exact CutR.s2 r1 r2 c3 sA3
    | with_reducible exact CutR.s3 A0.out sA0 r1 r2 c3 sA3
    | with_reducible exact CutR.s4 A0.out sA0 r1 r2 c3 sA3
    | with_reducible exact CutR.s3 A1.out sA1 r1 r2 c3 sA3
    | with_reducible exact CutR.s4 A1.out sA1 r1 r2 c3 sA3
    | with_reducible exact CutR.s3 A2.out sA2 r1 r2 c3 sA3
    | with_reducible exact CutR.s4 A2.out sA2 r1 r2 c3 sA3
    | with_reducible exact CutR.s3 B0.out sB0 r1 r2 c3 sA3
    | with_reducible exact CutR.s4 B0.out sB0 r1 r2 c3 sA3
    | with_reducible exact CutR.s3 B1.out sB1 r1 r2 c3 sA3
    | with_reducible exact CutR.s4 B1.out sB1 r1 r2 c3 sA3
    | with_reducible exact CutR.s3 B2.out sB2 r1 r2 c3 sA3
    | with_reducible exact CutR.s4 B2.out sB2 r1 r2 c3 sA3
    | with_reducible exact CutR.s5 A0.out sA0 B0.out sB0 n0 r1 r2 c3
    | with_reducible exact CutR.s5 B0.out sB0 A0.out sA0 m0 r1 r2 c3
    | with_reducible exact CutR.s5 A0.out sA0 A1.out sA1 l01x r1 r2 c3
    | with_reducible exact CutR.s5 A1.out sA1 A0.out sA0 l01y r1 r2 c3
    | with_reducible exact CutR.s5 A0.out sA0 A2.out sA2 l02x r1 r2 c3
    | with_reducible exact CutR.s5 A2.out sA2 A0.out sA0 l02y r1 r2 c3
    | with_reducible exact CutR.s5 A1.out sA1 B1.out sB1 n1 r1 r2 c3
    | with_reducible exact CutR.s5 B1.out sB1 A1.out sA1 m1 r1 r2 c3
    | with_reducible exact CutR.s5 A1.out sA1 A2.out sA2 l12x r1 r2 c3
    | with_reducible exact CutR.s5 A2.out sA2 A1.out sA1 l12y r1 r2 c3
    | with_reducible exact CutR.s5 A2.out sA2 B2.out sB2 n2 r1 r2 c3
    | with_reducible exact CutR.s5 B2.out sB2 A2.out sA2 m2 r1 r2 c3
    | fail
 case rest =>
  obtain ⟨g7, g8, y1, y2, n1, c1, n2, c2, rfl, rfl, hcut⟩ := hcut
  obtain ⟨⟨hg7, hg8⟩, z7, z8, r1, r2, hbx⟩ := hcut.out
  have e1 : ¬ (g8 = w.heap.size + 1 + 1) := by have := HSB.out; omega
  have e2 : ¬ (w.heap.size + 1 + 1 = g8) := fun e => e1 e.symm
  have HR2 := i' r2
  have Z8 := i' z8
  have HBX : Hid (Below w0.heap.size w0 wc) := chain HBc.out hbx
  have HR1 := i' r1
  obtain ⟨a1, a2, a3, a4⟩ := z7
  clear hcut hg7 hg8 z8 r1 r2 hbx jba jbb jbc jbd jbe jbf jbg jbh k0 k1 k2 k3
  go_wp2_with fail
  refine (HW1.out _ _ HR1.out).mono ?_
  rintro e w5 ⟨rfl, b5⟩
  have c5 : Below w0.heap.size w0 w5 := chain HBX.out b5
  have q4 := keep1 c5 KQ.out.1
  have q5 := keep1 c5 KQ.out.2.1
  have q6 := keepf c5 KQ.out.1 KQ.out.2.2.1
  have q7 := keepf c5 KQ.out.2.1 KQ.out.2.2.2
  obtain ⟨d1, d2, d3, d4⟩ := Z8.out.next b5
  have r2 := HR2.out.below b5 (Nat.le_refl _)
  have p1 := keep1 c5 KR.out.1
  have p2 := keep1 c5 KR.out.2.1
  have p3 := keepf c5 KR.out.1 KR.out.2.2.1
  have p4 := keepf c5 KR.out.2.1 KR.out.2.2.2
  obtain ⟨w6, hw6⟩ : ∃ w6 : World, w6 = (w5.setCell ⟨w.heap.size + 1 + 1, 0, none⟩ (.bool qb)).setCell ⟨w.heap.size + 1 + 1, 1, none⟩ (.string qs) := ⟨_, rfl⟩
  have j1 : w6.cell? ⟨g8, 0, none⟩ = some (.bool false) := by rw [hw6]; simp [go_sem, d1, e1, e2]
  have j2 : w6.cell? ⟨g8, 1, none⟩ = some (.slice y2 n2 c2) := by rw [hw6]; simp [go_sem, d2, e1, e2]
  have j3 : w6.cell? ⟨w.heap.size + 1 + 1, 0, none⟩ = some (.bool qb) := by rw [hw6]; simp [go_sem, q4]
  have j4 : w6.cell? ⟨w.heap.size + 1 + 1, 1, none⟩ = some (.string qs) := by rw [hw6]; simp [go_sem, q5]
  have j5 : w6.frozen? ⟨w.heap.size + 1 + 1, 0, none⟩ = false := by rw [hw6]; simp [go_sem, q6]
  have j6 : w6.frozen? ⟨w.heap.size + 1 + 1, 1, none⟩ = false := by rw [hw6]; simp [go_sem, q7]
  have j7 : w6.cell? ⟨w.heap.size + 1 + 1 + 1, 0, none⟩ = some (.bool false) := by rw [hw6]; simp [go_sem, p1]
  have j8 : w6.cell? ⟨w.heap.size + 1 + 1 + 1, 1, none⟩ = some (.string ⟨#[]⟩) := by rw [hw6]; simp [go_sem, p2]
  have j9 : w6.frozen? ⟨w.heap.size + 1 + 1 + 1, 0, none⟩ = false := by rw [hw6]; simp [go_sem, p3]
  have j10 : w6.frozen? ⟨w.heap.size + 1 + 1 + 1, 1, none⟩ = false := by rw [hw6]; simp [go_sem, p4]
  have R6 : Hid (Rd w6 (.slice y2 n2 c2) (Nm.dg W rm)) := by rw [hw6]; exact (r2.set q4 (fun _ => by simp)).set (old := .string ⟨#[]⟩) ((World.cell?_setCell_other w5 ⟨w.heap.size + 1 + 1, 0, none⟩ ⟨w.heap.size + 1 + 1, 1, none⟩ _ (by simp)).trans q5) (fun _ => by simp)
  have L6 : Hid (Below w.heap.size w w6) := by rw [hw6]; exact k'5c (chain hb0.out c5) (by omega) _ _
  have J6 := i' (And.intro j3 (And.intro j4 (And.intro j5 (And.intro j6 (And.intro j7 (And.intro j8 (And.intro j9 j10)))))))
  have Hw6 := i' hw6
  clear b5 c5 r2 p1 p2 p3 p4 hw6 j1 j2 j3 j4 j5 j6 j7 j8 j9 j10 a1 a2 a3 a4
  go_wp2_with fail
  rw [← Hw6.out]
  clear Hw6 q4 q5 q6 q7 e1 e2 d1 d2 d3 d4
  refine (HW2.out _ _ R6.out).mono ?_
  rintro e w7 ⟨rfl, b7⟩
  have q0 := keep1 b7 J6.out.1
  have q1 := keep1 b7 J6.out.2.1
  have q2 := keepf b7 J6.out.1 J6.out.2.2.1
  have q3 := keepf b7 J6.out.2.1 J6.out.2.2.2.1
  have q4 := keep1 b7 J6.out.2.2.2.2.1
  have q5 := keep1 b7 J6.out.2.2.2.2.2.1
  have q6 := keepf b7 J6.out.2.2.2.2.1 J6.out.2.2.2.2.2.2.1
  have q7 := keepf b7 J6.out.2.2.2.2.2.1 J6.out.2.2.2.2.2.2.2
  obtain ⟨w8, hw8⟩ : ∃ w8 : World, w8 = (w7.setCell ⟨w.heap.size + 1 + 1 + 1, 0, none⟩ (.bool rb)).setCell ⟨w.heap.size + 1 + 1 + 1, 1, none⟩ (.string rs) := ⟨_, rfl⟩
  have f0 : w8.cell? ⟨w.heap.size + 1 + 1, 0, none⟩ = some (.bool qb) := by rw [hw8]; simp [go_sem, q0]
  have f1 : w8.cell? ⟨w.heap.size + 1 + 1, 1, none⟩ = some (.string qs) := by rw [hw8]; simp [go_sem, q1]
  have f2 : w8.frozen? ⟨w.heap.size + 1 + 1, 0, none⟩ = false := by rw [hw8]; simp [go_sem, q2]
  have f3 : w8.frozen? ⟨w.heap.size + 1 + 1, 1, none⟩ = false := by rw [hw8]; simp [go_sem, q3]
  have f4 : w8.cell? ⟨w.heap.size + 1 + 1 + 1, 0, none⟩ = some (.bool rb) := by rw [hw8]; simp [go_sem, q4]
  have f5 : w8.cell? ⟨w.heap.size + 1 + 1 + 1, 1, none⟩ = some (.string rs) := by rw [hw8]; simp [go_sem, q5]
  have f6 : w8.frozen? ⟨w.heap.size + 1 + 1 + 1, 0, none⟩ = false := by rw [hw8]; simp [go_sem, q6]
  have f7 : w8.frozen? ⟨w.heap.size + 1 + 1 + 1, 1, none⟩ = false := by rw [hw8]; simp [go_sem, q7]
  have L8 : Hid (Below w.heap.size w w8) := by rw [hw8]; exact k'5c (chain L6.out b7) (by omega) _ _
  have Hw8 := i' hw8
  clear b7 hw8
  go_wp2_with fail
  rw [← Hw8.out]
  clear Hw8 q0 q1 q2 q3 q4 q5 q6 q7
  have HZ := i' ((k'5c (k'5c L8.out (g := w.heap.size + 1 + 1) (by omega) (.bool qb) (.string qs)) (g := w.heap.size + 1 + 1 + 1) (by omega) (.bool rb) (.string rs)).drew)
  go_region
  go_wp2
  exact bodyPost_ret (v := .tuple #[.agg #[.bool qb, .string qs], .agg #[.bool rb, .string rs], .int .i64 0]) (by simp [results, Tryz.results144, go_sem, f0, f1, f4, f5]) rfl ⟨rfl, HZ.out⟩
def vldR (a : Bool) (s : ByteArray) (b : Bool) (t : ByteArray) : Bool := vld a s && decide (0 < sgV b t)
def rat (a : Bool) (s : ByteArray) (b : Bool) (t : ByteArray) : Value := .agg #[.bool a, .string s, .bool b, .string t]
theorem k'5e (a b : Bool) (s t : ByteArray) (w : World) (z1 : s.size ≤ 140737488351232) (z2 : t.size ≤ 140737488351232) :
 Calls Tryz.prog 131 #[.agg #[.bool a, .string s, .bool b, .string t]] w (BPost (vldR a s b t) w) := by
 have HA := i' (fun w => k'3z a s w z1)
 have HB := i' (fun w => k'4k b t w z2)
 unfold vldR
 generalize vld a s = va at *
 obtain ⟨sg, hsg⟩ : ∃ sg, sgV b t = sg := ⟨_, rfl⟩
 rw [hsg] at HB ⊢
 clear hsg
 cases va with
 | false =>
  go_enter Tryz.func131, Tryz.ntmps131
  go_wp2_with fail
  refine (HA.out _).mono ?_
  rintro e wa ⟨rfl, hba⟩
  have HZ := i' (chain (k'56 w _) hba)
  clear hba
  go_wp2
  go_ret
  exact ⟨rfl, HZ.out⟩
 | true =>
  go_enter Tryz.func131, Tryz.ntmps131
  go_wp2_with fail
  refine (HA.out _).mono ?_
  rintro e wa ⟨rfl, hba⟩
  have k2 := keep1 hba (p := ⟨w.heap.size, 2, none⟩) (v := .bool b) (by simp [go_sem])
  have k3 := keep1 hba (p := ⟨w.heap.size, 3, none⟩) (v := .string t) (by simp [go_sem])
  have HBa := i' (chain (k'56 w _) hba)
  clear hba
  go_wp2_with fail
  refine (HB.out _).mono ?_
  rintro e wb ⟨rfl, hbb⟩
  have HZ := i' (chain HBa.out hbb)
  clear hbb
  go_wp2
  go_ret
  exact ⟨by simp, HZ.out⟩
end Go.Proofs.YtepddegphdlbeaaGreat
