/- What the theorem leans on, part 3: MulW, CmpW, NegOf, ShiftW, GcdW, Gcd1. -/
import Derived.Test.YtlmklhffafcmmaaT2

/- The function wide.Mul. -/
namespace Go.Proofs.Ytlmklhffafcmmaa
open Go.RowKit

theorem lenB_spec {s : ByteArray} (hc : Can s) (h0 : 0 < s.size) : ∃ l : Nat, lenB s = l ∧ 1 ≤ l ∧ 2 ^ (l - 1) ≤ bv s ∧ bv s < 2 ^ l := by
  have hne := hc h0
  have h1 : s[0].toNat ≠ 0 := fun h3 => hne (UInt8.toNat_inj.1 h3)
  have h2 : s[0].toNat < 256 := s[0].toNat_lt
  obtain ⟨b1, b2, b3⟩ := bitLen_spec _ _ (Nat.le_refl _) h1 (by omega)
  have e : s.data.toList = s[0] :: s.data.toList.tail := by
    cases hd : s.data.toList with
    | nil => have : s.data.toList.length = s.size := rfl; rw [hd] at this; simp at this; omega
    | cons x l =>
      have : s[0] = x := by
        have h2 : s[0] = s.data.toList[0]'(by simpa using h0) := rfl
        rw [h2]; simp [hd]
      rw [this]; rfl
  have hl : s.data.toList.tail.length = s.size - 1 := by rw [List.length_tail]; rfl
  have hv : bv s = Nm.val 256 (s.data.toList.tail.map UInt8.toNat).reverse + 256 ^ (s.size - 1) * s[0].toNat := by
    unfold bv rev
    rw [e, List.map_cons, List.reverse_cons, Nm.val_snoc, List.length_reverse, List.length_map, List.tail_cons, hl]
  have hlt := Nm.val_lt (dig_bytes s.data.toList.tail)
  rw [List.length_reverse, List.length_map, hl] at hlt
  refine ⟨8 * (s.size - 1) + Lib.bitLen s[0].toNat, ?_, by omega, ?_, ?_⟩
  · rw [lenB, dif_pos h0]; omega
  · rw [hv, show 8 * (s.size - 1) + Lib.bitLen s[0].toNat - 1 = 8 * (s.size - 1) + (Lib.bitLen s[0].toNat - 1) by omega, Nat.pow_add, show (2 : Nat) ^ (8 * (s.size - 1)) = 256 ^ (s.size - 1) by rw [Nat.pow_mul]]
    exact Nat.le_trans (Nat.mul_le_mul_left _ b2) (Nat.le_add_left _ _)
  · rw [hv, Nat.pow_add, show (2 : Nat) ^ (8 * (s.size - 1)) = 256 ^ (s.size - 1) by rw [Nat.pow_mul]]
    have : 256 ^ (s.size - 1) * (s[0].toNat + 1) ≤ 256 ^ (s.size - 1) * 2 ^ Lib.bitLen s[0].toNat := Nat.mul_le_mul_left _ b3
    rw [Nat.mul_add, Nat.mul_one] at this
    omega
theorem lenB_bd (s : ByteArray) (hs : s.size ≤ 8192) : 0 ≤ lenB s ∧ lenB s ≤ 70000 := by
  unfold lenB
  split
  · next h => have := bitLen_le64 s[0].toNat (by have h3 : s[0].toNat < 256 := s[0].toNat_lt; omega); omega
  · omega
theorem lenB_le {s : ByteArray} (hs : s.size ≤ 8192) : lenB s ≤ 65536 := by
  unfold lenB
  split
  · next h =>
    have h3 : s[0].toNat < 2 ^ 8 := s[0].toNat_lt
    have := Lib.bitLen_le s[0].toNat 8 (by decide) h3
    omega
  · omega
theorem mul_full {s t : ByteArray} (h1 : Can s) (h2 : Can t) (z1 : s.size ≤ 8192) (z2 : t.size ≤ 8192) (h : 65536 < lenB s + lenB t - 1) : Top ≤ bv s * bv t := by
  have b : ∀ s : ByteArray, s.size = 0 → lenB s = 0 := fun s h => by unfold lenB; rw [dif_neg (by omega)]
  have y1 := lenB_le z1
  have y2 := lenB_le z2
  rcases Nat.eq_zero_or_pos s.size with g1 | g1
  · rw [b s g1] at h; omega
  · rcases Nat.eq_zero_or_pos t.size with g2 | g2
    · rw [b t g2] at h; omega
    · obtain ⟨l1, e1, a1, c1, _⟩ := lenB_spec h1 g1
      obtain ⟨l2, e2, a2, c2, _⟩ := lenB_spec h2 g2
      rw [e1, e2] at h
      have h5 := Nat.mul_le_mul c1 c2
      rw [← Nat.pow_add] at h5
      refine Nat.le_trans ?_ h5
      rw [Top]
      exact Nat.pow_le_pow_right (by decide) (by rw [TopBits_eq]; omega)
theorem len_top3 {m n : Nat} (h1 : m < Top) (h2 : n < Top) : (Nm.dg W (m * n)).length ≤ 2048 := by
  refine len_of_top 2048 TopBits (m * n) ?_ (by rw [TopBits_eq]; decide)
  exact Nat.mul_lt_mul'' h1 h2

set_option maxRecDepth 100000 in
set_option maxHeartbeats 1000000 in
theorem Mul_valid (a b : Bool) (s t : ByteArray) (w : World) (hv1 : vld a s = true) (hv2 : vld b t = true) :
    Calls Try.prog 34 #[.agg #[.bool a, .string s], .agg #[.bool b, .string t]] w (WPost (wres (a != b) (bv s * bv t)) (werr (bv s * bv t)) w) := by
  have z1 := vld_size hv1
  have z2 := vld_size hv2
  have HV1 := Valid_any a s
  have HV2 := Valid_any b t
  rw [hv1] at HV1
  rw [hv2] at HV2
  have HA := Lib.hid (fun w => HV1 w (by omega))
  have HB := Lib.hid (fun w => HV2 w (by omega))
  have HR1 := Lib.hid (fun w => read_any a s w (by omega) (vld_can hv1))
  have HR2 := Lib.hid (fun w => read_any b t w (by omega) (vld_can hv2))
  have t1 := bv_lt hv1
  have t2 := bv_lt hv2
  have HP := Lib.hid (fun v1 v2 w h1 h2 => times_any a b v1 v2 (bv s) (bv t) w h1 h2 (Nat.le_trans (len_top t1) (by decide)) (Nat.le_trans (len_top t2) (by decide)))
  have HW := Lib.hid (fun v w h => write_any (a != b) v (bv s * bv t) w h (Nat.le_trans (len_top3 t1 t2) (by decide)))
  obtain ⟨rb, rs, hr⟩ := wres_form (a != b) (bv s * bv t)
  rw [hr] at HW ⊢
  clear HV1 HV2 t1 t2
  generalize hra : (a != b) = ra at *
  have HM : Hid (Top ≤ bv s * bv t → rb = false ∧ rs = ⟨#[]⟩ ∧ werr (bv s * bv t) = 7) := by
    intro h9
    rw [wres_full ra h9, wd, bs_zero] at hr
    simp at hr
    exact ⟨hr.1, hr.2.symm, werr_full h9⟩
  have HT := Lib.hid (fun h9 => HM.out (mul_full (vld_can hv1) (vld_can hv2) z1 z2 h9))
  have HQ1 := Lib.hid (fun w => bitsOf_any s w (by omega))
  have HQ2 := Lib.hid (fun w => bitsOf_any t w (by omega))
  have L1 := lenB_bd s z1
  have L2 := lenB_bd t z2
  clear hr hv1 hv2 HM hra
  generalize bv s * bv t = rm at *
  generalize lenB s = y1 at *
  generalize lenB t = y2 at *
  generalize bv s = m at *
  generalize bv t = n at *
  generalize hrc : werr rm = rc at *
  clear hrc
  go_enter Try.func34, Try.ntmps34
  go_wp2_with fail
  obtain ⟨w0, hw0⟩ : ∃ w0 : World, w0 = ((w.alloc (.cells #[.bool a, .string s] 23)).alloc (.cells #[.bool b, .string t] 23)).alloc (.cells #[.bool false, .string ⟨#[]⟩] 23) := ⟨_, rfl⟩
  have hb0 : Hid (Below w.heap.size w w0) := by rw [hw0]; exact (((Below.refl _ _).alloc (Nat.le_refl _) _).alloc (by simp) _).alloc (by simp; omega) _
  have k0 : w0.cell? ⟨w.heap.size, 0, none⟩ = some (.bool a) := by rw [hw0]; simp [go_sem]
  have k1 : w0.cell? ⟨w.heap.size, 1, none⟩ = some (.string s) := by rw [hw0]; simp [go_sem]
  have k2 : w0.cell? ⟨w.heap.size + 1, 0, none⟩ = some (.bool b) := by rw [hw0]; simp [go_sem]
  have k3 : w0.cell? ⟨w.heap.size + 1, 1, none⟩ = some (.string t) := by rw [hw0]; simp [go_sem]
  have k4 : w0.cell? ⟨w.heap.size + 1 + 1, 0, none⟩ = some (.bool false) := by rw [hw0]; simp [go_sem]
  have k5 : w0.cell? ⟨w.heap.size + 1 + 1, 1, none⟩ = some (.string ⟨#[]⟩) := by rw [hw0]; simp [go_sem]
  have k6 : w0.frozen? ⟨w.heap.size + 1 + 1, 0, none⟩ = false := by rw [hw0]; simp [go_sem]
  have k7 : w0.frozen? ⟨w.heap.size + 1 + 1, 1, none⟩ = false := by rw [hw0]; simp [go_sem]
  have hsz : w0.heap.size = w.heap.size + 3 := by rw [hw0]; simp
  rw [← hw0]
  have KK := Lib.hid (And.intro k0 (And.intro k1 (And.intro k2 (And.intro k3 (And.intro k4 (And.intro k5 (And.intro k6 k7)))))))
  have Hsz := Lib.hid hsz
  clear k0 k1 k2 k3 k4 k5 k6 k7 hw0 hsz
  refine (HA.out _).mono ?_
  rintro e wa ⟨rfl, hba⟩
  have q2 := keep1 hba KK.out.2.2.1
  have q3 := keep1 hba KK.out.2.2.2.1
  have HBa := Lib.hid hba
  clear hba
  go_wp2_with fail
  refine (HB.out _).mono ?_
  rintro e wb ⟨rfl, hbb⟩
  have hbc := chain HBa.out hbb
  have k0 := keep1 hbc KK.out.1
  have k1 := keep1 hbc KK.out.2.1
  have k2 := keep1 hbc KK.out.2.2.1
  have k3 := keep1 hbc KK.out.2.2.2.1
  have k4 := keep1 hbc KK.out.2.2.2.2.1
  have k5 := keep1 hbc KK.out.2.2.2.2.2.1
  have k6 := keepf hbc KK.out.2.2.2.2.1 KK.out.2.2.2.2.2.2.1
  have k7 := keepf hbc KK.out.2.2.2.2.2.1 KK.out.2.2.2.2.2.2.2
  have HBc := Lib.hid hbc
  have n1 : ¬ (w.heap.size = w.heap.size + 1 + 1) := by omega
  have n2 : ¬ (w.heap.size + 1 + 1 = w.heap.size) := by omega
  clear q2 q3 hbb hbc
  go_wp2_with fail
  by_cases hbig : 65536 < y1 + y2 - 1
  · obtain ⟨e1, e2, e3⟩ := HT.out hbig
    subst e1 e2
    have E3 := Lib.hid e3
    clear e3 HT
    go_quiet ((first | (go_at_call 54; with_reducible exact quiet_left (HQ1.out _)) | (go_at_call 54; with_reducible exact quiet_left (HQ2.out _))))
    have HZ := Lib.hid (((belowDrewN (chain hb0.out HBc.out) nq).setCell (p := ⟨w.heap.size + 1 + 1, 0, none⟩) (by simp; omega) (.bool false)).setCell (p := ⟨w.heap.size + 1 + 1, 1, none⟩) (by simp; omega) (.string ⟨#[]⟩))
    go_wp2
    exact bodyPost_ret (v := .tuple #[.agg #[.bool false, .string ⟨#[]⟩], .int .i64 7]) (by simp [results, Try.results34, go_sem, k4, k5]) rfl ⟨by rw [E3.out], HZ.out⟩
  clear HT
  go_quiet ((first | (go_at_call 54; with_reducible exact quiet_left (HQ1.out _)) | (go_at_call 54; with_reducible exact quiet_left (HQ2.out _))))
  go_wp2_with fail
  go_region_held3 (fun W' => W'.cell? ⟨w.heap.size, 0, none⟩ = some (.bool a) ∧ W'.cell? ⟨w.heap.size, 1, none⟩ = some (.string s) ∧ W'.cell? ⟨w.heap.size + 1, 0, none⟩ = some (.bool b) ∧ W'.cell? ⟨w.heap.size + 1, 1, none⟩ = some (.string t)) (go_keep)
    (first
      | (go_at_call 63; (with_reducible refine (HR1.out _).mono ?_); rintro e w1 ⟨v1, rfl, r1, b1⟩; have c1 := chain (belowDrewN (Below.refl _ _) _) b1; have p0 := keep1 c1 k0; have p1 := keep1 c1 k1; have p2 := keep1 c1 k2; have p3 := keep1 c1 k3; have G1 := Lib.hid (And.intro r1 c1); clear r1 b1 c1)
      | (go_at_call 63; (with_reducible refine (HR2.out _).mono ?_); rintro e w2 ⟨v2, rfl, r2, b2⟩; have c2 := chain G1.out.2 b2; have p0 := keep1 c2 k0; have p1 := keep1 c2 k1; have p2 := keep1 c2 k2; have p3 := keep1 c2 k3; have G2 := Lib.hid (And.intro (G1.out.1.below b2 (Nat.le_refl _)) (And.intro r2 c2)); clear r2 b2 c2)
      | (go_at_call 68; (with_reducible refine (HP.out _ _ _ G2.out.1 G2.out.2.1).mono ?_); rintro e w3 ⟨v3, rfl, r3, b3⟩; have c3 := chain G2.out.2.2 b3; have p0 := keep1 c3 k0; have p1 := keep1 c3 k1; have p2 := keep1 c3 k2; have p3 := keep1 c3 k3; have G3 := Lib.hid (And.intro r3 c3); clear r3 b3 c3)
      | (go_at_call 61; (with_reducible refine (HW.out _ _ G3.out.1).mono ?_); rintro e w4 ⟨rfl, b4⟩; have c4 := chain G3.out.2 b4; have p0 := keep1 c4 k0; have p1 := keep1 c4 k1; have p2 := keep1 c4 k2; have p3 := keep1 c4 k3; have p4 := keep1 c4 k4; have p5 := keep1 c4 k5; have p6 := keepf c4 k4 k6; have p7 := keepf c4 k5 k7; have G4 := Lib.hid c4; clear b4 c4))
  have HZ := Lib.hid (((chain (chain hb0.out HBc.out) G4.out).setCell (p := ⟨w.heap.size + 1 + 1, 0, none⟩) (by simp; omega) (.bool rb)).setCell (p := ⟨w.heap.size + 1 + 1, 1, none⟩) (by simp; omega) (.string rs))
  go_wp2
  exact bodyPost_ret (v := .tuple #[.agg #[.bool rb, .string rs], .int .i64 rc]) (by simp [results, Try.results34, go_sem, p4, p5]) rfl ⟨rfl, HZ.out⟩

set_option maxRecDepth 100000 in
set_option maxHeartbeats 1000000 in
theorem Mul_invalid (a b : Bool) (s t : ByteArray) (w : World) (z1 : s.size ≤ 140737488351232) (z2 : t.size ≤ 140737488351232) (hv : (vld a s && vld b t) = false) :
    Calls Try.prog 34 #[.agg #[.bool a, .string s], .agg #[.bool b, .string t]] w (WPost (wd false 0) 2 w) := by
  have HA := Lib.hid (fun w => Valid_any a s w z1)
  have HB := Lib.hid (fun w => Valid_any b t w z2)
  cases h1 : vld a s with
  | false =>
    rw [h1] at HA
    clear h1 hv
    go_enter Try.func34, Try.ntmps34
    go_wp2_with fail
    refine (HA.out _).mono ?_
    rintro e wa ⟨rfl, hba⟩
    have k4 := keep1 hba (p := ⟨w.heap.size + 1 + 1, 0, none⟩) (v := .bool false) (by simp [go_sem])
    have k5 := keep1 hba (p := ⟨w.heap.size + 1 + 1, 1, none⟩) (v := .string ⟨#[]⟩) (by simp [go_sem])
    have k6 := keepf hba (p := ⟨w.heap.size + 1 + 1, 0, none⟩) (v := .bool false) (by simp [go_sem]) (by simp [go_sem])
    have k7 := keepf hba (p := ⟨w.heap.size + 1 + 1, 1, none⟩) (v := .string ⟨#[]⟩) (by simp [go_sem]) (by simp [go_sem])
    have HZ := Lib.hid (((chain ((((Below.refl w.heap.size w).alloc (Nat.le_refl _) _).alloc (by simp) _).alloc (by simp; omega) _) hba).setCell (p := ⟨w.heap.size + 1 + 1, 0, none⟩) (by simp; omega) (.bool false)).setCell (p := ⟨w.heap.size + 1 + 1, 1, none⟩) (by simp; omega) (.string ⟨#[]⟩))
    clear hba
    go_wp2
    exact bodyPost_ret (v := .tuple #[.agg #[.bool false, .string ⟨#[]⟩], .int .i64 2]) (by simp [results, Try.results34, go_sem, k4, k5]) rfl ⟨by rw [wd, bs_zero]; simp, HZ.out⟩
  | true =>
    have h2 : vld b t = false := by rw [h1] at hv; simpa using hv
    rw [h1] at HA
    rw [h2] at HB
    clear h1 hv h2
    go_enter Try.func34, Try.ntmps34
    go_wp2_with fail
    refine (HA.out _).mono ?_
    rintro e wa ⟨rfl, hba⟩
    have k2 := keep1 hba (p := ⟨w.heap.size + 1, 0, none⟩) (v := .bool b) (by simp [go_sem])
    have k3 := keep1 hba (p := ⟨w.heap.size + 1, 1, none⟩) (v := .string t) (by simp [go_sem])
    have j4 := keep1 hba (p := ⟨w.heap.size + 1 + 1, 0, none⟩) (v := .bool false) (by simp [go_sem])
    have j5 := keep1 hba (p := ⟨w.heap.size + 1 + 1, 1, none⟩) (v := .string ⟨#[]⟩) (by simp [go_sem])
    have j6 := keepf hba (p := ⟨w.heap.size + 1 + 1, 0, none⟩) (v := .bool false) (by simp [go_sem]) (by simp [go_sem])
    have j7 := keepf hba (p := ⟨w.heap.size + 1 + 1, 1, none⟩) (v := .string ⟨#[]⟩) (by simp [go_sem]) (by simp [go_sem])
    have HBa := Lib.hid (chain ((((Below.refl w.heap.size w).alloc (Nat.le_refl _) _).alloc (by simp) _).alloc (by simp; omega) _) hba)
    have J := Lib.hid (And.intro j4 (And.intro j5 (And.intro j6 j7)))
    clear hba j4 j5 j6 j7
    go_wp2_with fail
    refine (HB.out _).mono ?_
    rintro e wb ⟨rfl, hbb⟩
    have k4 := keep1 hbb J.out.1
    have k5 := keep1 hbb J.out.2.1
    have k6 := keepf hbb J.out.1 J.out.2.2.1
    have k7 := keepf hbb J.out.2.1 J.out.2.2.2
    have HZ := Lib.hid (((chain HBa.out hbb).setCell (p := ⟨w.heap.size + 1 + 1, 0, none⟩) (by simp; omega) (.bool false)).setCell (p := ⟨w.heap.size + 1 + 1, 1, none⟩) (by simp; omega) (.string ⟨#[]⟩))
    clear hbb k2 k3
    go_wp2
    exact bodyPost_ret (v := .tuple #[.agg #[.bool false, .string ⟨#[]⟩], .int .i64 2]) (by simp [results, Try.results34, go_sem, k4, k5]) rfl ⟨by rw [wd, bs_zero]; simp, HZ.out⟩
end Go.Proofs.Ytlmklhffafcmmaa

/- The functions wide.Compare, wide.Sign, wide.Neg, wide.Of and wide.Int. -/
namespace Go.Proofs.Ytlmklhffafcmmaa
open Go.RowKit

/-- How two valid wide integers compare. -/
def cmpV : Bool → ByteArray → Bool → ByteArray → Int
  | false, s, false, t => cmpN (bv s) (bv t)
  | true, s, true, t => cmpN (bv t) (bv s)
  | true, _, false, _ => -1
  | false, _, true, _ => 1

set_option maxRecDepth 100000 in
set_option maxHeartbeats 1000000 in
theorem Compare_invalid (a b : Bool) (s t : ByteArray) (w : World) (z1 : s.size ≤ 140737488351232) (z2 : t.size ≤ 140737488351232) (hv : (vld a s && vld b t) = false) :
    Calls Try.prog 15 #[.agg #[.bool a, .string s], .agg #[.bool b, .string t]] w (IPost 0 w) := by
  have HA := Lib.hid (fun w => Valid_any a s w z1)
  have HB := Lib.hid (fun w => Valid_any b t w z2)
  cases h1 : vld a s with
  | false =>
    rw [h1] at HA
    clear h1 hv
    go_enter Try.func15, Try.ntmps15
    go_wp2_with fail
    refine (HA.out _).mono ?_
    rintro e wa ⟨rfl, hba⟩
    have HZ := Lib.hid (chain (((Below.refl w.heap.size w).alloc (Nat.le_refl _) _).alloc (by simp) _) hba)
    clear hba
    go_wp2
    go_ret
    exact ⟨rfl, HZ.out⟩
  | true =>
    have h2 : vld b t = false := by rw [h1] at hv; simpa using hv
    rw [h1] at HA
    rw [h2] at HB
    clear h1 hv h2
    go_enter Try.func15, Try.ntmps15
    go_wp2_with fail
    refine (HA.out _).mono ?_
    rintro e wa ⟨rfl, hba⟩
    have k2 := keep1 hba (p := ⟨w.heap.size + 1, 0, none⟩) (v := .bool b) (by simp [go_sem])
    have k3 := keep1 hba (p := ⟨w.heap.size + 1, 1, none⟩) (v := .string t) (by simp [go_sem])
    have HBa := Lib.hid (chain (((Below.refl w.heap.size w).alloc (Nat.le_refl _) _).alloc (by simp) _) hba)
    clear hba
    go_wp2_with fail
    refine (HB.out _).mono ?_
    rintro e wb ⟨rfl, hbb⟩
    have HZ := Lib.hid (chain HBa.out hbb)
    clear hbb k2 k3
    go_wp2
    go_ret
    exact ⟨rfl, HZ.out⟩

set_option maxRecDepth 100000 in
set_option maxHeartbeats 1000000 in
theorem Compare_valid (a b : Bool) (s t : ByteArray) (w : World) (hv1 : vld a s = true) (hv2 : vld b t = true) :
    Calls Try.prog 15 #[.agg #[.bool a, .string s], .agg #[.bool b, .string t]] w (IPost (cmpV a s b t) w) := by
  have z1 := vld_size hv1
  have z2 := vld_size hv2
  have HV1 := Valid_any a s
  have HV2 := Valid_any b t
  rw [hv1] at HV1
  rw [hv2] at HV2
  have HA := Lib.hid (fun w => HV1 w (by omega))
  have HB := Lib.hid (fun w => HV2 w (by omega))
  have HC1 := Lib.hid (fun w => compareBytes_any s t w (vld_can hv1) (vld_can hv2))
  have HC2 := Lib.hid (fun w => compareBytes_any t s w (vld_can hv2) (vld_can hv1))
  obtain ⟨w0, hw0⟩ : ∃ w0 : World, w0 = (w.alloc (.cells #[.bool a, .string s] 23)).alloc (.cells #[.bool b, .string t] 23) := ⟨_, rfl⟩
  have hb0 : Hid (Below w.heap.size w w0) := by rw [hw0]; exact ((Below.refl _ _).alloc (Nat.le_refl _) _).alloc (by simp) _
  have k0 : w0.cell? ⟨w.heap.size, 0, none⟩ = some (.bool a) := by rw [hw0]; simp [go_sem]
  have k1 : w0.cell? ⟨w.heap.size, 1, none⟩ = some (.string s) := by rw [hw0]; simp [go_sem]
  have k2 : w0.cell? ⟨w.heap.size + 1, 0, none⟩ = some (.bool b) := by rw [hw0]; simp [go_sem]
  have k3 : w0.cell? ⟨w.heap.size + 1, 1, none⟩ = some (.string t) := by rw [hw0]; simp [go_sem]
  have KK := Lib.hid (And.intro k0 (And.intro k1 (And.intro k2 k3)))
  have Hw0 := Lib.hid hw0
  clear k0 k1 k2 k3 hw0 HV1 HV2 hv1 hv2
  cases a <;> cases b
  all_goals
    go_enter Try.func15, Try.ntmps15
    go_wp2_with fail
    rw [← Hw0.out]
    refine (HA.out _).mono ?_
    rintro e wa ⟨rfl, hba⟩
    have k2 := keep1 hba KK.out.2.2.1
    have k3 := keep1 hba KK.out.2.2.2
    have HBa := Lib.hid hba
    clear hba
    go_wp2_with fail
    refine (HB.out _).mono ?_
    rintro e wb ⟨rfl, hbb⟩
    have hbc := chain HBa.out hbb
    have q0 := keep1 hbc KK.out.1
    have q1 := keep1 hbc KK.out.2.1
    have q2 := keep1 hbc KK.out.2.2.1
    have q3 := keep1 hbc KK.out.2.2.2
    have HZ := Lib.hid (chain hb0.out hbc)
    clear hbb hbc k2 k3
    go_wp2_with fail
  · refine (HC1.out _).mono ?_
    rintro e w9 ⟨rfl, rfl⟩
    go_wp2
    go_ret
    exact ⟨rfl, HZ.out⟩
  · go_ret
    exact ⟨rfl, HZ.out⟩
  · go_ret
    exact ⟨rfl, HZ.out⟩
  · refine (HC2.out _).mono ?_
    rintro e w9 ⟨rfl, rfl⟩
    go_wp2
    go_ret
    exact ⟨rfl, HZ.out⟩

/-- The sign of a valid wide integer, and 0 of one that is not valid. -/
def sgV (a : Bool) (s : ByteArray) : Int := if vld a s = true ∧ 0 < s.size then (if a = true then -1 else 1) else 0

set_option maxRecDepth 100000 in
set_option maxHeartbeats 1000000 in
theorem Sign_any (a : Bool) (s : ByteArray) (w : World) (z1 : s.size ≤ 140737488351232) :
    Calls Try.prog 16 #[.agg #[.bool a, .string s]] w (IPost (sgV a s) w) := by
  have HA := Lib.hid (fun w => Valid_any a s w z1)
  have hb0 : Hid (Below w.heap.size w (w.alloc (.cells #[.bool a, .string s] 23))) := (Below.refl _ _).alloc (Nat.le_refl _) _
  rcases Nat.eq_zero_or_pos s.size with h0 | h0
  · have E : Hid (sgV a s = 0) := by show _ = _; rw [sgV, if_neg (by omega)]
    rw [E.out]
    have := empty_of h0
    subst this
    clear h0 E HA
    go_enter Try.func16, Try.ntmps16
    go_wp2
    go_ret
    exact ⟨rfl, hb0.out⟩
  · have he := nonempty_str s h0
    have he2 : (s.toList == []) = false := by
      cases hd : s.toList with
      | nil => rw [hd] at he; simp at he
      | cons x l => rfl
    have k0 : (w.alloc (.cells #[.bool a, .string s] 23)).cell? ⟨w.heap.size, 0, none⟩ = some (.bool a) := by simp [go_sem]
    have K0 := Lib.hid k0
    clear k0
    cases h1 : vld a s with
    | false =>
      have E : Hid (sgV a s = 0) := by show _ = _; rw [sgV, h1]; simp
      rw [E.out]
      rw [h1] at HA
      clear h1 E
      go_enter Try.func16, Try.ntmps16
      go_wp2_with fail
      refine (HA.out _).mono ?_
      rintro e wa ⟨rfl, hba⟩
      have HZ := Lib.hid (chain hb0.out hba)
      clear hba
      go_wp2
      go_ret
      exact ⟨rfl, HZ.out⟩
    | true =>
      have E : Hid (sgV a s = if a = true then -1 else 1) := by show _ = _; rw [sgV, if_pos ⟨h1, h0⟩]
      rw [E.out]
      rw [h1] at HA
      clear h1 E
      cases a
      all_goals
        go_enter Try.func16, Try.ntmps16
        go_wp2_with fail
        refine (HA.out _).mono ?_
        rintro e wa ⟨rfl, hba⟩
        have q0 := keep1 hba K0.out
        have HZ := Lib.hid (chain hb0.out hba)
        clear hba
        go_wp2
        go_ret
        exact ⟨rfl, HZ.out⟩
end Go.Proofs.Ytlmklhffafcmmaa

/- The functions wide.Neg, wide.Of and wide.Int. -/
namespace Go.Proofs.Ytlmklhffafcmmaa
open Go.RowKit

theorem bs_bv {s : ByteArray} (h : Can s) : bs (bv s) = s := by
  have e : Nm.dg 256 (bv s) = rev s := (Nm.eq_dg (by decide : 2 ≤ 256) (dig_rev s) (nrm_rev s h)).symm
  have hd : (Nm.dg 256 (bv s)).reverse.map UInt8.ofNat = s.data.toList := by
    rw [e, rev, List.reverse_reverse, List.map_map]
    have : (UInt8.ofNat ∘ UInt8.toNat) = id := by funext x; simp
    rw [this, List.map_id]
  unfold bs
  rw [hd]
theorem bv_zero_iff {s : ByteArray} (h : Can s) : bv s = 0 ↔ s.size = 0 := by
  constructor
  · intro h0
    have := Nm.val_zero (B := 256) (by decide) (nrm_rev s h) h0
    have h2 := rev_length s
    rw [this] at h2; simpa using h2.symm
  · intro h0; rw [empty_of h0]; rfl
theorem wd_valid {a : Bool} {s : ByteArray} (h : vld a s = true) : (.agg #[.bool a, .string s] : Value) = wd a (bv s) := by
  have hc := vld_can h
  rw [wd, bs_bv hc]
  have : (a && decide (bv s ≠ 0)) = a := by
    cases a with
    | false => rfl
    | true =>
      have h0 : s.size ≠ 0 := fun h0 => by
        unfold vld at h; rw [dif_neg (by omega)] at h; simp at h
      have : bv s ≠ 0 := fun h1 => h0 ((bv_zero_iff hc).1 h1)
      simp [this]
  rw [this]

set_option maxRecDepth 100000 in
set_option maxHeartbeats 1000000 in
theorem Neg_any (a : Bool) (s : ByteArray) (w : World) (z1 : s.size ≤ 140737488351232) :
    Calls Try.prog 26 #[.agg #[.bool a, .string s]] w (WPost (if vld a s = true then wd (!a) (bv s) else wd false 0) (if vld a s = true then 0 else 2) w) := by
  have HA := Lib.hid (fun w => Valid_any a s w z1)
  obtain ⟨w0, hw0⟩ : ∃ w0 : World, w0 = (w.alloc (.cells #[.bool a, .string s] 23)).alloc (.cells #[.bool false, .string ⟨#[]⟩] 23) := ⟨_, rfl⟩
  have hb0 : Hid (Below w.heap.size w w0) := by rw [hw0]; exact ((Below.refl _ _).alloc (Nat.le_refl _) _).alloc (by simp) _
  have k0 : w0.cell? ⟨w.heap.size, 0, none⟩ = some (.bool a) := by rw [hw0]; simp [go_sem]
  have k1 : w0.cell? ⟨w.heap.size, 1, none⟩ = some (.string s) := by rw [hw0]; simp [go_sem]
  have k4 : w0.cell? ⟨w.heap.size + 1, 0, none⟩ = some (.bool false) := by rw [hw0]; simp [go_sem]
  have k5 : w0.cell? ⟨w.heap.size + 1, 1, none⟩ = some (.string ⟨#[]⟩) := by rw [hw0]; simp [go_sem]
  have k6 : w0.frozen? ⟨w.heap.size + 1, 0, none⟩ = false := by rw [hw0]; simp [go_sem]
  have k7 : w0.frozen? ⟨w.heap.size + 1, 1, none⟩ = false := by rw [hw0]; simp [go_sem]
  have KK := Lib.hid (And.intro k0 (And.intro k1 (And.intro k4 (And.intro k5 (And.intro k6 k7)))))
  have Hw0 := Lib.hid hw0
  clear k0 k1 k4 k5 k6 k7 hw0
  have go : ∀ (vb : Bool), Hid (vld a s = vb) → Calls Try.prog 26 #[.agg #[.bool a, .string s]] w (WPost (if vld a s = true then wd (!a) (bv s) else wd false 0) (if vld a s = true then 0 else 2) w) := by
    intro vb hvb
    have hvb2 := hvb.out
    cases vb with
    | false =>
      rw [hvb2] at HA
      rw [hvb2, if_neg (by simp), if_neg (by simp)]
      clear hvb2 hvb
      go_enter Try.func26, Try.ntmps26
      go_wp2_with fail
      rw [← Hw0.out]
      refine (HA.out _).mono ?_
      rintro e wa ⟨rfl, hba⟩
      have q4 := keep1 hba KK.out.2.2.1
      have q5 := keep1 hba KK.out.2.2.2.1
      have q6 := keepf hba KK.out.2.2.1 KK.out.2.2.2.2.1
      have q7 := keepf hba KK.out.2.2.2.1 KK.out.2.2.2.2.2
      have HZ := Lib.hid (((chain hb0.out hba).setCell (p := ⟨w.heap.size + 1, 0, none⟩) (by simp) (.bool false)).setCell (p := ⟨w.heap.size + 1, 1, none⟩) (by simp) (.string ⟨#[]⟩))
      clear hba
      go_wp2
      exact bodyPost_ret (v := .tuple #[.agg #[.bool false, .string ⟨#[]⟩], .int .i64 2]) (by simp [results, Try.results26, go_sem, q4, q5]) rfl ⟨by rw [wd, bs_zero]; simp, HZ.out⟩
    | true =>
      have hc := vld_can hvb2
      have hwd : Hid (wd (!a) (bv s) = .agg #[.bool (!a && decide (0 < s.size)), .string s]) := by
        show _ = _
        rw [wd, bs_bv hc]
        congr 3
        have := bv_zero_iff hc
        by_cases h0 : s.size = 0
        · have h1 := this.2 h0; simp [h0, h1]
        · have h1 : bv s ≠ 0 := fun h => h0 (this.1 h)
          have h2 : 0 < s.size := by omega
          simp [h1, h2]
      rw [hvb2] at HA
      rw [hvb2, if_pos rfl, if_pos rfl, hwd.out]
      clear hvb2 hvb hwd
      rcases Nat.eq_zero_or_pos s.size with h0 | h0
      · have hd : Hid (decide (0 < s.size) = false) := decide_eq_false (by omega)
        have hs := empty_of h0
        subst hs
        rw [hd.out]
        clear h0
        cases a
        all_goals
          go_enter Try.func26, Try.ntmps26
          go_wp2_with fail
          rw [← Hw0.out]
          refine (HA.out _).mono ?_
          rintro e wa ⟨rfl, hba⟩
          have q0 := keep1 hba KK.out.1
          have q1 := keep1 hba KK.out.2.1
          have q4 := keep1 hba KK.out.2.2.1
          have q5 := keep1 hba KK.out.2.2.2.1
          have q6 := keepf hba KK.out.2.2.1 KK.out.2.2.2.2.1
          have q7 := keepf hba KK.out.2.2.2.1 KK.out.2.2.2.2.2
          have HZ := Lib.hid (((chain hb0.out hba).setCell (p := ⟨w.heap.size + 1, 0, none⟩) (by simp) (.bool false)).setCell (p := ⟨w.heap.size + 1, 1, none⟩) (by simp) (.string ⟨#[]⟩))
          clear hba
          go_wp2
          exact bodyPost_ret (v := .tuple #[.agg #[.bool false, .string ⟨#[]⟩], .int .i64 0]) (by simp [results, Try.results26, go_sem, q4, q5]) rfl ⟨by simp, HZ.out⟩
      · have hd : Hid (decide (0 < s.size) = true) := decide_eq_true h0
        have he := nonempty_str s h0
        have he2 : (s.toList == []) = false := by
          cases hd : s.toList with
          | nil => rw [hd] at he; simp at he
          | cons x l => rfl
        rw [hd.out]
        cases a
        all_goals
          go_enter Try.func26, Try.ntmps26
          go_wp2_with fail
          rw [← Hw0.out]
          refine (HA.out _).mono ?_
          rintro e wa ⟨rfl, hba⟩
          have q0 := keep1 hba KK.out.1
          have q1 := keep1 hba KK.out.2.1
          have q4 := keep1 hba KK.out.2.2.1
          have q5 := keep1 hba KK.out.2.2.2.1
          have q6 := keepf hba KK.out.2.2.1 KK.out.2.2.2.2.1
          have q7 := keepf hba KK.out.2.2.2.1 KK.out.2.2.2.2.2
          have HZ := Lib.hid (fun x => ((chain hb0.out hba).setCell (p := ⟨w.heap.size + 1, 0, none⟩) (by simp) (.bool x)).setCell (p := ⟨w.heap.size + 1, 1, none⟩) (by simp) (.string s))
          clear hba
          go_wp2
        · exact bodyPost_ret (v := .tuple #[.agg #[.bool true, .string s], .int .i64 0]) (by simp [results, Try.results26, go_sem, q4, q5]) rfl ⟨by simp, HZ.out _⟩
        · exact bodyPost_ret (v := .tuple #[.agg #[.bool false, .string s], .int .i64 0]) (by simp [results, Try.results26, go_sem, q4, q5]) rfl ⟨by simp, HZ.out _⟩
  exact go _ rfl

theorem of_neg (n : Int) (h1 : -9223372036854775808 ≤ n) (h2 : n < 0) : IntKind.u64.wrap (-IntKind.u64.wrap n) = ((n.natAbs : Nat) : Int) := by
  simp only [IntKind.wrap_u64]; omega
theorem of_pos (n : Int) (h1 : 0 ≤ n) (h2 : n ≤ 9223372036854775807) : IntKind.u64.wrap n = ((n.natAbs : Nat) : Int) := by
  simp only [IntKind.wrap_u64]; omega

def OfPost (n : Int) (w : World) (e : Ending) (w' : World) : Prop := e = .returned (.agg #[.bool (decide (n < 0)), .string (bs n.natAbs)]) ∧ Below w.heap.size w w'

set_option maxRecDepth 100000 in
set_option maxHeartbeats 1000000 in
theorem Of_any (n : Int) (w : World) (h1 : -9223372036854775808 ≤ n) (h2 : n ≤ 9223372036854775807) : Calls Try.prog 22 #[.int .i64 n] w (OfPost n w) := by
  have hW : n.natAbs < W := by unfold W; omega
  have HF := Lib.hid (fun a => fromWord_any a n.natAbs hW)
  by_cases hn : n < 0
  · have en := of_neg n h1 hn
    have HD : Hid (decide (n < 0) = true) := decide_eq_true hn
    obtain ⟨sx, hsx⟩ : ∃ sx, bs n.natAbs = sx := ⟨_, rfl⟩
    rw [hsx] at HF
    have HS := Lib.hid hsx
    clear hsx
    obtain ⟨x, hx⟩ : ∃ x, n.natAbs = x := ⟨_, rfl⟩
    rw [hx] at HF en
    clear h1 h2 hW hx
    go_enter Try.func22, Try.ntmps22
    go_wp2_with fail
    refine (HF.out true _).mono ?_
    rintro e w' ⟨rfl, hb⟩
    have q4 := keep1 hb (p := ⟨w.heap.size, 0, none⟩) (v := .bool false) (by simp [go_sem])
    have q5 := keep1 hb (p := ⟨w.heap.size, 1, none⟩) (v := .string ⟨#[]⟩) (by simp [go_sem])
    have q6 := keepf hb (p := ⟨w.heap.size, 0, none⟩) (v := .bool false) (by simp [go_sem]) (by simp [go_sem])
    have q7 := keepf hb (p := ⟨w.heap.size, 1, none⟩) (v := .string ⟨#[]⟩) (by simp [go_sem]) (by simp [go_sem])
    have HZ := Lib.hid (((chain ((Below.refl w.heap.size w).alloc (Nat.le_refl _) _) hb).setCell (p := ⟨w.heap.size, 0, none⟩) (Nat.le_refl _) (.bool true)).setCell (p := ⟨w.heap.size, 1, none⟩) (Nat.le_refl _) (.string sx))
    clear hb
    go_wp2
    exact bodyPost_ret (v := .agg #[.bool true, .string sx]) (by simp [results, Try.results22, go_sem, q4, q5]) rfl ⟨by rw [HD.out, HS.out], HZ.out⟩
  · have en := of_pos n (by omega) h2
    have HD : Hid (decide (n < 0) = false) := decide_eq_false hn
    obtain ⟨sx, hsx⟩ : ∃ sx, bs n.natAbs = sx := ⟨_, rfl⟩
    rw [hsx] at HF
    have HS := Lib.hid hsx
    clear hsx
    obtain ⟨x, hx⟩ : ∃ x, n.natAbs = x := ⟨_, rfl⟩
    rw [hx] at HF en
    clear h1 h2 hW hx
    go_enter Try.func22, Try.ntmps22
    go_wp2_with fail
    refine (HF.out false _).mono ?_
    rintro e w' ⟨rfl, hb⟩
    have q4 := keep1 hb (p := ⟨w.heap.size, 0, none⟩) (v := .bool false) (by simp [go_sem])
    have q5 := keep1 hb (p := ⟨w.heap.size, 1, none⟩) (v := .string ⟨#[]⟩) (by simp [go_sem])
    have q6 := keepf hb (p := ⟨w.heap.size, 0, none⟩) (v := .bool false) (by simp [go_sem]) (by simp [go_sem])
    have q7 := keepf hb (p := ⟨w.heap.size, 1, none⟩) (v := .string ⟨#[]⟩) (by simp [go_sem]) (by simp [go_sem])
    have HZ := Lib.hid (((chain ((Below.refl w.heap.size w).alloc (Nat.le_refl _) _) hb).setCell (p := ⟨w.heap.size, 0, none⟩) (Nat.le_refl _) (.bool false)).setCell (p := ⟨w.heap.size, 1, none⟩) (Nat.le_refl _) (.string sx))
    clear hb
    go_wp2
    exact bodyPost_ret (v := .agg #[.bool false, .string sx]) (by simp [results, Try.results22, go_sem, q4, q5]) rfl ⟨by rw [HD.out, HS.out], HZ.out⟩

/-- The integer of a sign and a magnitude. -/
def sg (a : Bool) (m : Nat) : Int := if a = true then -(m : Int) else m

def IntWPost (a : Bool) (s : ByteArray) (w : World) (e : Ending) (w' : World) : Prop :=
  (e = .returned (.tuple #[.int .i64 (if -9223372036854775808 ≤ sg a (bv s) ∧ sg a (bv s) ≤ 9223372036854775807 then sg a (bv s) else 0), .int .i64 (if -9223372036854775808 ≤ sg a (bv s) ∧ sg a (bv s) ≤ 9223372036854775807 then 0 else 3)])) ∧ Below w.heap.size w w'

theorem int_long {a : Bool} {s : ByteArray} (hc : Can s) (h : 8 < s.size) : ¬ (-9223372036854775808 ≤ sg a (bv s) ∧ sg a (bv s) ≤ 9223372036854775807) := by
  have h1 := Nm.val_pos (B := 256) (nrm_rev s hc) (by intro e; have := rev_length s; rw [e] at this; simp at this; omega)
  rw [rev_length] at h1
  have h2 : (256 : Nat) ^ 8 ≤ 256 ^ (s.size - 1) := Nat.pow_le_pow_right (by decide) (by omega)
  have h3 : 256 ^ 8 ≤ bv s := Nat.le_trans h2 h1
  have h4 : (256 : Nat) ^ 8 = 18446744073709551616 := by decide
  rw [h4] at h3
  unfold sg
  split <;> omega

theorem int_neg (x : Int) (h0 : 0 ≤ x) (h : x ≤ 9223372036854775808) : IntKind.i64.wrap (IntKind.u64.wrap (-x)) = -x := by
  simp only [IntKind.wrap_u64, IntKind.wrap_i64]; omega
theorem int_pos (x : Int) (h0 : 0 ≤ x) (h : x < 9223372036854775808) : IntKind.i64.wrap x = x := by
  simp only [IntKind.wrap_i64]; omega

set_option maxRecDepth 100000 in
set_option maxHeartbeats 1000000 in
theorem Int_valid (a : Bool) (s : ByteArray) (w : World) (hv : vld a s = true) : Calls Try.prog 24 #[.agg #[.bool a, .string s]] w (IntWPost a s w) := by
  have z1 := vld_size hv
  have hc := vld_can hv
  have HA := Valid_any a s
  rw [hv] at HA
  have HA := Lib.hid (fun w => HA w (by omega))
  obtain ⟨w0, hw0⟩ : ∃ w0 : World, w0 = w.alloc (.cells #[.bool a, .string s] 23) := ⟨_, rfl⟩
  have hb0 : Hid (Below w.heap.size w w0) := by rw [hw0]; exact (Below.refl _ _).alloc (Nat.le_refl _) _
  have k0 : w0.cell? ⟨w.heap.size, 0, none⟩ = some (.bool a) := by rw [hw0]; simp [go_sem]
  have k1 : w0.cell? ⟨w.heap.size, 1, none⟩ = some (.string s) := by rw [hw0]; simp [go_sem]
  have KK := Lib.hid (And.intro k0 k1)
  have Hw0 := Lib.hid hw0
  clear k0 k1 hw0
  by_cases h8 : s.size ≤ 8
  · have HT := Lib.hid (fun w => toWord_any s w h8)
    obtain ⟨x, hx⟩ : ∃ x : Int, ((bv s : Nat) : Int) = x := ⟨_, rfl⟩
    have hx0 : Hid (0 ≤ x) := by show 0 ≤ x; omega
    rw [hx] at HT
    have HX := Lib.hid hx
    clear hx hv hc
    cases a
    · have E : Hid (sg false (bv s) = x) := by show _ = _; rw [sg, if_neg (by simp)]; exact HX.out
      by_cases c : x < 9223372036854775808
      · have ew := int_pos x hx0.out c
        have R : Hid (-9223372036854775808 ≤ sg false (bv s) ∧ sg false (bv s) ≤ 9223372036854775807) := by rw [E.out]; have := hx0.out; exact ⟨by omega, by omega⟩
        go_enter Try.func24, Try.ntmps24
        go_wp2_with fail
        rw [← Hw0.out]
        refine (HA.out _).mono ?_
        rintro e wa ⟨rfl, hba⟩
        have q0 := keep1 hba KK.out.1
        have q1 := keep1 hba KK.out.2
        have HZ := Lib.hid (chain hb0.out hba)
        clear hba
        go_wp2_with fail
        refine (HT.out _).mono ?_
        rintro e w9 ⟨rfl, rfl⟩
        go_wp2
        go_ret2
        exact ⟨by rw [if_pos R.out, if_pos R.out, E.out]; rfl, HZ.out⟩
      · have R : Hid (¬ (-9223372036854775808 ≤ sg false (bv s) ∧ sg false (bv s) ≤ 9223372036854775807)) := by rw [E.out]; intro h; omega
        go_enter Try.func24, Try.ntmps24
        go_wp2_with fail
        rw [← Hw0.out]
        refine (HA.out _).mono ?_
        rintro e wa ⟨rfl, hba⟩
        have q0 := keep1 hba KK.out.1
        have q1 := keep1 hba KK.out.2
        have HZ := Lib.hid (chain hb0.out hba)
        clear hba
        go_wp2_with fail
        refine (HT.out _).mono ?_
        rintro e w9 ⟨rfl, rfl⟩
        go_wp2
        go_ret2
        exact ⟨by rw [if_neg R.out, if_neg R.out]; rfl, HZ.out⟩
    · have E : Hid (sg true (bv s) = -x) := by show _ = _; rw [sg, if_pos rfl, HX.out]
      by_cases c : x ≤ 9223372036854775808
      · have ew := int_neg x hx0.out c
        have R : Hid (-9223372036854775808 ≤ sg true (bv s) ∧ sg true (bv s) ≤ 9223372036854775807) := by rw [E.out]; have := hx0.out; exact ⟨by omega, by omega⟩
        go_enter Try.func24, Try.ntmps24
        go_wp2_with fail
        rw [← Hw0.out]
        refine (HA.out _).mono ?_
        rintro e wa ⟨rfl, hba⟩
        have q0 := keep1 hba KK.out.1
        have q1 := keep1 hba KK.out.2
        have HZ := Lib.hid (chain hb0.out hba)
        clear hba
        go_wp2_with fail
        refine (HT.out _).mono ?_
        rintro e w9 ⟨rfl, rfl⟩
        go_wp2
        go_ret2
        exact ⟨by rw [if_pos R.out, if_pos R.out, E.out]; rfl, HZ.out⟩
      · have R : Hid (¬ (-9223372036854775808 ≤ sg true (bv s) ∧ sg true (bv s) ≤ 9223372036854775807)) := by rw [E.out]; intro h; omega
        go_enter Try.func24, Try.ntmps24
        go_wp2_with fail
        rw [← Hw0.out]
        refine (HA.out _).mono ?_
        rintro e wa ⟨rfl, hba⟩
        have q0 := keep1 hba KK.out.1
        have q1 := keep1 hba KK.out.2
        have HZ := Lib.hid (chain hb0.out hba)
        clear hba
        go_wp2_with fail
        refine (HT.out _).mono ?_
        rintro e w9 ⟨rfl, rfl⟩
        go_wp2
        go_ret2
        exact ⟨by rw [if_neg R.out, if_neg R.out]; rfl, HZ.out⟩
  · have R : Hid (¬ (-9223372036854775808 ≤ sg a (bv s) ∧ sg a (bv s) ≤ 9223372036854775807)) := int_long hc (by omega)
    have h9 : (8 : Int) < (s.size : Int) := by omega
    clear hv hc
    go_enter Try.func24, Try.ntmps24
    go_wp2_with fail
    rw [← Hw0.out]
    refine (HA.out _).mono ?_
    rintro e wa ⟨rfl, hba⟩
    have q0 := keep1 hba KK.out.1
    have q1 := keep1 hba KK.out.2
    have HZ := Lib.hid (chain hb0.out hba)
    clear hba
    go_wp2
    go_ret2
    exact ⟨by rw [if_neg R.out, if_neg R.out]; rfl, HZ.out⟩

set_option maxRecDepth 100000 in
set_option maxHeartbeats 1000000 in
theorem Int_invalid (a : Bool) (s : ByteArray) (w : World) (z1 : s.size ≤ 140737488351232) (hv : vld a s = false) :
    Calls Try.prog 24 #[.agg #[.bool a, .string s]] w fun e w' => e = .returned (.tuple #[.int .i64 0, .int .i64 2]) ∧ Below w.heap.size w w' := by
  have HA := Valid_any a s
  rw [hv] at HA
  have HA := Lib.hid (fun w => HA w z1)
  clear hv
  go_enter Try.func24, Try.ntmps24
  go_wp2_with fail
  refine (HA.out _).mono ?_
  rintro e wa ⟨rfl, hba⟩
  have HZ := Lib.hid (chain ((Below.refl w.heap.size w).alloc (Nat.le_refl _) _) hba)
  clear hba
  go_wp2
  go_ret2
  exact ⟨rfl, HZ.out⟩
end Go.Proofs.Ytlmklhffafcmmaa

/- The functions wide.shiftDown and wide.Shift. -/
namespace Go.Proofs.Ytlmklhffafcmmaa
open Go.RowKit

/-- A magnitude with a sign divided by a power of 2, rounded down. -/
def shd (a : Bool) (m k : Nat) : Nat := if a = true then (m - 1) / 2 ^ k + 1 else m / 2 ^ k

theorem dg_W1 : Nm.dg W 1 = [1] := by
  have := Nm.eq_dg W2 (l := [1]) (Nm.dig_cons.2 ⟨by decide, Nm.dig_nil W⟩) (show (1 : Nat) ≠ 0 by decide)
  rw [show Nm.val W [1] = 1 by simp [Nm.val]] at this
  exact this.symm

theorem len_le_of_le {m n : Nat} (h : m ≤ n) : (Nm.dg W m).length ≤ (Nm.dg W n).length := by
  refine Nm.len_le_of_val W2 (Nm.nrm_dg W2 m) ?_
  have h1 := Nm.val_lt (Nm.dig_dg W2 n)
  rw [Nm.val_dg W2] at h1 ⊢
  omega

set_option maxRecDepth 100000 in
set_option maxHeartbeats 1000000 in
theorem shiftDown_any (a : Bool) (v : Value) (m k : Nat) (w : World) (h : Rd w v (Nm.dg W m)) (hl : (Nm.dg W m).length ≤ 1000000000) (hk : k ≤ 1000000) (ha : a = true → 0 < m) :
    Calls Try.prog 73 #[.agg #[.bool a, v], .int .i64 (k : Int)] w (NumPost a (shd a m k) w) := by
  cases a with
  | false =>
    have HC := Lib.hid (fun W' (hb : Below w.heap.size w W') => shiftRight_any v _ k W' (h.below hb (Nat.le_refl _)) hl hk (Nm.dig_dg W2 m))
    rw [Nm.val_dg W2] at HC
    have E : Hid (shd false m k = m / 2 ^ k) := by show _ = _; rw [shd, if_neg (by simp)]
    rw [E.out]
    generalize m / 2 ^ k = r at *
    obtain ⟨p, b, o, c, rfl, hr⟩ := h
    clear hr
    obtain ⟨len, hlen⟩ : ∃ len, (Nm.dg W m).length = len := ⟨_, rfl⟩
    rw [hlen] at HC hl ⊢
    clear hlen
    obtain ⟨w0, hw0⟩ : ∃ w0 : World, w0 = (w.alloc (.cells #[.bool false, .slice p len c] 86)).alloc (.cells #[.bool false, .slice none 0 0] 86) := ⟨_, rfl⟩
    have hb0 : Hid (Below w.heap.size w w0) := by rw [hw0]; exact ((Below.refl _ _).alloc (Nat.le_refl _) _).alloc (by simp) _
    have k4 : w0.cell? ⟨w.heap.size + 1, 0, none⟩ = some (.bool false) := by rw [hw0]; simp [go_sem]
    have k5 : w0.cell? ⟨w.heap.size + 1, 1, none⟩ = some (.slice none 0 0) := by rw [hw0]; simp [go_sem]
    have k6 : w0.frozen? ⟨w.heap.size + 1, 0, none⟩ = false := by rw [hw0]; simp [go_sem]
    have k7 : w0.frozen? ⟨w.heap.size + 1, 1, none⟩ = false := by rw [hw0]; simp [go_sem]
    have KK := Lib.hid (And.intro k4 (And.intro k5 (And.intro k6 k7)))
    have Hw0 := Lib.hid hw0
    clear k4 k5 k6 k7 hw0
    go_enter Try.func73, Try.ntmps73
    go_wp2_with fail
    rw [← Hw0.out]
    refine (HC.out _ hb0.out).mono ?_
    rintro e w' ⟨v3, rfl, r3, b3⟩
    have q4 := keep1 b3 KK.out.1
    have q5 := keep1 b3 KK.out.2.1
    have q6 := keepf b3 KK.out.1 KK.out.2.2.1
    have q7 := keepf b3 KK.out.2.1 KK.out.2.2.2
    have HR := Lib.hid r3
    obtain ⟨p3, b9, o3, c3, rfl, hr3⟩ := r3
    have HZ := Lib.hid (((chain hb0.out b3).setCell (p := ⟨w.heap.size + 1, 0, none⟩) (by simp) (.bool false)).setCell (p := ⟨w.heap.size + 1, 1, none⟩) (by simp) (.slice p3 (Nm.dg W r).length c3))
    have HR2 := Lib.hid ((HR.out.setCell q4 (fun n => by simp) (.bool false)).setCell (a := ⟨w.heap.size + 1, 1, none⟩) (u0 := .slice none 0 0) (by simp [go_sem, q5]) (fun n => by simp) (.slice p3 (Nm.dg W r).length c3))
    clear b3 hr3
    go_wp2
    exact bodyPost_ret (v := .agg #[.bool false, .slice p3 (Nm.dg W r).length c3]) (by simp [results, Try.results73, go_sem, q4, q5]) rfl ⟨_, rfl, HR2.out, HZ.out⟩
  | true =>
    have hm := ha rfl
    have d1 : Nm.Dig W [1] := by rw [← dg_W1]; exact Nm.dig_dg W2 1
    have n1 : Nm.Nrm [1] := by rw [← dg_W1]; exact Nm.nrm_dg W2 1
    have v1 : Nm.val W [1] = 1 := by simp [Nm.val]
    have HS := Lib.hid (fun W' u (hb : Below w.heap.size w W') (hu : Rd W' u [1]) => subLimbs_any v u _ [1] W' (h.below hb (Nat.le_refl _)) hu hl (Nm.dig_dg W2 m) d1 n1 (by rw [Nm.val_dg W2, v1]; exact hm))
    rw [Nm.val_dg W2, v1] at HS
    have hl1 : (Nm.dg W (m - 1)).length ≤ 1000000000 := Nat.le_trans (len_le_of_le (Nat.sub_le _ _)) hl
    have HC := Lib.hid (fun W' u (hu : Rd W' u (Nm.dg W (m - 1))) => shiftRight_any u _ k W' hu hl1 hk (Nm.dig_dg W2 (m - 1)))
    rw [Nm.val_dg W2] at HC
    have hl2 : (Nm.dg W ((m - 1) / 2 ^ k)).length ≤ 1000000000 := Nat.le_trans (len_le_of_le (Nat.div_le_self _ _)) hl1
    have HA := Lib.hid (fun W' u1 u2 (h1 : Rd W' u1 (Nm.dg W ((m - 1) / 2 ^ k))) (h2 : Rd W' u2 [1]) => addLimbs_any u1 u2 _ [1] W' h1 h2 hl2 (by simp) (Nm.dig_dg W2 _) d1)
    rw [Nm.val_dg W2, v1] at HA
    have E : Hid (shd true m k = (m - 1) / 2 ^ k + 1) := by show _ = _; rw [shd, if_pos rfl]
    rw [E.out]
    generalize (m - 1) / 2 ^ k = q at *
    generalize m - 1 = m1 at *
    generalize q + 1 = r at *
    clear hl1 hl2 d1 n1 v1 ha
    obtain ⟨p, b, o, c, rfl, hr⟩ := h
    clear hr
    obtain ⟨len, hlen⟩ : ∃ len, (Nm.dg W m).length = len := ⟨_, rfl⟩
    rw [hlen] at HS hl ⊢
    clear hlen
    obtain ⟨w1, hw1⟩ : ∃ w1 : World, w1 = (w.alloc (.cells #[.bool true, .slice p len c] 86)).alloc (.cells #[.bool false, .slice none 0 0] 86) := ⟨_, rfl⟩
    obtain ⟨w0, hw0⟩ : ∃ w0 : World, w0 = w1.alloc (.cells #[.int .u64 1] 81) := ⟨_, rfl⟩
    have hs1 : w1.heap.size = w.heap.size + 1 + 1 := by rw [hw1]; simp
    have hb0 : Hid (Below w.heap.size w w0) := by rw [hw0, hw1]; exact (((Below.refl _ _).alloc (Nat.le_refl _) _).alloc (by simp) _).alloc (by simp; omega) _
    have k4 : w0.cell? ⟨w.heap.size + 1, 0, none⟩ = some (.bool false) := by rw [hw0, hw1]; simp [go_sem]
    have k5 : w0.cell? ⟨w.heap.size + 1, 1, none⟩ = some (.slice none 0 0) := by rw [hw0, hw1]; simp [go_sem]
    have k6 : w0.frozen? ⟨w.heap.size + 1, 0, none⟩ = false := by rw [hw0, hw1]; simp [go_sem]
    have k7 : w0.frozen? ⟨w.heap.size + 1, 1, none⟩ = false := by rw [hw0, hw1]; simp [go_sem]
    have ho : Rd w0 (.slice (some ⟨w.heap.size + 1 + 1, 0, none⟩) 1 1) [1] := by rw [hw0, ← hs1]; exact Rd.one w1 1
    have KK := Lib.hid (And.intro k4 (And.intro k5 (And.intro k6 (And.intro k7 ho))))
    have Hw0 : Hid (w0 = ((w.alloc (.cells #[.bool true, .slice p len c] 86)).alloc (.cells #[.bool false, .slice none 0 0] 86)).alloc (.cells #[.int .u64 1] 81)) := by show _ = _; rw [hw0, hw1]
    clear k4 k5 k6 k7 hw0 hw1 hs1 ho
    go_enter Try.func73, Try.ntmps73
    go_wp2_with fail
    rw [← Hw0.out]
    refine (HS.out _ _ hb0.out KK.out.2.2.2.2).mono ?_
    rintro e w2 ⟨v2, rfl, r2, b2⟩
    have G2 := Lib.hid (And.intro r2 b2)
    clear r2 b2
    go_wp2_with fail
    refine (HC.out _ _ G2.out.1).mono ?_
    rintro e w3 ⟨v3, rfl, r3, b3⟩
    have G3 := Lib.hid (And.intro r3 (chain G2.out.2 b3))
    clear r3 b3
    go_wp2_with fail
    refine (HA.out _ _ _ G3.out.1 (KK.out.2.2.2.2.below G3.out.2 (Nat.le_refl _))).mono ?_
    rintro e w4 ⟨v4, rfl, r4, b4⟩
    have b5 := chain G3.out.2 b4
    have q4 := keep1 b5 KK.out.1
    have q5 := keep1 b5 KK.out.2.1
    have q6 := keepf b5 KK.out.1 KK.out.2.2.1
    have q7 := keepf b5 KK.out.2.1 KK.out.2.2.2.1
    have HR := Lib.hid r4
    obtain ⟨p3, b9, o3, c3, rfl, hr3⟩ := r4
    have HZ := Lib.hid (((chain hb0.out b5).setCell (p := ⟨w.heap.size + 1, 0, none⟩) (by simp) (.bool true)).setCell (p := ⟨w.heap.size + 1, 1, none⟩) (by simp) (.slice p3 (Nm.dg W r).length c3))
    have HR2 := Lib.hid ((HR.out.setCell q4 (fun n => by simp) (.bool true)).setCell (a := ⟨w.heap.size + 1, 1, none⟩) (u0 := .slice none 0 0) (by simp [go_sem, q5]) (fun n => by simp) (.slice p3 (Nm.dg W r).length c3))
    clear b4 b5 hr3
    go_wp2
    exact bodyPost_ret (v := .agg #[.bool true, .slice p3 (Nm.dg W r).length c3]) (by simp [results, Try.results73, go_sem, q4, q5]) rfl ⟨_, rfl, HR2.out, HZ.out⟩

set_option maxRecDepth 100000 in
set_option maxHeartbeats 1000000 in
theorem Shift_down (a : Bool) (s : ByteArray) (k : Nat) (y : Int) (hy : -y = (k : Int)) (hk : 1 ≤ k) (hk2 : k ≤ 65536) (w : World) (hv : vld a s = true) :
    Calls Try.prog 40 #[.agg #[.bool a, .string s], .int .i64 y] w (WPost (wres a (shd a (bv s) k)) (werr (shd a (bv s) k)) w) := by
  have z1 := vld_size hv
  have HV1 := Valid_any a s
  rw [hv] at HV1
  have HA := Lib.hid (fun w => HV1 w (by omega))
  have HR1 := Lib.hid (fun w => read_any a s w (by omega) (vld_can hv))
  have t1 := bv_lt hv
  have hpos : a = true → 0 < bv s := by
    intro ha
    subst ha
    have h0 : s.size ≠ 0 := fun h0 => by unfold vld at hv; rw [dif_neg (by omega)] at hv; simp at hv
    have := bv_zero_iff (vld_can hv)
    omega
  have HS := Lib.hid (fun v w h => shiftDown_any a v (bv s) k w h (Nat.le_trans (len_top t1) (by decide)) (by omega) hpos)
  have hle : shd a (bv s) k ≤ bv s := by
    unfold shd
    split
    · next h => have h1 := hpos h; have h2 := Nat.div_le_self (bv s - 1) (2 ^ k); omega
    · exact Nat.div_le_self _ _
  have HW := Lib.hid (fun v w h => write_any a v (shd a (bv s) k) w h (Nat.le_trans (len_top (Nat.lt_of_le_of_lt hle t1)) (by decide)))
  obtain ⟨rb, rs, hr⟩ := wres_form a (shd a (bv s) k)
  rw [hr] at HW ⊢
  clear hr HV1 hv t1 hpos hle
  generalize shd a (bv s) k = rm at *
  generalize bv s = m at *
  generalize werr rm = rc at *
  have y1 : y < 0 := by omega
  have y2 : -65536 ≤ y := by omega
  obtain ⟨w0, hw0⟩ : ∃ w0 : World, w0 = (w.alloc (.cells #[.bool a, .string s] 23)).alloc (.cells #[.bool false, .string ⟨#[]⟩] 23) := ⟨_, rfl⟩
  have hb0 : Hid (Below w.heap.size w w0) := by rw [hw0]; exact ((Below.refl _ _).alloc (Nat.le_refl _) _).alloc (by simp) _
  have k0 : w0.cell? ⟨w.heap.size, 0, none⟩ = some (.bool a) := by rw [hw0]; simp [go_sem]
  have k1 : w0.cell? ⟨w.heap.size, 1, none⟩ = some (.string s) := by rw [hw0]; simp [go_sem]
  have k4 : w0.cell? ⟨w.heap.size + 1, 0, none⟩ = some (.bool false) := by rw [hw0]; simp [go_sem]
  have k5 : w0.cell? ⟨w.heap.size + 1, 1, none⟩ = some (.string ⟨#[]⟩) := by rw [hw0]; simp [go_sem]
  have k6 : w0.frozen? ⟨w.heap.size + 1, 0, none⟩ = false := by rw [hw0]; simp [go_sem]
  have k7 : w0.frozen? ⟨w.heap.size + 1, 1, none⟩ = false := by rw [hw0]; simp [go_sem]
  have KK := Lib.hid (And.intro k0 (And.intro k1 (And.intro k4 (And.intro k5 (And.intro k6 k7)))))
  have Hw0 := Lib.hid hw0
  clear k0 k1 k4 k5 k6 k7 hw0
  go_enter Try.func40, Try.ntmps40
  go_wp2_with fail
  rw [← Hw0.out]
  refine (HA.out _).mono ?_
  rintro e wa ⟨rfl, hba⟩
  have q0 := keep1 hba KK.out.1
  have q1 := keep1 hba KK.out.2.1
  have G0 := Lib.hid hba
  clear hba
  go_wp2_with fail
  refine (HR1.out _).mono ?_
  rintro e w1 ⟨v1, rfl, r1, b1⟩
  have G1 := Lib.hid (And.intro r1 (chain G0.out b1))
  clear r1 b1 q0 q1
  go_wp2_with fail
  refine (HS.out _ _ G1.out.1).mono ?_
  rintro e w2 ⟨v2, rfl, r2, b2⟩
  have G2 := Lib.hid (And.intro r2 (chain G1.out.2 b2))
  clear r2 b2
  go_wp2_with fail
  refine (HW.out _ _ G2.out.1).mono ?_
  rintro e w3 ⟨rfl, b3⟩
  have b4 := chain G2.out.2 b3
  have q4 := keep1 b4 KK.out.2.2.1
  have q5 := keep1 b4 KK.out.2.2.2.1
  have q6 := keepf b4 KK.out.2.2.1 KK.out.2.2.2.2.1
  have q7 := keepf b4 KK.out.2.2.2.1 KK.out.2.2.2.2.2
  have HZ := Lib.hid (((chain hb0.out b4).setCell (p := ⟨w.heap.size + 1, 0, none⟩) (by simp) (.bool rb)).setCell (p := ⟨w.heap.size + 1, 1, none⟩) (by simp) (.string rs))
  clear b3 b4
  go_wp2
  exact bodyPost_ret (v := .tuple #[.agg #[.bool rb, .string rs], .int .i64 rc]) (by simp [results, Try.results40, go_sem, q4, q5]) rfl ⟨rfl, HZ.out⟩

set_option maxRecDepth 100000 in
set_option maxHeartbeats 1000000 in
theorem Shift_up (a : Bool) (s : ByteArray) (k : Nat) (hk2 : k ≤ 65536) (w : World) (hv : vld a s = true) :
    Calls Try.prog 40 #[.agg #[.bool a, .string s], .int .i64 (k : Int)] w (WPost (wres a (bv s * 2 ^ k)) (werr (bv s * 2 ^ k)) w) := by
  have z1 := vld_size hv
  have HV1 := Valid_any a s
  rw [hv] at HV1
  have HA := Lib.hid (fun w => HV1 w (by omega))
  have HR1 := Lib.hid (fun w => read_any a s w (by omega) (vld_can hv))
  have t1 := bv_lt hv
  have HS := Lib.hid (fun v w h => shiftLeft_any v (Nm.dg W (bv s)) k w h (Nat.le_trans (len_top t1) (by decide)) (by omega) (Nm.dig_dg W2 _))
  rw [Nm.val_dg W2] at HS
  have hlen : (Nm.dg W (bv s * 2 ^ k)).length ≤ 2048 := by
    refine len_of_top 2048 k _ ?_ (by rw [TopBits_eq]; omega)
    rw [Nat.mul_comm (2 ^ k)]
    exact Nat.mul_lt_mul_of_pos_right t1 (Nat.pow_pos (by decide))
  have HW := Lib.hid (fun v w h => write_any a v (bv s * 2 ^ k) w h (Nat.le_trans hlen (by decide)))
  obtain ⟨rb, rs, hr⟩ := wres_form a (bv s * 2 ^ k)
  rw [hr] at HW ⊢
  clear hr HV1 hv t1 hlen
  generalize bv s * 2 ^ k = rm at *
  generalize bv s = m at *
  generalize werr rm = rc at *
  obtain ⟨w0, hw0⟩ : ∃ w0 : World, w0 = (w.alloc (.cells #[.bool a, .string s] 23)).alloc (.cells #[.bool false, .string ⟨#[]⟩] 23) := ⟨_, rfl⟩
  have hb0 : Hid (Below w.heap.size w w0) := by rw [hw0]; exact ((Below.refl _ _).alloc (Nat.le_refl _) _).alloc (by simp) _
  have k0 : w0.cell? ⟨w.heap.size, 0, none⟩ = some (.bool a) := by rw [hw0]; simp [go_sem]
  have k1 : w0.cell? ⟨w.heap.size, 1, none⟩ = some (.string s) := by rw [hw0]; simp [go_sem]
  have k4 : w0.cell? ⟨w.heap.size + 1, 0, none⟩ = some (.bool false) := by rw [hw0]; simp [go_sem]
  have k5 : w0.cell? ⟨w.heap.size + 1, 1, none⟩ = some (.string ⟨#[]⟩) := by rw [hw0]; simp [go_sem]
  have k6 : w0.frozen? ⟨w.heap.size + 1, 0, none⟩ = false := by rw [hw0]; simp [go_sem]
  have k7 : w0.frozen? ⟨w.heap.size + 1, 1, none⟩ = false := by rw [hw0]; simp [go_sem]
  have hsz : w0.heap.size = w.heap.size + 2 := by rw [hw0]; simp
  have KK := Lib.hid (And.intro k0 (And.intro k1 (And.intro k4 (And.intro k5 (And.intro k6 (And.intro k7 hsz))))))
  have Hw0 := Lib.hid hw0
  clear k0 k1 k4 k5 k6 k7 hw0 hsz
  go_enter Try.func40, Try.ntmps40
  go_wp2_with fail
  rw [← Hw0.out]
  refine (HA.out _).mono ?_
  rintro e wa ⟨rfl, hba⟩
  have q0 := keep1 hba KK.out.1
  have q1 := keep1 hba KK.out.2.1
  have G0 := Lib.hid hba
  clear hba
  go_wp2_with fail
  refine (HR1.out _).mono ?_
  rintro e w1 ⟨v1, rfl, r1, b1⟩
  have G1 := Lib.hid (And.intro r1 (chain G0.out b1))
  obtain ⟨p1, x1, x2, c1, rfl, x3⟩ := r1
  clear x3 b1 q0 q1
  go_wp2_with fail
  have hs1 : w.heap.size + 2 ≤ w1.heap.size := by have h5 := G1.out.2.size; have h6 := KK.out.2.2.2.2.2.2; omega
  have ba : Below w1.heap.size w1 (w1.alloc (.cells #[.bool a, .slice p1 (Nm.dg W m).length c1] 86)) := (Below.refl _ _).alloc (Nat.le_refl _) _
  have G2 := Lib.hid (And.intro (G1.out.1.below ba (Nat.le_refl _)) (chain G1.out.2 ba))
  clear ba
  refine (HS.out _ _ G2.out.1).mono ?_
  rintro e w2 ⟨v2, rfl, r2, b2⟩
  have m0 := keep1 b2 (p := ⟨w1.heap.size, 0, none⟩) (v := .bool a) (by simp [go_sem])
  have m1 := keep1 b2 (p := ⟨w1.heap.size, 1, none⟩) (v := .slice p1 (Nm.dg W m).length c1) (by simp [go_sem])
  have m2 := keepf b2 (p := ⟨w1.heap.size, 1, none⟩) (v := .slice p1 (Nm.dg W m).length c1) (by simp [go_sem]) (by simp [go_sem])
  have r3 := r2
  obtain ⟨p2, x4, x5, c2, rfl, x6⟩ := r3
  have hset : Below w0.heap.size w0 (w2.setCell ⟨w1.heap.size, 1, none⟩ (.slice p2 (Nm.dg W rm).length c2)) := (chain G2.out.2 b2).setCell (p := ⟨w1.heap.size, 1, none⟩) (by have h6 := KK.out.2.2.2.2.2.2; show w0.heap.size ≤ w1.heap.size; omega) _
  have G3 := Lib.hid (And.intro (r2.setCell m1 (fun n => by simp) (.slice p2 (Nm.dg W rm).length c2)) hset)
  clear b2 x6 hset r2
  go_wp2_with fail
  refine (HW.out _ _ G3.out.1).mono ?_
  rintro e w3 ⟨rfl, b3⟩
  have b4 := chain G3.out.2 b3
  have q4 := keep1 b4 KK.out.2.2.1
  have q5 := keep1 b4 KK.out.2.2.2.1
  have q6 := keepf b4 KK.out.2.2.1 KK.out.2.2.2.2.1
  have q7 := keepf b4 KK.out.2.2.2.1 KK.out.2.2.2.2.2.1
  have HZ := Lib.hid (((chain hb0.out b4).setCell (p := ⟨w.heap.size + 1, 0, none⟩) (by simp) (.bool rb)).setCell (p := ⟨w.heap.size + 1, 1, none⟩) (by simp) (.string rs))
  clear b3 b4 m0 m1 m2
  go_wp2
  exact bodyPost_ret (v := .tuple #[.agg #[.bool rb, .string rs], .int .i64 rc]) (by simp [results, Try.results40, go_sem, q4, q5]) rfl ⟨rfl, HZ.out⟩

set_option maxRecDepth 100000 in
set_option maxHeartbeats 1000000 in
theorem Shift_wrong (a : Bool) (s : ByteArray) (y : Int) (w : World) (z1 : s.size ≤ 140737488351232) (h : vld a s = false ∨ (vld a s = true ∧ (y < -65536 ∨ 65536 < y))) :
    Calls Try.prog 40 #[.agg #[.bool a, .string s], .int .i64 y] w (WPost (wd false 0) (if vld a s = true then 3 else 2) w) := by
  have HA := Lib.hid (fun w => Valid_any a s w z1)
  obtain ⟨w0, hw0⟩ : ∃ w0 : World, w0 = (w.alloc (.cells #[.bool a, .string s] 23)).alloc (.cells #[.bool false, .string ⟨#[]⟩] 23) := ⟨_, rfl⟩
  have hb0 : Hid (Below w.heap.size w w0) := by rw [hw0]; exact ((Below.refl _ _).alloc (Nat.le_refl _) _).alloc (by simp) _
  have k4 : w0.cell? ⟨w.heap.size + 1, 0, none⟩ = some (.bool false) := by rw [hw0]; simp [go_sem]
  have k5 : w0.cell? ⟨w.heap.size + 1, 1, none⟩ = some (.string ⟨#[]⟩) := by rw [hw0]; simp [go_sem]
  have k6 : w0.frozen? ⟨w.heap.size + 1, 0, none⟩ = false := by rw [hw0]; simp [go_sem]
  have k7 : w0.frozen? ⟨w.heap.size + 1, 1, none⟩ = false := by rw [hw0]; simp [go_sem]
  have KK := Lib.hid (And.intro k4 (And.intro k5 (And.intro k6 k7)))
  have Hw0 := Lib.hid hw0
  clear k4 k5 k6 k7 hw0
  rcases h with h | ⟨h, hy⟩
  · rw [h] at HA
    rw [h, if_neg (by simp)]
    clear h
    go_enter Try.func40, Try.ntmps40
    go_wp2_with fail
    rw [← Hw0.out]
    refine (HA.out _).mono ?_
    rintro e wa ⟨rfl, hba⟩
    have q4 := keep1 hba KK.out.1
    have q5 := keep1 hba KK.out.2.1
    have q6 := keepf hba KK.out.1 KK.out.2.2.1
    have q7 := keepf hba KK.out.2.1 KK.out.2.2.2
    have HZ := Lib.hid (((chain hb0.out hba).setCell (p := ⟨w.heap.size + 1, 0, none⟩) (by simp) (.bool false)).setCell (p := ⟨w.heap.size + 1, 1, none⟩) (by simp) (.string ⟨#[]⟩))
    clear hba
    go_wp2
    exact bodyPost_ret (v := .tuple #[.agg #[.bool false, .string ⟨#[]⟩], .int .i64 2]) (by simp [results, Try.results40, go_sem, q4, q5]) rfl ⟨by rw [wd, bs_zero]; simp, HZ.out⟩
  · rw [h] at HA
    rw [h, if_pos rfl]
    clear h
    rcases hy with hy | hy
    · go_enter Try.func40, Try.ntmps40
      go_wp2_with fail
      rw [← Hw0.out]
      refine (HA.out _).mono ?_
      rintro e wa ⟨rfl, hba⟩
      have q4 := keep1 hba KK.out.1
      have q5 := keep1 hba KK.out.2.1
      have q6 := keepf hba KK.out.1 KK.out.2.2.1
      have q7 := keepf hba KK.out.2.1 KK.out.2.2.2
      have HZ := Lib.hid (((chain hb0.out hba).setCell (p := ⟨w.heap.size + 1, 0, none⟩) (by simp) (.bool false)).setCell (p := ⟨w.heap.size + 1, 1, none⟩) (by simp) (.string ⟨#[]⟩))
      clear hba
      go_wp2
      exact bodyPost_ret (v := .tuple #[.agg #[.bool false, .string ⟨#[]⟩], .int .i64 3]) (by simp [results, Try.results40, go_sem, q4, q5]) rfl ⟨by rw [wd, bs_zero]; simp, HZ.out⟩
    · have hy2 : ¬ y < -65536 := by omega
      go_enter Try.func40, Try.ntmps40
      go_wp2_with fail
      rw [← Hw0.out]
      refine (HA.out _).mono ?_
      rintro e wa ⟨rfl, hba⟩
      have q4 := keep1 hba KK.out.1
      have q5 := keep1 hba KK.out.2.1
      have q6 := keepf hba KK.out.1 KK.out.2.2.1
      have q7 := keepf hba KK.out.2.1 KK.out.2.2.2
      have HZ := Lib.hid (((chain hb0.out hba).setCell (p := ⟨w.heap.size + 1, 0, none⟩) (by simp) (.bool false)).setCell (p := ⟨w.heap.size + 1, 1, none⟩) (by simp) (.string ⟨#[]⟩))
      clear hba
      go_wp2
      exact bodyPost_ret (v := .tuple #[.agg #[.bool false, .string ⟨#[]⟩], .int .i64 3]) (by simp [results, Try.results40, go_sem, q4, q5]) rfl ⟨by rw [wd, bs_zero]; simp, HZ.out⟩
end Go.Proofs.Ytlmklhffafcmmaa

/- The function wide.GCD, out of the common divisor of magnitudes. -/
namespace Go.Proofs.Ytlmklhffafcmmaa
open Go.RowKit

/-- The greatest common divisor of two magnitudes comes back. -/
def GcdOK (m n : Nat) : Prop := ∀ v1 v2 w, Rd w v1 (Nm.dg W m) → Rd w v2 (Nm.dg W n) → Calls Try.prog 70 #[v1, v2] w (Gives (Nat.gcd m n) w)
theorem field_limbs (x : Bool) (p : Option Addr) (n c : Nat) (w : World) : (Instr.field 86 (.agg #[.bool x, .slice p n c]) 1).run Try.prog w = .ok (.slice p n c) w := by kernel_rfl
theorem gcd_top {m n : Nat} (h1 : m < Top) (h2 : n < Top) : Nat.gcd m n < Top := by
  rcases Nat.eq_zero_or_pos m with h | h
  · subst h; rwa [Nat.gcd_zero_left]
  · exact Nat.lt_of_le_of_lt (Nat.gcd_le_left n h) h1

set_option maxRecDepth 100000 in
set_option maxHeartbeats 1000000 in
theorem GCD_valid (a b : Bool) (s t : ByteArray) (w : World) (hg : GcdOK (bv s) (bv t)) (hv1 : vld a s = true) (hv2 : vld b t = true) :
    Calls Try.prog 36 #[.agg #[.bool a, .string s], .agg #[.bool b, .string t]] w (WPost (wres false (Nat.gcd (bv s) (bv t))) (werr (Nat.gcd (bv s) (bv t))) w) := by
  have z1 := vld_size hv1
  have z2 := vld_size hv2
  have HV1 := Valid_any a s
  have HV2 := Valid_any b t
  rw [hv1] at HV1
  rw [hv2] at HV2
  have HA := Lib.hid (fun w => HV1 w (by omega))
  have HB := Lib.hid (fun w => HV2 w (by omega))
  have HR1 := Lib.hid (fun w => read_any a s w (by omega) (vld_can hv1))
  have HR2 := Lib.hid (fun w => read_any b t w (by omega) (vld_can hv2))
  have t1 := bv_lt hv1
  have t2 := bv_lt hv2
  have HP := Lib.hid hg
  have HW := Lib.hid (fun v w h => write_any false v (Nat.gcd (bv s) (bv t)) w h (Nat.le_trans (len_top (gcd_top t1 t2)) (by decide)))
  obtain ⟨rb, rs, hr⟩ := wres_form false (Nat.gcd (bv s) (bv t))
  rw [hr] at HW ⊢
  clear hr HV1 HV2 hv1 hv2 t1 t2 hg
  generalize hrm : Nat.gcd (bv s) (bv t) = rm at *
  have HP2 : Hid (∀ v1 v2 w, Rd w v1 (Nm.dg W (bv s)) → Rd w v2 (Nm.dg W (bv t)) → Calls Try.prog 70 #[v1, v2] w (Gives rm w)) := by rw [← hrm]; exact HP.out
  clear hrm HP
  generalize bv s = m at *
  generalize bv t = n at *
  generalize werr rm = rc at *
  go_enter Try.func36, Try.ntmps36
  go_wp2_with fail
  obtain ⟨w0, hw0⟩ : ∃ w0 : World, w0 = ((w.alloc (.cells #[.bool a, .string s] 23)).alloc (.cells #[.bool b, .string t] 23)).alloc (.cells #[.bool false, .string ⟨#[]⟩] 23) := ⟨_, rfl⟩
  have hb0 : Hid (Below w.heap.size w w0) := by rw [hw0]; exact (((Below.refl _ _).alloc (Nat.le_refl _) _).alloc (by simp) _).alloc (by simp; omega) _
  have k0 : w0.cell? ⟨w.heap.size, 0, none⟩ = some (.bool a) := by rw [hw0]; simp [go_sem]
  have k1 : w0.cell? ⟨w.heap.size, 1, none⟩ = some (.string s) := by rw [hw0]; simp [go_sem]
  have k2 : w0.cell? ⟨w.heap.size + 1, 0, none⟩ = some (.bool b) := by rw [hw0]; simp [go_sem]
  have k3 : w0.cell? ⟨w.heap.size + 1, 1, none⟩ = some (.string t) := by rw [hw0]; simp [go_sem]
  have k4 : w0.cell? ⟨w.heap.size + 1 + 1, 0, none⟩ = some (.bool false) := by rw [hw0]; simp [go_sem]
  have k5 : w0.cell? ⟨w.heap.size + 1 + 1, 1, none⟩ = some (.string ⟨#[]⟩) := by rw [hw0]; simp [go_sem]
  have k6 : w0.frozen? ⟨w.heap.size + 1 + 1, 0, none⟩ = false := by rw [hw0]; simp [go_sem]
  have k7 : w0.frozen? ⟨w.heap.size + 1 + 1, 1, none⟩ = false := by rw [hw0]; simp [go_sem]
  have hsz : w0.heap.size = w.heap.size + 3 := by rw [hw0]; simp
  rw [← hw0]
  have KK := Lib.hid (And.intro k0 (And.intro k1 (And.intro k2 (And.intro k3 (And.intro k4 (And.intro k5 (And.intro k6 k7)))))))
  have Hsz := Lib.hid hsz
  clear k0 k1 k2 k3 k4 k5 k6 k7 hw0 hsz
  refine (HA.out _).mono ?_
  rintro e wa ⟨rfl, hba⟩
  have q2 := keep1 hba KK.out.2.2.1
  have q3 := keep1 hba KK.out.2.2.2.1
  have HBa := Lib.hid hba
  clear hba
  go_wp2_with fail
  refine (HB.out _).mono ?_
  rintro e wb ⟨rfl, hbb⟩
  have hbc := chain HBa.out hbb
  have k0 := keep1 hbc KK.out.1
  have k1 := keep1 hbc KK.out.2.1
  have k2 := keep1 hbc KK.out.2.2.1
  have k3 := keep1 hbc KK.out.2.2.2.1
  have k4 := keep1 hbc KK.out.2.2.2.2.1
  have k5 := keep1 hbc KK.out.2.2.2.2.2.1
  have k6 := keepf hbc KK.out.2.2.2.2.1 KK.out.2.2.2.2.2.2.1
  have k7 := keepf hbc KK.out.2.2.2.2.2.1 KK.out.2.2.2.2.2.2.2
  have HBc := Lib.hid hbc
  have n1 : ¬ (w.heap.size = w.heap.size + 1 + 1) := by omega
  have n2 : ¬ (w.heap.size + 1 + 1 = w.heap.size) := by omega
  clear q2 q3 hbb hbc
  go_wp2_with fail
  have hfl := field_limbs
  go_region_held3 (fun W' => W'.cell? ⟨w.heap.size, 0, none⟩ = some (.bool a) ∧ W'.cell? ⟨w.heap.size, 1, none⟩ = some (.string s) ∧ W'.cell? ⟨w.heap.size + 1, 0, none⟩ = some (.bool b) ∧ W'.cell? ⟨w.heap.size + 1, 1, none⟩ = some (.string t)) (go_keep)
    (first
      | (go_at_call 63; (with_reducible refine (HR1.out _).mono ?_); rintro e w1 ⟨v1, rfl, r1, b1⟩; have c1 := chain ((Below.refl _ _).drew) b1; have p0 := keep1 c1 k0; have p1 := keep1 c1 k1; have p2 := keep1 c1 k2; have p3 := keep1 c1 k3; have G1 := Lib.hid (And.intro r1 c1); obtain ⟨x1, x2, x3, x4, rfl, x5⟩ := r1; clear x5 b1 c1)
      | (go_at_call 63; (with_reducible refine (HR2.out _).mono ?_); rintro e w2 ⟨v2, rfl, r2, b2⟩; have c2 := chain G1.out.2 b2; have p0 := keep1 c2 k0; have p1 := keep1 c2 k1; have p2 := keep1 c2 k2; have p3 := keep1 c2 k3; have G2 := Lib.hid (And.intro (G1.out.1.below b2 (Nat.le_refl _)) (And.intro r2 c2)); obtain ⟨x6, x7, x8, x9, rfl, x10⟩ := r2; clear x10 b2 c2)
      | (go_at_call 70; (with_reducible refine (HP2.out _ _ _ G2.out.1 G2.out.2.1).mono ?_); rintro e w3 ⟨v3, rfl, r3, b3⟩; have c3 := chain G2.out.2.2 b3; have p0 := keep1 c3 k0; have p1 := keep1 c3 k1; have p2 := keep1 c3 k2; have p3 := keep1 c3 k3; have G3 := Lib.hid (And.intro r3 c3); obtain ⟨p9, b9, o9, c9, rfl, hr9⟩ := r3; clear hr9 b3 c3)
      | (go_at_call 61; (with_reducible refine (HW.out _ _ G3.out.1).mono ?_); rintro e w4 ⟨rfl, b4⟩; have c4 := chain G3.out.2 b4; have p0 := keep1 c4 k0; have p1 := keep1 c4 k1; have p2 := keep1 c4 k2; have p3 := keep1 c4 k3; have p4 := keep1 c4 k4; have p5 := keep1 c4 k5; have p6 := keepf c4 k4 k6; have p7 := keepf c4 k5 k7; have G4 := Lib.hid c4; clear b4 c4))
  have HZ := Lib.hid (((chain (chain hb0.out HBc.out) G4.out).setCell (p := ⟨w.heap.size + 1 + 1, 0, none⟩) (by simp; omega) (.bool rb)).setCell (p := ⟨w.heap.size + 1 + 1, 1, none⟩) (by simp; omega) (.string rs))
  go_wp2
  exact bodyPost_ret (v := .tuple #[.agg #[.bool rb, .string rs], .int .i64 rc]) (by simp [results, Try.results36, go_sem, p4, p5]) rfl ⟨rfl, HZ.out⟩

set_option maxRecDepth 100000 in
set_option maxHeartbeats 1000000 in
theorem GCD_invalid (a b : Bool) (s t : ByteArray) (w : World) (z1 : s.size ≤ 140737488351232) (z2 : t.size ≤ 140737488351232) (hv : (vld a s && vld b t) = false) :
    Calls Try.prog 36 #[.agg #[.bool a, .string s], .agg #[.bool b, .string t]] w (WPost (wd false 0) 2 w) := by
  have HA := Lib.hid (fun w => Valid_any a s w z1)
  have HB := Lib.hid (fun w => Valid_any b t w z2)
  cases h1 : vld a s with
  | false =>
    rw [h1] at HA
    clear h1 hv
    go_enter Try.func36, Try.ntmps36
    go_wp2_with fail
    refine (HA.out _).mono ?_
    rintro e wa ⟨rfl, hba⟩
    have k4 := keep1 hba (p := ⟨w.heap.size + 1 + 1, 0, none⟩) (v := .bool false) (by simp [go_sem])
    have k5 := keep1 hba (p := ⟨w.heap.size + 1 + 1, 1, none⟩) (v := .string ⟨#[]⟩) (by simp [go_sem])
    have k6 := keepf hba (p := ⟨w.heap.size + 1 + 1, 0, none⟩) (v := .bool false) (by simp [go_sem]) (by simp [go_sem])
    have k7 := keepf hba (p := ⟨w.heap.size + 1 + 1, 1, none⟩) (v := .string ⟨#[]⟩) (by simp [go_sem]) (by simp [go_sem])
    have HZ := Lib.hid (((chain ((((Below.refl w.heap.size w).alloc (Nat.le_refl _) _).alloc (by simp) _).alloc (by simp; omega) _) hba).setCell (p := ⟨w.heap.size + 1 + 1, 0, none⟩) (by simp; omega) (.bool false)).setCell (p := ⟨w.heap.size + 1 + 1, 1, none⟩) (by simp; omega) (.string ⟨#[]⟩))
    clear hba
    go_wp2
    exact bodyPost_ret (v := .tuple #[.agg #[.bool false, .string ⟨#[]⟩], .int .i64 2]) (by simp [results, Try.results36, go_sem, k4, k5]) rfl ⟨by rw [wd, bs_zero]; simp, HZ.out⟩
  | true =>
    have h2 : vld b t = false := by rw [h1] at hv; simpa using hv
    rw [h1] at HA
    rw [h2] at HB
    clear h1 hv h2
    go_enter Try.func36, Try.ntmps36
    go_wp2_with fail
    refine (HA.out _).mono ?_
    rintro e wa ⟨rfl, hba⟩
    have k2 := keep1 hba (p := ⟨w.heap.size + 1, 0, none⟩) (v := .bool b) (by simp [go_sem])
    have k3 := keep1 hba (p := ⟨w.heap.size + 1, 1, none⟩) (v := .string t) (by simp [go_sem])
    have j4 := keep1 hba (p := ⟨w.heap.size + 1 + 1, 0, none⟩) (v := .bool false) (by simp [go_sem])
    have j5 := keep1 hba (p := ⟨w.heap.size + 1 + 1, 1, none⟩) (v := .string ⟨#[]⟩) (by simp [go_sem])
    have j6 := keepf hba (p := ⟨w.heap.size + 1 + 1, 0, none⟩) (v := .bool false) (by simp [go_sem]) (by simp [go_sem])
    have j7 := keepf hba (p := ⟨w.heap.size + 1 + 1, 1, none⟩) (v := .string ⟨#[]⟩) (by simp [go_sem]) (by simp [go_sem])
    have HBa := Lib.hid (chain ((((Below.refl w.heap.size w).alloc (Nat.le_refl _) _).alloc (by simp) _).alloc (by simp; omega) _) hba)
    have J := Lib.hid (And.intro j4 (And.intro j5 (And.intro j6 j7)))
    clear hba j4 j5 j6 j7
    go_wp2_with fail
    refine (HB.out _).mono ?_
    rintro e wb ⟨rfl, hbb⟩
    have k4 := keep1 hbb J.out.1
    have k5 := keep1 hbb J.out.2.1
    have k6 := keepf hbb J.out.1 J.out.2.2.1
    have k7 := keepf hbb J.out.2.1 J.out.2.2.2
    have HZ := Lib.hid (((chain HBa.out hbb).setCell (p := ⟨w.heap.size + 1 + 1, 0, none⟩) (by simp; omega) (.bool false)).setCell (p := ⟨w.heap.size + 1 + 1, 1, none⟩) (by simp; omega) (.string ⟨#[]⟩))
    clear hbb k2 k3
    go_wp2
    exact bodyPost_ret (v := .tuple #[.agg #[.bool false, .string ⟨#[]⟩], .int .i64 2]) (by simp [results, Try.results36, go_sem, k4, k5]) rfl ⟨by rw [wd, bs_zero]; simp, HZ.out⟩
end Go.Proofs.Ytlmklhffafcmmaa

/- The function wide.commonDivisor where the smaller magnitude has at most one limb. -/
namespace Go.Proofs.Ytlmklhffafcmmaa
open Go.RowKit

theorem dg_one {g : Nat} (h0 : g ≠ 0) (h : g < W) : Nm.dg W g = [g] := by
  have := Nm.eq_dg W2 (l := [g]) (Nm.dig_cons.2 ⟨h, Nm.dig_nil W⟩) h0
  rw [show Nm.val W [g] = g by simp [Nm.val]] at this
  exact this.symm

set_option maxRecDepth 100000 in
set_option maxHeartbeats 1000000 in
/-- The greater one first, the smaller one 0. -/
theorem commonDivisor_zero (v1 v2 : Value) (m : Nat) (w : World) (sw : Bool) (h1 : Rd w v1 (Nm.dg W m)) (h2 : Rd w v2 []) (l1 : (Nm.dg W m).length ≤ 1000000000) (hm : sw = true → 0 < m) :
    Calls Try.prog 70 (if sw = true then #[v2, v1] else #[v1, v2]) w (Gives m w) := by
  have HR := Lib.hid h1
  have d2 : Nm.Dig W [] := Nm.dig_nil W
  cases sw with
  | false =>
    have HC := Lib.hid (compareLimbs_any v1 v2 _ _ w h1 h2 l1 (by simp) (Nm.dig_dg W2 m) d2 (Nm.nrm_dg W2 m) trivial)
    have hc0 : 0 ≤ cmpN (Nm.val W (Nm.dg W m)) (Nm.val W []) := cmpN_ge (Nat.zero_le _)
    generalize cmpN (Nm.val W (Nm.dg W m)) (Nm.val W []) = cc at *
    obtain ⟨p2, b2, o2, c2, rfl, hr2⟩ := h2
    clear hr2 h1
    simp only [Bool.false_eq_true, if_false]
    go_enter Try.func70, Try.ntmps70
    go_wp2_with fail
    refine HC.out.mono ?_
    rintro e w' ⟨rfl, n, rfl⟩
    go_wp2
    go_ret
    exact ⟨_, rfl, HR.out.drewN n, belowDrewN (Below.refl _ _) n⟩
  | true =>
    have HC := Lib.hid (compareLimbs_any v2 v1 _ _ w h2 h1 (by simp) l1 d2 (Nm.dig_dg W2 m) trivial (Nm.nrm_dg W2 m))
    rw [Nm.val_dg W2, cmpN_lt (show Nm.val W [] < m from hm rfl)] at HC
    obtain ⟨p2, b2, o2, c2, rfl, hr2⟩ := h2
    clear hr2 h1
    simp only [if_true]
    go_enter Try.func70, Try.ntmps70
    go_wp2_with fail
    refine HC.out.mono ?_
    rintro e w' ⟨rfl, n, rfl⟩
    go_wp2
    go_ret
    exact ⟨_, rfl, HR.out.drewN n, belowDrewN (Below.refl _ _) n⟩

set_option maxRecDepth 100000 in
set_option maxHeartbeats 1000000 in
theorem commonDivisor_one (v1 v2 : Value) (m x : Nat) (w : World) (sw : Bool) (h1 : Rd w v1 (Nm.dg W m)) (h2 : Rd w v2 [x]) (l1 : (Nm.dg W m).length ≤ 1000000000) (hx : x < W) (hx0 : 0 < x) (hm : x ≤ m) (hsw : sw = true → x < m) :
    Calls Try.prog 70 (if sw = true then #[v2, v1] else #[v1, v2]) w (Gives (Nat.gcd m x) w) := by
  have d2 : Nm.Dig W [x] := Nm.dig_cons.2 ⟨hx, Nm.dig_nil W⟩
  have hvx : Nm.val W [x] = x := by simp [Nm.val]
  have HRm := Lib.hid (fun W' (hb : Below w.heap.size w W') => remainderWord_any v1 _ x W' (h1.below hb (Nat.le_refl _)) l1 (Nm.dig_dg W2 m) hx hx0)
  rw [Nm.val_dg W2] at HRm
  have hmod := Nat.mod_lt m hx0
  have HCw := Lib.hid (fun W' => commonWord_any x (m % x) W' hx (Nat.lt_trans hmod hx))
  have hgcd : Nat.gcd x (m % x) = Nat.gcd m x := by rw [Nat.gcd_comm x, ← Nat.gcd_rec, Nat.gcd_comm]
  rw [hgcd] at HCw
  have hg0 : Nat.gcd m x ≠ 0 := fun h => by have := Nat.eq_zero_of_gcd_eq_zero_right h; omega
  have hgW : Nat.gcd m x < W := Nat.lt_of_le_of_lt (Nat.gcd_le_right m hx0) hx
  have HD := Lib.hid (dg_one hg0 hgW)
  have HC1 := compareLimbs_any v1 v2 _ _ w h1 h2 l1 (by simp) (Nm.dig_dg W2 m) d2 (Nm.nrm_dg W2 m) (show x ≠ 0 by omega)
  have HC2 := compareLimbs_any v2 v1 _ _ w h2 h1 (by simp) l1 d2 (Nm.dig_dg W2 m) (show x ≠ 0 by omega) (Nm.nrm_dg W2 m)
  rw [Nm.val_dg W2, hvx] at HC1 HC2
  have H1 := Lib.hid h1
  clear h1
  obtain ⟨p2, b2, o2, c2, rfl, _, _, hp2, _, hx2⟩ := h2
  obtain rfl := hp2 (by simp)
  have e2 := hx2 0 (by simp)
  simp only [List.getElem_cons_zero, Nat.add_zero, List.length_singleton] at e2
  simp only [List.length_singleton] at HC1 HC2 ⊢
  generalize Nat.gcd m x = g at *
  generalize m % x = rm at *
  clear hp2 hx2 hgcd hg0 hgW hmod hvx d2
  have Hcc0 : Hid (∃ cc : Int, ((sw = true ∧ cc < 0) ∨ (sw = false ∧ 0 ≤ cc)) ∧ Calls Try.prog 88 (if sw = true then #[.slice (some ⟨b2, o2, none⟩) 1 c2, v1] else #[v1, .slice (some ⟨b2, o2, none⟩) 1 c2]) w (CmpPost cc w)) := by
    cases sw with
    | false => exact ⟨_, Or.inr ⟨rfl, cmpN_ge hm⟩, HC1⟩
    | true => exact ⟨_, Or.inl ⟨rfl, by rw [cmpN_lt (hsw rfl)]; decide⟩, HC2⟩
  clear HC1 HC2 hm hsw
  obtain ⟨cc, hcc, hcall⟩ := Hcc0.out
  clear Hcc0
  have HC := Lib.hid hcall
  clear hcall
  obtain ⟨p1, b1, o1, c1, hv1, hr1⟩ := H1.out
  clear hr1
  generalize (Nm.dg W m).length = len1 at *
  subst hv1
  rcases hcc with ⟨rfl, hcc⟩ | ⟨rfl, hcc⟩
  · simp only [if_true] at HC ⊢
    go_enter Try.func70, Try.ntmps70
    go_wp2_with fail
    refine HC.out.mono ?_
    rintro e w' ⟨rfl, n, rfl⟩
    have e3 : (w.drewN n).cell? ⟨b2, o2, none⟩ = some (.int .u64 (x : Int)) := e2
    go_wp2_with fail
    go_region_held3 (fun W' => W'.cell? ⟨b2, o2, none⟩ = some (.int .u64 (x : Int))) (go_keep)
      (first
        | (go_at_call 98; (with_reducible refine (HRm.out _ ?_).mono ?_); (exact belowDrewN (Below.refl _ _) _); rintro e w1 ⟨rfl, n1, rfl⟩)
        | (go_at_call 97; (with_reducible refine (HCw.out _).mono ?_); rintro e w1 ⟨rfl, n1, rfl⟩))
    go_wp2
    go_ret
    exact ⟨_, rfl, by rw [HD.out]; exact Rd.one (w.drewN _) g, (belowDrewN (Below.refl w.heap.size w) _).alloc (Nat.le_refl _) _⟩
  · simp only [Bool.false_eq_true, if_false] at HC ⊢
    go_enter Try.func70, Try.ntmps70
    go_wp2_with fail
    refine HC.out.mono ?_
    rintro e w' ⟨rfl, n, rfl⟩
    have e3 : (w.drewN n).cell? ⟨b2, o2, none⟩ = some (.int .u64 (x : Int)) := e2
    go_wp2_with fail
    go_region_held3 (fun W' => W'.cell? ⟨b2, o2, none⟩ = some (.int .u64 (x : Int))) (go_keep)
      (first
        | (go_at_call 98; (with_reducible refine (HRm.out _ ?_).mono ?_); (exact belowDrewN (Below.refl _ _) _); rintro e w1 ⟨rfl, n1, rfl⟩)
        | (go_at_call 97; (with_reducible refine (HCw.out _).mono ?_); rintro e w1 ⟨rfl, n1, rfl⟩))
    go_wp2
    go_ret
    exact ⟨_, rfl, by rw [HD.out]; exact Rd.one (w.drewN _) g, (belowDrewN (Below.refl w.heap.size w) _).alloc (Nat.le_refl _) _⟩

/-- The common divisor of two magnitudes, the smaller one of which has at most one limb. -/
theorem gcdOK_small (m n : Nat) (h : m < W ∨ n < W) (l1 : (Nm.dg W m).length ≤ 1000000000) (l2 : (Nm.dg W n).length ≤ 1000000000) : GcdOK m n := by
  intro v1 v2 w h1 h2
  rcases Nat.lt_or_ge m n with g | g
  · rcases Nat.eq_zero_or_pos m with h0 | h0
    · subst h0
      rw [Nat.gcd_zero_left]
      exact commonDivisor_zero v2 v1 n w true h2 h1 l2 (fun _ => g)
    · have hm : m < W := by omega
      rw [dg_one (by omega) hm] at h1
      rw [Nat.gcd_comm]
      exact commonDivisor_one v2 v1 n m w true h2 h1 l2 hm h0 (Nat.le_of_lt g) (fun _ => g)
  · rcases Nat.eq_zero_or_pos n with h0 | h0
    · subst h0
      rw [Nat.gcd_zero_right]
      exact commonDivisor_zero v1 v2 m w false h1 h2 l1 (fun h => by cases h)
    · have hn : n < W := by omega
      rw [dg_one (by omega) hn] at h2
      exact commonDivisor_one v1 v2 m n w false h1 h2 l1 hn h0 g (fun h => by cases h)
end Go.Proofs.Ytlmklhffafcmmaa
