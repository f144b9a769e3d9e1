/- What the theorem leans on, part 12: LehG, ProdZ, Q3, LFrA, LFrB. -/
import Derived.Test.YtlmklhffafcmmaaGreatY11
import Derived.Test.YtlmklhffafcmmaaGreatY3
import Derived.Test.YtlmklhffafcmmaaGreatY10
import Derived.Test.YtlmklhffafcmmaaGreatY9
import Derived.Test.YtlmklhffafcmmaaGreatY4
import Derived.Test.YtlmklhffafcmmaaGreatY5

/- The function wide.commonDivisor for any two magnitudes. -/
namespace Go.Proofs.YtlmklhffafcmmaaGreat
open Go.RowKit

set_option maxRecDepth 100000 in
set_option maxHeartbeats 2000000 in
theorem commonDivisor_big (v1 v2 : Value) (m n : Nat) (w : World) (sw : Bool) (h1 : Rd w v1 (Nm.dg W m)) (h2 : Rd w v2 (Nm.dg W n)) (l1 : (Nm.dg W m).length ≤ 900000000) (hm : n ≤ m) (hsw : sw = true → n < m) (hn : 1 < (Nm.dg W n).length) :
    Calls Tryz.prog 120 (if sw = true then #[v2, v1] else #[v1, v2]) w (Gives (Nat.gcd m n) w) := by
  have l2 := dgW_mono hm
  have HC1 := compareLimbs_any v1 v2 _ _ w h1 h2 (by omega) (by omega) (Nm.dig_dg W2 m) (Nm.dig_dg W2 n) (Nm.nrm_dg W2 m) (Nm.nrm_dg W2 n)
  have HC2 := compareLimbs_any v2 v1 _ _ w h2 h1 (by omega) (by omega) (Nm.dig_dg W2 n) (Nm.dig_dg W2 m) (Nm.nrm_dg W2 n) (Nm.nrm_dg W2 m)
  rw [Nm.val_dg W2, Nm.val_dg W2] at HC1 HC2
  have HRP := Lib.hid (fun k => reducePair_any v1 v2 m n (w.drewN k) (h1.drewN k) (h2.drewN k) hm l1)
  obtain ⟨p1, b1, o1, c1, rfl, hr1⟩ := h1
  obtain ⟨p2, b2, o2, c2, rfl, hr2⟩ := h2
  have l3 := dgW_mono hm
  clear hr1 hr2
  generalize Nat.gcd m n = G at *
  have Hcc0 : Hid (∃ cc : Int, ((sw = true ∧ cc < 0) ∨ (sw = false ∧ 0 ≤ cc)) ∧ Calls Tryz.prog 79 (if sw = true then #[.slice p2 (Nm.dg W n).length c2, .slice p1 (Nm.dg W m).length c1] else #[.slice p1 (Nm.dg W m).length c1, .slice p2 (Nm.dg W n).length c2]) w (CmpPost cc w)) := by
    cases sw with
    | false => exact ⟨_, Or.inr ⟨rfl, cmpN_ge hm⟩, HC1⟩
    | true => exact ⟨_, Or.inl ⟨rfl, by rw [cmpN_lt (hsw rfl)]; decide⟩, HC2⟩
  clear HC1 HC2 hm hsw
  generalize (Nm.dg W m).length = lm at *
  generalize (Nm.dg W n).length = ln at *
  obtain ⟨cc, hcc, hcall⟩ := Hcc0.out
  clear Hcc0 l2 l3
  have HC := Lib.hid hcall
  clear hcall
  have hn2 : (1 : Int) < (ln : Int) := by omega
  rcases hcc with ⟨rfl, hcc⟩ | ⟨rfl, hcc⟩
  · simp only [if_true] at HC ⊢
    go_enter Tryz.func120, Tryz.ntmps120
    go_wp2_with fail
    refine HC.out.mono ?_
    rintro e w' ⟨rfl, k, rfl⟩
    go_wp2_with fail
    refine (HRP.out k).mono ?_
    rintro e w6 ⟨va, vb, m', n', rfl, ha, hb, hg, hl, hle, hlm, hbl⟩
    have HA := Lib.hid ha
    have hbb := Lib.hid hbl
    have HBl : Hid (Below w.heap.size w w6) := (belowDrewN (Below.refl _ _) k).trans hbl
    obtain ⟨pa, ba, oa, ca, rfl, hra⟩ := ha
    rcases Nat.eq_zero_or_pos n' with h0 | h0
    · subst h0
      rw [Nat.gcd_zero_right] at hg
      subst hg
      rw [Nm.dg_zero] at hb
      obtain ⟨pb, bb, ob, cb, rfl, hrb⟩ := hb
      clear hrb hra hbl hle hl hlm
      go_wp2
      go_ret
      exact ⟨_, rfl, HA.out, HBl.out⟩
    · have hn' : n' < W := by
        have h3 := Nm.val_lt (Nm.dig_dg W2 n')
        rw [Nm.val_dg W2] at h3
        have h4 : W ^ (Nm.dg W n').length ≤ W ^ 1 := Nat.pow_le_pow_right W0 hl
        rw [Nat.pow_one] at h4
        omega
      have HRm := Lib.hid (fun W' (hb : Below w6.heap.size w6 W') => remainderWord_any _ _ n' W' (HA.out.below hb (Nat.le_refl _)) (by omega) (Nm.dig_dg W2 m') hn' h0)
      rw [Nm.val_dg W2] at HRm
      have hmod := Nat.mod_lt m' h0
      have HCw := Lib.hid (fun W' => commonWord_any n' (m' % n') W' hn' (Nat.lt_trans hmod hn'))
      have hgcd : Nat.gcd n' (m' % n') = G := by rw [Nat.gcd_comm n', ← Nat.gcd_rec, Nat.gcd_comm]; exact hg
      rw [hgcd] at HCw
      have hg0 : G ≠ 0 := fun h => by rw [← hg] at h; have := Nat.eq_zero_of_gcd_eq_zero_right h; omega
      have hgW : G < W := by rw [← hg]; exact Nat.lt_of_le_of_lt (Nat.gcd_le_right m' h0) hn'
      have HD := Lib.hid (dg_one hg0 hgW)
      rw [dg_one (by omega) hn'] at hb
      obtain ⟨p3, b3, o3, c3, rfl, _, _, hp3, _, hx3⟩ := hb
      obtain rfl := hp3 (by simp)
      have e3 := hx3 0 (by simp)
      simp only [List.getElem_cons_zero, Nat.add_zero, List.length_singleton] at e3
      simp only [List.length_singleton]
      generalize m' % n' = rm at *
      clear hp3 hx3 hgcd hg0 hgW hmod hra hbl hg hle hl hlm HC HRP
      generalize (Nm.dg W m').length = lm' at *
      go_wp2_with fail
      go_region_held3 (fun W' => W'.cell? ⟨b3, o3, none⟩ = some (.int .u64 (n' : Int))) (go_keep)
        (first
          | (go_at_call 164; (with_reducible refine (HRm.out _ ?_).mono ?_); (exact belowDrewN (Below.refl _ _) _); rintro e w1 ⟨rfl, n1, rfl⟩)
          | (go_at_call 163; (with_reducible refine (HCw.out _).mono ?_); rintro e w1 ⟨rfl, n1, rfl⟩))
      go_wp2
      go_ret
      exact ⟨_, rfl, by rw [HD.out]; exact Rd.one (w6.drewN _) G, (belowDrewN HBl.out _).alloc (by have := HBl.out.size; exact this) _⟩
  · simp only [Bool.false_eq_true, if_false] at HC ⊢
    go_enter Tryz.func120, Tryz.ntmps120
    go_wp2_with fail
    refine HC.out.mono ?_
    rintro e w' ⟨rfl, k, rfl⟩
    go_wp2_with fail
    refine (HRP.out k).mono ?_
    rintro e w6 ⟨va, vb, m', n', rfl, ha, hb, hg, hl, hle, hlm, hbl⟩
    have HA := Lib.hid ha
    have hbb := Lib.hid hbl
    have HBl : Hid (Below w.heap.size w w6) := (belowDrewN (Below.refl _ _) k).trans hbl
    obtain ⟨pa, ba, oa, ca, rfl, hra⟩ := ha
    rcases Nat.eq_zero_or_pos n' with h0 | h0
    · subst h0
      rw [Nat.gcd_zero_right] at hg
      subst hg
      rw [Nm.dg_zero] at hb
      obtain ⟨pb, bb, ob, cb, rfl, hrb⟩ := hb
      clear hrb hra hbl hle hl hlm
      go_wp2
      go_ret
      exact ⟨_, rfl, HA.out, HBl.out⟩
    · have hn' : n' < W := by
        have h3 := Nm.val_lt (Nm.dig_dg W2 n')
        rw [Nm.val_dg W2] at h3
        have h4 : W ^ (Nm.dg W n').length ≤ W ^ 1 := Nat.pow_le_pow_right W0 hl
        rw [Nat.pow_one] at h4
        omega
      have HRm := Lib.hid (fun W' (hb : Below w6.heap.size w6 W') => remainderWord_any _ _ n' W' (HA.out.below hb (Nat.le_refl _)) (by omega) (Nm.dig_dg W2 m') hn' h0)
      rw [Nm.val_dg W2] at HRm
      have hmod := Nat.mod_lt m' h0
      have HCw := Lib.hid (fun W' => commonWord_any n' (m' % n') W' hn' (Nat.lt_trans hmod hn'))
      have hgcd : Nat.gcd n' (m' % n') = G := by rw [Nat.gcd_comm n', ← Nat.gcd_rec, Nat.gcd_comm]; exact hg
      rw [hgcd] at HCw
      have hg0 : G ≠ 0 := fun h => by rw [← hg] at h; have := Nat.eq_zero_of_gcd_eq_zero_right h; omega
      have hgW : G < W := by rw [← hg]; exact Nat.lt_of_le_of_lt (Nat.gcd_le_right m' h0) hn'
      have HD := Lib.hid (dg_one hg0 hgW)
      rw [dg_one (by omega) hn'] at hb
      obtain ⟨p3, b3, o3, c3, rfl, _, _, hp3, _, hx3⟩ := hb
      obtain rfl := hp3 (by simp)
      have e3 := hx3 0 (by simp)
      simp only [List.getElem_cons_zero, Nat.add_zero, List.length_singleton] at e3
      simp only [List.length_singleton]
      generalize m' % n' = rm at *
      clear hp3 hx3 hgcd hg0 hgW hmod hra hbl hg hle hl hlm HC HRP
      generalize (Nm.dg W m').length = lm' at *
      go_wp2_with fail
      go_region_held3 (fun W' => W'.cell? ⟨b3, o3, none⟩ = some (.int .u64 (n' : Int))) (go_keep)
        (first
          | (go_at_call 164; (with_reducible refine (HRm.out _ ?_).mono ?_); (exact belowDrewN (Below.refl _ _) _); rintro e w1 ⟨rfl, n1, rfl⟩)
          | (go_at_call 163; (with_reducible refine (HCw.out _).mono ?_); rintro e w1 ⟨rfl, n1, rfl⟩))
      go_wp2
      go_ret
      exact ⟨_, rfl, by rw [HD.out]; exact Rd.one (w6.drewN _) G, (belowDrewN HBl.out _).alloc (by have := HBl.out.size; exact this) _⟩

/-- The common divisor of any two magnitudes. -/
theorem gcdOK_any (m n : Nat) (l1 : (Nm.dg W m).length ≤ 900000000) (l2 : (Nm.dg W n).length ≤ 900000000) : GcdOK m n := by
  by_cases h : m < W ∨ n < W
  · exact gcdOK_small m n h (by omega) (by omega)
  · intro v1 v2 w h1 h2
    have big : ∀ k, ¬ k < W → 1 < (Nm.dg W k).length := fun k hk => by
      rcases Nat.lt_or_ge 1 (Nm.dg W k).length with g | g
      · exact g
      · have h3 := Nm.val_lt (Nm.dig_dg W2 k)
        rw [Nm.val_dg W2] at h3
        have h4 : W ^ (Nm.dg W k).length ≤ W ^ 1 := Nat.pow_le_pow_right W0 g
        rw [Nat.pow_one] at h4
        omega
    rcases Nat.lt_or_ge m n with g | g
    · rw [Nat.gcd_comm]
      exact commonDivisor_big v2 v1 n m w true h2 h1 l2 (Nat.le_of_lt g) (fun _ => g) (big m (by omega))
    · exact commonDivisor_big v1 v2 m n w false h1 h2 l1 g (fun h => by cases h) (big n (by omega))
end Go.Proofs.YtlmklhffafcmmaaGreat

/- Products, quotients and common divisors of short wide integers, as integers. -/
namespace Go.Proofs.YtlmklhffafcmmaaGreat
open Go.RowKit

set_option maxRecDepth 100000 in
set_option maxHeartbeats 1000000 in
theorem Quo_invalid (a b : Bool) (s t : ByteArray) (w : World) (z1 : s.size ≤ 140737488351232) (z2 : t.size ≤ 140737488351232) (hv : (vld a s && vld b t) = false) :
    Calls Tryz.prog 53 #[.agg #[.bool a, .string s], .agg #[.bool b, .string t]] w (Q3Post (wd false 0) (wd false 0) 2 w) := by
  have HA := Lib.hid (fun w => Valid_any a s w z1)
  have HB := Lib.hid (fun w => Valid_any b t w z2)
  obtain ⟨w0, hw0⟩ : ∃ w0 : World, w0 = (((w.alloc (.cells #[.bool a, .string s] 23)).alloc (.cells #[.bool b, .string t] 23)).alloc (.cells #[.bool false, .string ⟨#[]⟩] 23)).alloc (.cells #[.bool false, .string ⟨#[]⟩] 23) := ⟨_, rfl⟩
  have hb0 : Hid (Below w.heap.size w w0) := by rw [hw0]; exact ((((Below.refl _ _).alloc (Nat.le_refl _) _).alloc (by simp) _).alloc (by simp; omega) _).alloc (by simp; omega) _
  have i2 : ZC (.bool b) (.string t) w0 (w.heap.size + 1) := by rw [hw0]; refine ⟨?_, ?_, ?_, ?_⟩ <;> simp [go_sem]
  have i3 : ZC (.bool false) (.string ⟨#[]⟩) w0 (w.heap.size + 1 + 1) := by rw [hw0]; refine ⟨?_, ?_, ?_, ?_⟩ <;> simp [go_sem]
  have i4 : ZC (.bool false) (.string ⟨#[]⟩) w0 (w.heap.size + 1 + 1 + 1) := by rw [hw0]; refine ⟨?_, ?_, ?_, ?_⟩ <;> simp [go_sem]
  have I2 := Lib.hid i2
  have I3 := Lib.hid i3
  have I4 := Lib.hid i4
  have Hw0 := Lib.hid hw0
  clear i2 i3 i4 hw0
  cases h1 : vld a s with
  | false =>
    rw [h1] at HA
    clear h1 hv
    go_enter Tryz.func53, Tryz.ntmps53
    go_wp2_with fail
    rw [← Hw0.out]
    refine (HA.out _).mono ?_
    rintro e wa ⟨rfl, c⟩
    obtain ⟨m0, m1, m2, m3⟩ := I3.out.next c
    obtain ⟨n0, n1, n2, n3⟩ := I4.out.next c
    have HZ := Lib.hid (below_set2 (below_set2 (chain hb0.out c) (g := w.heap.size + 1 + 1) (by omega) (.bool false) (.string ⟨#[]⟩)) (g := w.heap.size + 1 + 1 + 1) (by omega) (.bool false) (.string ⟨#[]⟩))
    clear c
    go_wp2
    exact bodyPost_ret (v := .tuple #[.agg #[.bool false, .string ⟨#[]⟩], .agg #[.bool false, .string ⟨#[]⟩], .int .i64 2]) (by simp [results, Tryz.results53, go_sem, m0, m1, n0, n1]) rfl ⟨by rw [wd, bs_zero]; simp, HZ.out⟩
  | true =>
    have h2 : vld b t = false := by rw [h1] at hv; simpa using hv
    rw [h1] at HA
    rw [h2] at HB
    clear h1 hv h2
    go_enter Tryz.func53, Tryz.ntmps53
    go_wp2_with fail
    rw [← Hw0.out]
    refine (HA.out _).mono ?_
    rintro e wa ⟨rfl, ba⟩
    obtain ⟨q0, q1, _, _⟩ := I2.out.next ba
    have BA := Lib.hid ba
    clear ba
    go_wp2_with fail
    refine (HB.out _).mono ?_
    rintro e wb ⟨rfl, bb⟩
    have c := chain BA.out bb
    obtain ⟨m0, m1, m2, m3⟩ := I3.out.next c
    obtain ⟨n0, n1, n2, n3⟩ := I4.out.next c
    have HZ := Lib.hid (below_set2 (below_set2 (chain hb0.out c) (g := w.heap.size + 1 + 1) (by omega) (.bool false) (.string ⟨#[]⟩)) (g := w.heap.size + 1 + 1 + 1) (by omega) (.bool false) (.string ⟨#[]⟩))
    clear bb c q0 q1
    go_wp2
    exact bodyPost_ret (v := .tuple #[.agg #[.bool false, .string ⟨#[]⟩], .agg #[.bool false, .string ⟨#[]⟩], .int .i64 2]) (by simp [results, Tryz.results53, go_sem, m0, m1, n0, n1]) rfl ⟨by rw [wd, bs_zero]; simp, HZ.out⟩

theorem sg_mul2 (a b : Bool) (m n : Nat) : sg (a != b) (m * n) = sg a m * sg b n := by
  cases a <;> cases b <;> simp [sg, Int.neg_mul, Int.mul_neg]
theorem sg_zero_iff {b : Bool} {n : Nat} : sg b n = 0 ↔ n = 0 := by unfold sg; split <;> omega
theorem er1_sg {a b : Bool} {m n : Nat} (h0 : 0 < n) : sg false (er1 a m n) = sg a m % sg b n := by
  have hr := Nat.mod_lt m h0
  have hdm := Nat.div_add_mod m n
  have hn : sg a m % sg b n = sg a m % (n : Int) := by
    cases b with
    | false => rfl
    | true => show sg a m % (-(n : Int)) = _; rw [Int.emod_neg]
  rw [hn]
  unfold er1
  cases a with
  | false =>
    rw [if_neg (by simp)]
    simp [sg]
  | true =>
    by_cases hz : m % n = 0
    · rw [if_neg (by simp [hz])]
      show ((m % n : Nat) : Int) = (-(m : Int)) % (n : Int)
      rw [hz]
      have : (n : Int) ∣ -(m : Int) := Int.dvd_neg.2 (Int.natCast_dvd_natCast.2 (Nat.dvd_of_mod_eq_zero hz))
      rw [Int.emod_eq_zero_of_dvd this]; rfl
    · rw [if_pos ⟨rfl, hz⟩]
      show ((n - m % n : Nat) : Int) = (-(m : Int)) % (n : Int)
      have e : -(m : Int) = ((n - m % n : Nat) : Int) + (n : Int) * (-((m / n + 1 : Nat) : Int)) := by
        have h1 : (n : Int) * (-((m / n + 1 : Nat) : Int)) = -((n * (m / n) : Nat) : Int) - n := by push_cast; grind
        rw [h1]; omega
      rw [e, Int.add_mul_emod_self_left, Int.emod_eq_of_lt (by omega) (by omega)]
theorem eq1_sg {a b : Bool} {m n : Nat} (h0 : 0 < n) : sg (a != b) (eq1 a m n) = sg a m / sg b n := by
  have hr := Nat.mod_lt m h0
  have hdm := Nat.div_add_mod m n
  have key : sg a m / (n : Int) = sg a (eq1 a m n) := by
    unfold eq1
    cases a with
    | false =>
      rw [if_neg (by simp)]
      simp [sg]
    | true =>
      by_cases hz : m % n = 0
      · rw [if_neg (by simp [hz])]
        show (-(m : Int)) / (n : Int) = -((m / n : Nat) : Int)
        have e : -(m : Int) = (n : Int) * (-((m / n : Nat) : Int)) := by
          rw [Int.mul_neg, ← Int.natCast_mul]; omega
        rw [e, Int.mul_ediv_cancel_left _ (by omega)]
      · rw [if_pos ⟨rfl, hz⟩]
        show (-(m : Int)) / (n : Int) = -((m / n + 1 : Nat) : Int)
        have e : -(m : Int) = ((n - m % n : Nat) : Int) + (n : Int) * (-((m / n + 1 : Nat) : Int)) := by
          have h1 : (n : Int) * (-((m / n + 1 : Nat) : Int)) = -((n * (m / n) : Nat) : Int) - n := by push_cast; grind
          rw [h1]; omega
        rw [e, Int.add_mul_ediv_left _ _ (by omega), Int.ediv_eq_zero_of_lt (by omega) (by omega), Int.zero_add]
  cases b with
  | false =>
    show sg (a != false) _ = sg a m / (n : Int)
    rw [key]; cases a <;> rfl
  | true =>
    show sg (a != true) _ = sg a m / (-(n : Int))
    rw [Int.ediv_neg, key]
    cases a <;> simp [sg]

/-- Sizes. -/
theorem fits_k {n k : Nat} (hk : k ≤ 8192) (h : n < 256 ^ k) : n < Top ∧ (Nm.dg D9 n).length ≤ 100000 := ⟨lt_topk (by omega) h, Nat.le_trans (dg9_256 h) (by omega)⟩
theorem prod120 {m n j k : Nat} (hk : k = j + j) (h1 : m < 256 ^ j) (h2 : n < 256 ^ j) : m * n < 256 ^ k := by
  rw [hk, Nat.pow_add]
  exact Nat.mul_lt_mul'' h1 h2
theorem mul_z {a b : Bool} {s t : ByteArray} (h1 : vld a s = true) (h2 : vld b t = true) (z1 : s.size ≤ 60) (z2 : t.size ≤ 60) (w : World) :
    Calls Tryz.prog 178 #[.agg #[.bool a, .string s], .agg #[.bool b, .string t]] w fun e w' => e = .returned (.tuple #[.agg #[.bool (zb (sg a (bv s) * sg b (bv t))), .string (zs (sg a (bv s) * sg b (bv t)))], .int .i64 0]) ∧ Below w.heap.size w w' := by
  have h := Mul_valid a b s t w h1 h2
  obtain ⟨k6, hk6⟩ : ∃ k6 : Nat, k6 = 60 := ⟨_, rfl⟩
  have ht : bv s * bv t < Top := (fits_k (k := k6 + k6) (by omega) (prod120 rfl (bv60 hk6 z1) (bv60 hk6 z2))).1
  unfold WPost at h
  rwa [wres_ok _ ht, werr_ok ht, wd_sg, sg_mul2] at h
theorem quo_z {a b : Bool} {s t : ByteArray} (h1 : vld a s = true) (h2 : vld b t = true) (h0 : sg b (bv t) ≠ 0) (w : World) :
    Calls Tryz.prog 53 #[.agg #[.bool a, .string s], .agg #[.bool b, .string t]] w fun e w' => e = .returned (.tuple #[.agg #[.bool (zb (sg a (bv s) / sg b (bv t))), .string (zs (sg a (bv s) / sg b (bv t)))], .agg #[.bool (zb (sg a (bv s) % sg b (bv t))), .string (zs (sg a (bv s) % sg b (bv t)))], .int .i64 0]) ∧ Below w.heap.size w w' := by
  have hn : 0 < bv t := by
    rcases Nat.eq_zero_or_pos (bv t) with g | g
    · exact absurd (sg_zero_iff.2 g) h0
    · exact g
  have h := Quo_valid a b s t w (divOK_any _ _ hn (Nat.le_trans (len_top (bv_lt h1)) (by decide)) (Nat.le_trans (len_top (bv_lt h2)) (by decide))) h1 h2 hn
  unfold Q3Post at h
  rwa [wd_sg, wd_sg, eq1_sg hn, er1_sg (b := b) hn] at h
theorem quo0_z {a b : Bool} {s t : ByteArray} (h1 : vld a s = true) (h2 : vld b t = true) (h0 : sg b (bv t) = 0) (w : World) :
    Calls Tryz.prog 53 #[.agg #[.bool a, .string s], .agg #[.bool b, .string t]] w fun e w' => e = .returned (.tuple #[.agg #[.bool false, .string ⟨#[]⟩], .agg #[.bool false, .string ⟨#[]⟩], .int .i64 3]) ∧ Below w.heap.size w w' := by
  have ht : t = ⟨#[]⟩ := by
    have hz := (bv_zero_iff (vld_can h2)).1 (sg_zero_iff.1 h0)
    apply ByteArray.ext
    apply Array.eq_empty_of_size_eq_zero hz
  subst ht
  have h := Quo_zero a b s w h1 h2
  unfold Q3Post at h
  rwa [wd_none] at h
theorem gcd_z {a b : Bool} {s t : ByteArray} (h1 : vld a s = true) (h2 : vld b t = true) (w : World) :
    Calls Tryz.prog 55 #[.agg #[.bool a, .string s], .agg #[.bool b, .string t]] w fun e w' => e = .returned (.tuple #[.agg #[.bool (zb (Nat.gcd (sg a (bv s)).natAbs (sg b (bv t)).natAbs : Nat)), .string (zs (Nat.gcd (sg a (bv s)).natAbs (sg b (bv t)).natAbs : Nat))], .int .i64 0]) ∧ Below w.heap.size w w' := by
  have h := GCD_valid a b s t w (gcdOK_any _ _ (Nat.le_trans (len_top (bv_lt h1)) (by decide)) (Nat.le_trans (len_top (bv_lt h2)) (by decide))) h1 h2
  have ht := gcd_top (bv_lt h1) (bv_lt h2)
  unfold WPost at h
  rw [wres_ok _ ht, werr_ok ht, wd_sg] at h
  rw [sg_abs, sg_abs]
  exact h
end Go.Proofs.YtlmklhffafcmmaaGreat

/- The reference's ValidRatio and OutRatio; the law's function same; wide.Ratio, RatioOf and Floor where they fail. -/
namespace Go.Proofs.YtlmklhffafcmmaaGreat
open Go.RowKit

set_option maxRecDepth 100000 in
set_option maxHeartbeats 2000000 in
theorem rvalidRatio_any (a b : Bool) (s t : ByteArray) (w : World) (hs : s.size ≤ 140737488351232) (ht : t.size ≤ 140737488351232) :
    Calls Tryz.prog 13 #[rat a s b t] w (BPost (vldR a s b t) w) := by
  rw [vld_rat]
  have HA := Lib.hid (fun w => rvalid_any a s w hs)
  have HB := Lib.hid (fun w => rvalid_any b t w ht)
  unfold BPost at *
  unfold rat
  obtain ⟨w0, hw0⟩ : ∃ w0 : World, w0 = w.alloc (.cells #[.bool a, .string s, .bool b, .string t] 27) := ⟨_, rfl⟩
  have hb0 : Hid (Below w.heap.size w w0) := by rw [hw0]; exact below_one _ _
  have I1 : Hid (ZC4 (.bool a) (.string s) (.bool b) (.string t) w0 w.heap.size) := by rw [hw0]; exact ZC4.made0 w
  have Hw0 := Lib.hid hw0
  clear hw0
  generalize vld a s = va at *
  generalize vld b t = vb at *
  go_enter Tryz.func13, Tryz.ntmps13
  go_wp2_with fail
  rw [← Hw0.out]
  refine (HA.out _).mono ?_
  rintro e wa ⟨rfl, ba⟩
  obtain ⟨⟨k0, k1, k2, k3⟩, _⟩ := I1.out.next ba
  have BA := Lib.hid ba
  have HZ := Lib.hid (chain hb0.out ba)
  clear ba
  cases va with
  | false =>
    go_wp2
    go_ret
    exact ⟨rfl, HZ.out⟩
  | true =>
    go_wp2_with fail
    refine (HB.out _).mono ?_
    rintro e wb ⟨rfl, bb⟩
    have c := chain BA.out bb
    obtain ⟨⟨k0, k1, k2, k3⟩, _⟩ := I1.out.next c
    have HZ := Lib.hid (chain hb0.out c)
    clear bb c
    cases vb with
    | false =>
      go_wp2
      go_ret
      exact ⟨rfl, HZ.out⟩
    | true =>
      cases b with
      | true =>
        go_wp2
        go_ret
        exact ⟨rfl, HZ.out⟩
      | false =>
        by_cases h0 : 0 < t.size
        · have e0 : decide (0 < t.size) = true := decide_eq_true h0
          have E0 := Lib.hid e0
          clear e0
          go_wp2
          go_ret
          exact ⟨by rw [E0.out]; rfl, HZ.out⟩
        · have e0 : decide (0 < t.size) = false := decide_eq_false h0
          have E0 := Lib.hid e0
          clear e0
          go_wp2
          go_ret
          exact ⟨by rw [E0.out]; rfl, HZ.out⟩

set_option maxRecDepth 100000 in
set_option maxHeartbeats 4000000 in
theorem routRatio_int (x y : Int) (v1 v2 : Value) (w : World) (h1 : Rz w v1 x) (h2 : Rz w v2 y) (l1 : (Nm.dg D9 x.natAbs).length ≤ 1000000) (l2 : (Nm.dg D9 y.natAbs).length ≤ 1000000) (z1 : (zs x).size ≤ 8192) (z2 : (zs y).size ≤ 8192) :
    Calls Tryz.prog 65 #[qV x y v1 v2] w fun e w' => e = .returned (.tuple #[.agg #[.bool (zb x), .string (zs x), .bool (zb y), .string (zs y)], .int .i64 0]) ∧ Below w.heap.size w w' := by
  have H_b1 := Lib.hid (fun v w h => rbig_int x v w h l1 z1)
  have H_b2 := Lib.hid (fun v w h => rbig_int y v w h l2 z2)
  have H_t1 : Hid (∀ v w, Rz w v x → Calls Tryz.prog 119 #[iV x v] w fun e w' => e = .returned (.agg #[.bool (zb x), .string (zs x)]) ∧ Below w.heap.size w w') := fun v w h => by
    have := rto_int x v w h l1
    unfold ToPost at this
    rwa [wz_eq] at this
  have H_t2 : Hid (∀ v w, Rz w v y → Calls Tryz.prog 119 #[iV y v] w fun e w' => e = .returned (.agg #[.bool (zb y), .string (zs y)]) ∧ Below w.heap.size w w') := fun v w h => by
    have := rto_int y v w h l2
    unfold ToPost at this
    rwa [wz_eq] at this
  have R1 : Hid (Rz w v1 x) := h1
  have R2 : Hid (Rz w v2 y) := h2
  obtain ⟨p1, b1, o1, c1, rfl, hr1⟩ := h1
  obtain ⟨p2, b2, o2, c2, rfl, hr2⟩ := h2
  clear hr1 hr2 l1 l2 z1 z2
  unfold iV at *
  unfold qV
  unfold BPost at *
  generalize decide (x < 0) = bx at *
  generalize decide (y < 0) = by' at *
  generalize zb x = xb at *
  generalize zs x = xs at *
  generalize zb y = yb at *
  generalize zs y = ys at *
  generalize (Nm.dg D9 x.natAbs).length = l1 at *
  generalize (Nm.dg D9 y.natAbs).length = l2 at *
  obtain ⟨w0, hw0⟩ : ∃ w0 : World, w0 = (w.alloc (.cells #[.bool bx, .slice p1 l1 c1, .bool by', .slice p2 l2 c2] 40)).alloc (.cells #[.bool false, .string ⟨#[]⟩, .bool false, .string ⟨#[]⟩] 27) := ⟨_, rfl⟩
  have hb0 : Hid (Below w.heap.size w w0) := by rw [hw0]; exact ((Below.refl _ _).alloc (Nat.le_refl _) _).alloc (by simp) _
  have I1 : Hid (ZC4 (.bool bx) (.slice p1 l1 c1) (.bool by') (.slice p2 l2 c2) w0 w.heap.size) := by rw [hw0]; exact (ZC4.made0 w).next (below_one _ _)
  have I3 : Hid (ZC4 (.bool false) (.string ⟨#[]⟩) (.bool false) (.string ⟨#[]⟩) w0 (w.heap.size + 1)) := by
    rw [hw0]
    have := ZC4.made0 (x := .bool false) (y := .string ⟨#[]⟩) (z := .bool false) (u := .string ⟨#[]⟩) (t := 27) (w.alloc (.cells #[.bool bx, .slice p1 l1 c1, .bool by', .slice p2 l2 c2] 40))
    show ZC4 _ _ _ _ _ _
    simpa using this
  have R1 : Hid (Rz w0 (.slice p1 l1 c1) x) := Ri.below R1.out hb0.out (Nat.le_refl _)
  have R2 : Hid (Rz w0 (.slice p2 l2 c2) y) := Ri.below R2.out hb0.out (Nat.le_refl _)
  have Hw0 := Lib.hid hw0
  clear hw0
  go_enter Tryz.func65, Tryz.ntmps65
  go_wp2_with fail
  rw [← Hw0.out]
  refine (H_b1.out _ _ R1.out).mono ?_
  rintro e wa ⟨rfl, ba⟩
  obtain ⟨⟨k0, k1, k2, k3⟩, _⟩ := I1.out.next ba
  have D := Lib.hid ba
  clear ba
  go_wp2_with fail
  refine (H_b2.out _ _ (Ri.below R2.out D.out (Nat.le_refl _))).mono ?_
  rintro e wb ⟨rfl, bb⟩
  have D := Lib.hid (chain D.out bb)
  have I1 := Lib.hid (I1.out.next D.out)
  have I3 := Lib.hid (I3.out.next D.out)
  have R1 := Lib.hid (Ri.below R1.out D.out (Nat.le_refl _))
  have R2 := Lib.hid (Ri.below R2.out D.out (Nat.le_refl _))
  have hb0 := Lib.hid (chain hb0.out D.out)
  clear bb k0 k1 k2 k3 D Hw0
  go_upto_region 3 with (fail)
  obtain ⟨⟨k0, k1, k2, k3⟩, _⟩ := I1.out
  go_region_held3 (fun W' => W'.cell? ⟨w.heap.size, 0, none⟩ = some (.bool bx) ∧ W'.cell? ⟨w.heap.size, 1, none⟩ = some (.slice p1 l1 c1) ∧ W'.cell? ⟨w.heap.size, 2, none⟩ = some (.bool by') ∧ W'.cell? ⟨w.heap.size, 3, none⟩ = some (.slice p2 l2 c2)) (go_keep)
    (first
      | (go_at_call 119; (with_reducible refine (H_t1.out _ _ (by first | exact R1.out | exact Ri.drew R1.out | exact Ri.below R1.out E.out (Nat.le_refl _))).mono ?_); rintro e w1 ⟨rfl, b1⟩; (try (have b1 := undrew b1)); have E : Hid (Below wb.heap.size wb w1) := (by first | exact b1 | exact chain ((Below.refl _ _).drew) b1); have pk0 := keep1 E.out k0; have pk1 := keep1 E.out k1; have pk2 := keep1 E.out k2; have pk3 := keep1 E.out k3; have Q3 := I3.out.next E.out; have Q3h := Lib.hid Q3; obtain ⟨⟨n0, n1, n2, n3⟩, n4, n5, n6, n7⟩ := Q3; clear b1)
      | (go_at_call 119; (with_reducible refine (H_t2.out _ _ (by first | exact R2.out | exact Ri.drew R2.out | exact Ri.below R2.out E.out (Nat.le_refl _))).mono ?_); rintro e w2 ⟨rfl, b2⟩; (try (have b2 := undrew b2)); have E := Lib.hid (chain E.out b2); have pk0 := keep1 E.out k0; have pk1 := keep1 E.out k1; have pk2 := keep1 E.out k2; have pk3 := keep1 E.out k3; have Q3 := I3.out.next E.out; have Q3h := Lib.hid Q3; obtain ⟨⟨n0, n1, n2, n3⟩, n4, n5, n6, n7⟩ := Q3; clear b2)
      | fail)
  have HZ := Lib.hid (below_set4 (chain hb0.out E.out) (g := w.heap.size + 1) (by omega) (.bool xb) (.string xs) (.bool yb) (.string ys))
  go_wp2
  exact bodyPost_ret (v := .tuple #[.agg #[.bool xb, .string xs, .bool yb, .string ys], .int .i64 0]) (by simp [results, Tryz.results65, go_sem, n0, n1, n2, n3]) rfl ⟨rfl, HZ.out⟩

set_option maxRecDepth 100000 in
set_option maxHeartbeats 2000000 in
theorem rsame_true (x y : Int) (v1 v2 : Value) (w : World) (h1 : Rz w v1 x) (h2 : Rz w v2 y) (l1 : (Nm.dg D9 x.natAbs).length ≤ 1000000) (l2 : (Nm.dg D9 y.natAbs).length ≤ 1000000) (z1 : (zs x).size ≤ 8192) (z2 : (zs y).size ≤ 8192) :
    Calls Tryz.prog 14 #[.agg #[.bool (zb x), .string (zs x), .bool (zb y), .string (zs y)], .int .i64 0, qV x y v1 v2] w (BPost true w) := by
  have H_o := Lib.hid (fun v1 v2 w h1 h2 => routRatio_int x y v1 v2 w h1 h2 l1 l2 z1 z2)
  have R1 : Hid (Rz w v1 x) := h1
  have R2 : Hid (Rz w v2 y) := h2
  obtain ⟨p1, b1, o1, c1, rfl, hr1⟩ := h1
  obtain ⟨p2, b2, o2, c2, rfl, hr2⟩ := h2
  clear hr1 hr2 l1 l2 z1 z2
  unfold qV at *
  unfold BPost at *
  generalize decide (x < 0) = bx at *
  generalize decide (y < 0) = by' at *
  generalize zb x = xb at *
  generalize zs x = xs at *
  generalize zb y = yb at *
  generalize zs y = ys at *
  generalize (Nm.dg D9 x.natAbs).length = l1 at *
  generalize (Nm.dg D9 y.natAbs).length = l2 at *
  obtain ⟨w0, hw0⟩ : ∃ w0 : World, w0 = (w.alloc (.cells #[.bool xb, .string xs, .bool yb, .string ys] 27)).alloc (.cells #[.bool bx, .slice p1 l1 c1, .bool by', .slice p2 l2 c2] 40) := ⟨_, rfl⟩
  have hb0 : Hid (Below w.heap.size w w0) := by rw [hw0]; exact ((Below.refl _ _).alloc (Nat.le_refl _) _).alloc (by simp) _
  have I1 : Hid (ZC4 (.bool xb) (.string xs) (.bool yb) (.string ys) w0 w.heap.size) := by rw [hw0]; exact (ZC4.made0 w).next (below_one _ _)
  have R1 : Hid (Rz w0 (.slice p1 l1 c1) x) := Ri.below R1.out hb0.out (Nat.le_refl _)
  have R2 : Hid (Rz w0 (.slice p2 l2 c2) y) := Ri.below R2.out hb0.out (Nat.le_refl _)
  have Hw0 := Lib.hid hw0
  clear hw0
  go_enter Tryz.func14, Tryz.ntmps14
  go_wp2_with fail
  rw [← Hw0.out]
  refine (H_o.out _ _ _ R1.out R2.out).mono ?_
  rintro e wa ⟨rfl, ba⟩
  obtain ⟨⟨k0, k1, k2, k3⟩, _⟩ := I1.out.next ba
  have f1 : w.heap.size < wa.heap.size := World.block_lt_of_cell? wa _ k0
  have f2 : ¬ w.heap.size = wa.heap.size := by omega
  have f3 : ¬ wa.heap.size = w.heap.size := by omega
  have HZ := Lib.hid ((chain hb0.out ba).alloc (chain hb0.out ba).size (.cells #[.bool xb, .string xs, .bool yb, .string ys] 27))
  clear ba
  go_wp2
  go_ret
  exact ⟨rfl, HZ.out⟩

set_option maxRecDepth 100000 in
set_option maxHeartbeats 2000000 in
theorem Ratio_bad1 (a b : Bool) (s t : ByteArray) (w : World) (z1 : s.size ≤ 140737488351232) (z2 : t.size ≤ 140737488351232) (hv1 : vld a s = false) :
    Calls Tryz.prog 9 #[.agg #[.bool a, .string s], .agg #[.bool b, .string t]] w (RPost false ⟨#[]⟩ false ⟨#[]⟩ 2 w) := by
  have HA := Lib.hid (fun w => Valid_any a s w z1)
  rw [hv1] at HA
  unfold BPost at HA
  clear hv1
  obtain ⟨w0, hw0⟩ : ∃ w0 : World, w0 = ((w.alloc (.cells #[.bool a, .string s] 23)).alloc (.cells #[.bool b, .string t] 23)).alloc (.cells #[.bool false, .string ⟨#[]⟩, .bool false, .string ⟨#[]⟩] 27) := ⟨_, rfl⟩
  have hb0 : Hid (Below w.heap.size w w0) := by rw [hw0]; exact (((Below.refl _ _).alloc (Nat.le_refl _) _).alloc (by simp) _).alloc (by simp; omega) _
  have I2 : Hid (ZC (.bool b) (.string t) w0 (w.heap.size + 1)) := by rw [hw0]; exact (ZC.new (by simp)).alloc _
  have I3 : Hid (ZC4 (.bool false) (.string ⟨#[]⟩) (.bool false) (.string ⟨#[]⟩) w0 (w.heap.size + 1 + 1)) := by
    rw [hw0]
    have := ZC4.made0 (x := .bool false) (y := .string ⟨#[]⟩) (z := .bool false) (u := .string ⟨#[]⟩) (t := 27) ((w.alloc (.cells #[.bool a, .string s] 23)).alloc (.cells #[.bool b, .string t] 23))
    show ZC4 _ _ _ _ _ _
    simpa using this
  have Hw0 := Lib.hid hw0
  clear hw0
  unfold RPost rat
  go_enter Tryz.func9, Tryz.ntmps9
  go_wp2_with fail
  rw [← Hw0.out]
  refine (HA.out _).mono ?_
  rintro e wa ⟨rfl, ba⟩
  obtain ⟨k0, k1, _⟩ := I2.out.next ba
  have D := Lib.hid ba
  have HZ := Lib.hid (below_set4 (chain hb0.out ba) (g := w.heap.size + 1 + 1) (by omega) (.bool false) (.string ⟨#[]⟩) (.bool false) (.string ⟨#[]⟩))
  clear ba
  obtain ⟨⟨n0, n1, n2, n3⟩, n4, n5, n6, n7⟩ := I3.out.next D.out
  go_wp2
  exact bodyPost_ret (v := .tuple #[.agg #[.bool false, .string ⟨#[]⟩, .bool false, .string ⟨#[]⟩], .int .i64 2]) (by simp [results, Tryz.results9, go_sem, n0, n1, n2, n3]) rfl ⟨rfl, HZ.out⟩

set_option maxRecDepth 100000 in
set_option maxHeartbeats 2000000 in
theorem Ratio_bad2 (a b : Bool) (s t : ByteArray) (w : World) (z1 : s.size ≤ 140737488351232) (z2 : t.size ≤ 140737488351232) (hv1 : vld a s = true) (hv2 : vld b t = false) :
    Calls Tryz.prog 9 #[.agg #[.bool a, .string s], .agg #[.bool b, .string t]] w (RPost false ⟨#[]⟩ false ⟨#[]⟩ 2 w) := by
  have HA := Lib.hid (fun w => Valid_any a s w z1)
  rw [hv1] at HA
  unfold BPost at HA
  clear hv1
  have HB := Lib.hid (fun w => Valid_any b t w z2)
  rw [hv2] at HB
  unfold BPost at HB
  clear hv2
  obtain ⟨w0, hw0⟩ : ∃ w0 : World, w0 = ((w.alloc (.cells #[.bool a, .string s] 23)).alloc (.cells #[.bool b, .string t] 23)).alloc (.cells #[.bool false, .string ⟨#[]⟩, .bool false, .string ⟨#[]⟩] 27) := ⟨_, rfl⟩
  have hb0 : Hid (Below w.heap.size w w0) := by rw [hw0]; exact (((Below.refl _ _).alloc (Nat.le_refl _) _).alloc (by simp) _).alloc (by simp; omega) _
  have I2 : Hid (ZC (.bool b) (.string t) w0 (w.heap.size + 1)) := by rw [hw0]; exact (ZC.new (by simp)).alloc _
  have I3 : Hid (ZC4 (.bool false) (.string ⟨#[]⟩) (.bool false) (.string ⟨#[]⟩) w0 (w.heap.size + 1 + 1)) := by
    rw [hw0]
    have := ZC4.made0 (x := .bool false) (y := .string ⟨#[]⟩) (z := .bool false) (u := .string ⟨#[]⟩) (t := 27) ((w.alloc (.cells #[.bool a, .string s] 23)).alloc (.cells #[.bool b, .string t] 23))
    show ZC4 _ _ _ _ _ _
    simpa using this
  have Hw0 := Lib.hid hw0
  clear hw0
  unfold RPost rat
  go_enter Tryz.func9, Tryz.ntmps9
  go_wp2_with fail
  rw [← Hw0.out]
  refine (HA.out _).mono ?_
  rintro e wa ⟨rfl, ba⟩
  obtain ⟨k0, k1, _⟩ := I2.out.next ba
  have D := Lib.hid ba
  have HZ := Lib.hid (below_set4 (chain hb0.out ba) (g := w.heap.size + 1 + 1) (by omega) (.bool false) (.string ⟨#[]⟩) (.bool false) (.string ⟨#[]⟩))
  clear ba
  go_wp2_with fail
  refine (HB.out _).mono ?_
  rintro e wb ⟨rfl, bb⟩
  have c := chain D.out bb
  have D := Lib.hid c
  obtain ⟨k0, k1, _⟩ := I2.out.next c
  have HZ := Lib.hid (below_set4 (chain hb0.out c) (g := w.heap.size + 1 + 1) (by omega) (.bool false) (.string ⟨#[]⟩) (.bool false) (.string ⟨#[]⟩))
  clear bb c
  obtain ⟨⟨n0, n1, n2, n3⟩, n4, n5, n6, n7⟩ := I3.out.next D.out
  go_wp2
  exact bodyPost_ret (v := .tuple #[.agg #[.bool false, .string ⟨#[]⟩, .bool false, .string ⟨#[]⟩], .int .i64 2]) (by simp [results, Tryz.results9, go_sem, n0, n1, n2, n3]) rfl ⟨rfl, HZ.out⟩

set_option maxRecDepth 100000 in
set_option maxHeartbeats 2000000 in
theorem Ratio_zero0 (a b : Bool) (s t : ByteArray) (w : World) (z1 : s.size ≤ 140737488351232) (z2 : t.size ≤ 140737488351232) (hv1 : vld a s = true) (hv2 : vld b t = true) (h0 : t = ⟨#[]⟩) :
    Calls Tryz.prog 9 #[.agg #[.bool a, .string s], .agg #[.bool b, .string t]] w (RPost false ⟨#[]⟩ false ⟨#[]⟩ 3 w) := by
  have HA := Lib.hid (fun w => Valid_any a s w z1)
  rw [hv1] at HA
  unfold BPost at HA
  clear hv1
  have HB := Lib.hid (fun w => Valid_any b t w z2)
  rw [hv2] at HB
  unfold BPost at HB
  clear hv2
  subst h0
  obtain ⟨w0, hw0⟩ : ∃ w0 : World, w0 = ((w.alloc (.cells #[.bool a, .string s] 23)).alloc (.cells #[.bool b, .string ⟨#[]⟩] 23)).alloc (.cells #[.bool false, .string ⟨#[]⟩, .bool false, .string ⟨#[]⟩] 27) := ⟨_, rfl⟩
  have hb0 : Hid (Below w.heap.size w w0) := by rw [hw0]; exact (((Below.refl _ _).alloc (Nat.le_refl _) _).alloc (by simp) _).alloc (by simp; omega) _
  have I2 : Hid (ZC (.bool b) (.string ⟨#[]⟩) w0 (w.heap.size + 1)) := by rw [hw0]; exact (ZC.new (by simp)).alloc _
  have I3 : Hid (ZC4 (.bool false) (.string ⟨#[]⟩) (.bool false) (.string ⟨#[]⟩) w0 (w.heap.size + 1 + 1)) := by
    rw [hw0]
    have := ZC4.made0 (x := .bool false) (y := .string ⟨#[]⟩) (z := .bool false) (u := .string ⟨#[]⟩) (t := 27) ((w.alloc (.cells #[.bool a, .string s] 23)).alloc (.cells #[.bool b, .string ⟨#[]⟩] 23))
    show ZC4 _ _ _ _ _ _
    simpa using this
  have Hw0 := Lib.hid hw0
  clear hw0
  unfold RPost rat
  go_enter Tryz.func9, Tryz.ntmps9
  go_wp2_with fail
  rw [← Hw0.out]
  refine (HA.out _).mono ?_
  rintro e wa ⟨rfl, ba⟩
  obtain ⟨k0, k1, _⟩ := I2.out.next ba
  have D := Lib.hid ba
  have HZ := Lib.hid (below_set4 (chain hb0.out ba) (g := w.heap.size + 1 + 1) (by omega) (.bool false) (.string ⟨#[]⟩) (.bool false) (.string ⟨#[]⟩))
  clear ba
  go_wp2_with fail
  refine (HB.out _).mono ?_
  rintro e wb ⟨rfl, bb⟩
  have c := chain D.out bb
  have D := Lib.hid c
  obtain ⟨k0, k1, _⟩ := I2.out.next c
  have HZ := Lib.hid (below_set4 (chain hb0.out c) (g := w.heap.size + 1 + 1) (by omega) (.bool false) (.string ⟨#[]⟩) (.bool false) (.string ⟨#[]⟩))
  clear bb c
  obtain ⟨⟨n0, n1, n2, n3⟩, n4, n5, n6, n7⟩ := I3.out.next D.out
  go_wp2
  exact bodyPost_ret (v := .tuple #[.agg #[.bool false, .string ⟨#[]⟩, .bool false, .string ⟨#[]⟩], .int .i64 3]) (by simp [results, Tryz.results9, go_sem, n0, n1, n2, n3]) rfl ⟨rfl, HZ.out⟩

theorem Ratio_bad (a b : Bool) (s t : ByteArray) (w : World) (z1 : s.size ≤ 140737488351232) (z2 : t.size ≤ 140737488351232) (hv : (vld a s && vld b t) = false) :
    Calls Tryz.prog 9 #[.agg #[.bool a, .string s], .agg #[.bool b, .string t]] w (RPost false ⟨#[]⟩ false ⟨#[]⟩ 2 w) := by
  cases h1 : vld a s with
  | false => exact Ratio_bad1 a b s t w z1 z2 h1
  | true => exact Ratio_bad2 a b s t w z1 z2 h1 (by rw [h1] at hv; simpa using hv)

set_option maxRecDepth 100000 in
set_option maxHeartbeats 2000000 in
theorem RatioOf_zero (x : Int) (w : World) (h1 : -9223372036854775808 ≤ x) (h2 : x ≤ 9223372036854775807) :
    Calls Tryz.prog 10 #[.int .i64 x, .int .i64 0] w (RPost false ⟨#[]⟩ false ⟨#[]⟩ 3 w) := by
  have t1 : x.natAbs < Top := W_Top2 (by unfold W; omega)
  have HX := Lib.hid (fun w => Of_any x w h1 h2)
  have HY := Lib.hid (fun w => Of_any 0 w (by decide) (by decide))
  have hv1 : vld (zb x) (zs x) = true := zb_zs_valid t1
  have HR := Lib.hid (fun w => Ratio_zero0 (zb x) (zb 0) (zs x) (zs 0) w (Nat.le_trans (vld_size hv1) (by decide)) (by decide) hv1 (zb_zs_valid (W_Top2 W0)) (by rw [zs]; exact bs_zero))
  unfold OfPost at HX HY
  unfold RPost rat at *
  have eX : (.agg #[.bool (decide (x < 0)), .string (bs x.natAbs)] : Value) = .agg #[.bool (zb x), .string (zs x)] := rfl
  have eY : (.agg #[.bool (decide ((0 : Int) < 0)), .string (bs (0 : Int).natAbs)] : Value) = .agg #[.bool (zb 0), .string (zs 0)] := rfl
  rw [eX] at HX
  rw [eY] at HY
  clear eX eY hv1 t1 h1 h2
  generalize zb x = xb at *
  generalize zs x = xs at *
  generalize zb 0 = yb at *
  generalize zs 0 = ys at *
  obtain ⟨w0, hw0⟩ : ∃ w0 : World, w0 = w.alloc (.cells #[.bool false, .string ⟨#[]⟩, .bool false, .string ⟨#[]⟩] 27) := ⟨_, rfl⟩
  have hb0 : Hid (Below w.heap.size w w0) := by rw [hw0]; exact below_one _ _
  have I3 : Hid (ZC4 (.bool false) (.string ⟨#[]⟩) (.bool false) (.string ⟨#[]⟩) w0 w.heap.size) := by rw [hw0]; exact ZC4.made0 w
  have Hw0 := Lib.hid hw0
  clear hw0
  go_enter Tryz.func10, Tryz.ntmps10
  go_wp2_with fail
  rw [← Hw0.out]
  refine (HX.out _).mono ?_
  rintro e wa ⟨rfl, ba⟩
  have D := Lib.hid ba
  clear ba
  go_wp2_with fail
  refine (HY.out _).mono ?_
  rintro e wb ⟨rfl, bb⟩
  have D := Lib.hid (chain D.out bb)
  clear bb
  go_wp2_with fail
  refine (HR.out _).mono ?_
  rintro e wc ⟨rfl, bc⟩
  have c := chain D.out bc
  obtain ⟨⟨n0, n1, n2, n3⟩, n4, n5, n6, n7⟩ := I3.out.next c
  have HZ := Lib.hid (below_set4 (chain hb0.out c) (Nat.le_refl w.heap.size) (.bool false) (.string ⟨#[]⟩) (.bool false) (.string ⟨#[]⟩))
  clear bc c
  go_wp2
  exact bodyPost_ret (v := .tuple #[.agg #[.bool false, .string ⟨#[]⟩, .bool false, .string ⟨#[]⟩], .int .i64 3]) (by simp [results, Tryz.results10, go_sem, n0, n1, n2, n3]) rfl ⟨rfl, HZ.out⟩

set_option maxRecDepth 100000 in
set_option maxHeartbeats 2000000 in
theorem Floor_bad (a b : Bool) (s t : ByteArray) (w : World) (z1 : s.size ≤ 140737488351232) (z2 : t.size ≤ 140737488351232) (hv : vldR a s b t = false) :
    Calls Tryz.prog 11 #[rat a s b t] w (WPost (wd false 0) 2 w) := by
  have HA := Lib.hid (fun w => ValidRatio_any a b s t w z1 z2)
  rw [hv] at HA
  unfold BPost at HA
  unfold WPost rat
  rw [wd_none]
  obtain ⟨w0, hw0⟩ : ∃ w0 : World, w0 = (w.alloc (.cells #[.bool a, .string s, .bool b, .string t] 27)).alloc (.cells #[.bool false, .string ⟨#[]⟩] 23) := ⟨_, rfl⟩
  have hb0 : Hid (Below w.heap.size w w0) := by rw [hw0]; exact ((Below.refl _ _).alloc (Nat.le_refl _) _).alloc (by simp) _
  have I3 : Hid (ZC (.bool false) (.string ⟨#[]⟩) w0 (w.heap.size + 1)) := by rw [hw0]; exact ZC.new (by simp)
  have Hw0 := Lib.hid hw0
  clear hw0 hv
  go_enter Tryz.func11, Tryz.ntmps11
  go_wp2_with fail
  rw [← Hw0.out]
  refine (HA.out _).mono ?_
  rintro e wa ⟨rfl, ba⟩
  obtain ⟨n0, n1, n2, n3⟩ := I3.out.next ba
  have HZ := Lib.hid (below_set2 (chain hb0.out ba) (g := w.heap.size + 1) (by omega) (.bool false) (.string ⟨#[]⟩))
  clear ba
  go_wp2
  exact bodyPost_ret (v := .tuple #[.agg #[.bool false, .string ⟨#[]⟩], .int .i64 2]) (by simp [results, Tryz.results11, go_sem, n0, n1]) rfl ⟨rfl, HZ.out⟩
end Go.Proofs.YtlmklhffafcmmaaGreat

/- The law WideFractions: the walk over what its calls give: an argument is not valid. -/
namespace Go.Proofs.YtlmklhffafcmmaaGreat
open Go.RowKit

theorem WL.four (w : World) (a b c d : Bool) (s t r q : ByteArray) (ty : TypeId) : WL (w.alloc (.cells #[.bool a, .string s, .bool b, .string t, .bool c, .string r, .bool d, .string q] ty)) w.heap.size [(a, s), (b, t), (c, r), (d, q)] := by
  intro k hk
  match k, hk with
  | 0, _ => exact ⟨by simp [go_sem], by simp [go_sem]⟩
  | 1, _ => exact ⟨by simp [go_sem], by simp [go_sem]⟩
  | 2, _ => exact ⟨by simp [go_sem], by simp [go_sem]⟩
  | 3, _ => exact ⟨by simp [go_sem], by simp [go_sem]⟩
section
variable {x y z u x' y' z' u' : Value} {w w2 w3 : World} {t : TypeId} {o : Obj} {g g2 : Nat}
theorem ZC4.alloc (h : ZC4 x y z u w g) (o : Obj) : ZC4 x y z u (w.alloc o) g := h.next (below_one w o)
theorem ZC4.new (hg : g = w.heap.size) : ZC4 x y z u (w.alloc (.cells #[x, y, z, u] t)) g := by subst hg; exact ZC4.made0 w
theorem ZC4.made1 (hg : w2.heap.size = g) (b3 : Below ((w2.alloc (.cells #[x, y, z, u] t)).alloc o).heap.size ((w2.alloc (.cells #[x, y, z, u] t)).alloc o) w3) : ZC4 x y z u w3 g := by
  subst hg
  exact ((ZC4.made0 w2).alloc o).next b3
theorem ZC4.other (h : ZC4 x y z u w g) (hn : ¬ g = g2) : ZC4 x y z u ((((w.setCell ⟨g2, 0, none⟩ x').setCell ⟨g2, 1, none⟩ y').setCell ⟨g2, 2, none⟩ z').setCell ⟨g2, 3, none⟩ u') g := by
  obtain ⟨⟨h1, h2, h3, h4⟩, h5, h6, h7, h8⟩ := h
  have hn2 : ¬ g2 = g := fun e => hn e.symm
  refine ⟨⟨?_, ?_, ?_, ?_⟩, ?_, ?_, ?_, ?_⟩ <;> simp [go_sem, h1, h2, h3, h4, h5, h6, h7, h8, hn, hn2]
end
/-- Two ratios of the reference lie in blocks that are new. -/
def CutQ (x1 s1 y1 t1 x2 s2 y2 t2 : Value) (X1 Y1 X2 Y2 : List Nat) (B : Nat) (wb wx : World) (g7 g8 : Nat) : Prop :=
  (B ≤ g7 ∧ B ≤ g8) ∧ ZC4 x1 s1 y1 t1 wx g7 ∧ ZC4 x2 s2 y2 t2 wx g8 ∧ (Ri wx s1 X1 ∧ Ri wx t1 Y1 ∧ Ri wx s2 X2 ∧ Ri wx t2 Y2) ∧ Below B wb wx
def R4 (w : World) (s1 t1 s2 t2 : Value) (X1 Y1 X2 Y2 : List Nat) : Prop := Ri w s1 X1 ∧ Ri w t1 Y1 ∧ Ri w s2 X2 ∧ Ri w t2 Y2
section
variable {x1 s1 y1 t1 x2 s2 y2 t2 : Value} {X1 Y1 X2 Y2 : List Nat} {B : Nat} {wb w3 : World} {t : TypeId} {b0 b1 c0 c1 : Bool} {p p' q q' : Option Addr} {n c n' c' m d m' d' g g' : Nat}
theorem R4.allocd (h : R4 w3 s1 t1 s2 t2 X1 Y1 X2 Y2) (o : Obj) : R4 (w3.alloc o) s1 t1 s2 t2 X1 Y1 X2 Y2 := ⟨h.1.allocd o, h.2.1.allocd o, h.2.2.1.allocd o, h.2.2.2.allocd o⟩
theorem R4.set4 (h : R4 w3 s1 t1 s2 t2 X1 Y1 X2 Y2) (z : ZC4 (.bool b0) (.slice p n c) (.bool b1) (.slice p' n' c') w3 g) (a1 a2 a3 a4 : Value) : R4 ((((w3.setCell ⟨g, 0, none⟩ a1).setCell ⟨g, 1, none⟩ a2).setCell ⟨g, 2, none⟩ a3).setCell ⟨g, 3, none⟩ a4) s1 t1 s2 t2 X1 Y1 X2 Y2 :=
  ⟨h.1.set4 z _ _ _ _, h.2.1.set4 z _ _ _ _, h.2.2.1.set4 z _ _ _ _, h.2.2.2.set4 z _ _ _ _⟩
theorem CutQ.k1 (r : R4 w3 s1 t1 s2 t2 X1 Y1 X2 Y2) (b : Below B wb w3) (hB : B ≤ w3.heap.size) : CutQ x1 s1 y1 t1 x2 s2 y2 t2 X1 Y1 X2 Y2 B wb ((w3.alloc (.cells #[x1, s1, y1, t1] t)).alloc (.cells #[x2, s2, y2, t2] t)) w3.heap.size (w3.heap.size + 1) :=
  ⟨⟨hB, by omega⟩, (ZC4.new rfl).alloc _, ZC4.new (by simp), (r.allocd _).allocd _, (b.alloc hB _).alloc (by simp; omega) _⟩
theorem CutQ.k2 (r : R4 w3 s1 t1 s2 t2 X1 Y1 X2 Y2) (b : Below B wb w3) (hB : B ≤ w3.heap.size) : CutQ x1 s1 y1 t1 x2 s2 y2 t2 X1 Y1 X2 Y2 B wb ((w3.alloc (.cells #[x2, s2, y2, t2] t)).alloc (.cells #[x1, s1, y1, t1] t)) (w3.heap.size + 1) w3.heap.size :=
  ⟨⟨by omega, hB⟩, ZC4.new (by simp), (ZC4.new rfl).alloc _, (r.allocd _).allocd _, (b.alloc hB _).alloc (by simp; omega) _⟩
theorem CutQ.k3 (z : ZC4 (.bool b0) (.slice p n c) (.bool b1) (.slice p' n' c') w3 g) (hg : B ≤ g) (r : R4 w3 s1 t1 s2 t2 X1 Y1 X2 Y2) (b : Below B wb w3) (hB : B ≤ w3.heap.size) :
    CutQ x1 s1 y1 t1 x2 s2 y2 t2 X1 Y1 X2 Y2 B wb (((((w3.setCell ⟨g, 0, none⟩ x1).setCell ⟨g, 1, none⟩ s1).setCell ⟨g, 2, none⟩ y1).setCell ⟨g, 3, none⟩ t1).alloc (.cells #[x2, s2, y2, t2] t)) g w3.heap.size :=
  ⟨⟨hg, hB⟩, z.set.alloc _, ZC4.new (by simp), (r.set4 z _ _ _ _).allocd _, (below_set4 b hg _ _ _ _).alloc (by simpa using hB) _⟩
theorem CutQ.k4 (z : ZC4 (.bool b0) (.slice p n c) (.bool b1) (.slice p' n' c') w3 g) (hg : B ≤ g) (r : R4 w3 s1 t1 s2 t2 X1 Y1 X2 Y2) (b : Below B wb w3) (hB : B ≤ w3.heap.size) :
    CutQ x1 s1 y1 t1 x2 s2 y2 t2 X1 Y1 X2 Y2 B wb (((((w3.setCell ⟨g, 0, none⟩ x2).setCell ⟨g, 1, none⟩ s2).setCell ⟨g, 2, none⟩ y2).setCell ⟨g, 3, none⟩ t2).alloc (.cells #[x1, s1, y1, t1] t)) w3.heap.size g :=
  ⟨⟨hB, hg⟩, ZC4.new (by simp), z.set.alloc _, (r.set4 z _ _ _ _).allocd _, (below_set4 b hg _ _ _ _).alloc (by simpa using hB) _⟩
theorem CutQ.k5 (z : ZC4 (.bool b0) (.slice p n c) (.bool b1) (.slice p' n' c') w3 g) (hg : B ≤ g) (z' : ZC4 (.bool c0) (.slice q m d) (.bool c1) (.slice q' m' d') w3 g') (hg' : B ≤ g') (hn : ¬ g = g') (r : R4 w3 s1 t1 s2 t2 X1 Y1 X2 Y2) (b : Below B wb w3) :
    CutQ x1 s1 y1 t1 x2 s2 y2 t2 X1 Y1 X2 Y2 B wb ((((((((w3.setCell ⟨g, 0, none⟩ x1).setCell ⟨g, 1, none⟩ s1).setCell ⟨g, 2, none⟩ y1).setCell ⟨g, 3, none⟩ t1).setCell ⟨g', 0, none⟩ x2).setCell ⟨g', 1, none⟩ s2).setCell ⟨g', 2, none⟩ y2).setCell ⟨g', 3, none⟩ t2) g g' :=
  have zz := z'.other (x' := x1) (y' := s1) (z' := y1) (u' := t1) (fun e => hn e.symm)
  ⟨⟨hg, hg'⟩, z.set.other hn, zz.set, (r.set4 z _ _ _ _).set4 zz _ _ _ _, below_set4 (below_set4 b hg _ _ _ _) hg' _ _ _ _⟩
end

set_option maxRecDepth 100000 in
set_option maxHeartbeats 8000000 in
theorem fracs_long (a1 b1 a2 b2 : Bool) (s1 t1 s2 t2 : ByteArray) (w : World) (hsh : shortL [(a1, s1), (b1, t1), (a2, s2), (b2, t2)] = false) :
    Calls Tryz.prog 4 #[.agg #[.bool a1, .string s1, .bool b1, .string t1], .agg #[.bool a2, .string s2, .bool b2, .string t2]] w (Ret (.bool true) w) := by
  have H_known := Lib.hid known_true
  obtain ⟨w0, hw0⟩ : ∃ w0 : World, w0 = ((w.alloc (.cells #[.bool a1, .string s1, .bool b1, .string t1] 27)).alloc (.cells #[.bool a2, .string s2, .bool b2, .string t2] 27)).alloc (.cells #[.bool a1, .string s1, .bool b1, .string t1, .bool a2, .string s2, .bool b2, .string t2] 23) := ⟨_, rfl⟩
  have hb0 : Hid (Below w.heap.size w w0) := by rw [hw0]; exact (((Below.refl _ _).alloc (Nat.le_refl _) _).alloc (by simp) _).alloc (by simp; omega) _
  have I1 : Hid (ZC4 (.bool a1) (.string s1) (.bool b1) (.string t1) w0 w.heap.size) := by rw [hw0]; exact ((ZC4.new rfl).alloc _).alloc _
  have I2 : Hid (ZC4 (.bool a2) (.string s2) (.bool b2) (.string t2) w0 (w.heap.size + 1)) := by rw [hw0]; exact (ZC4.new (by simp)).alloc _
  have Hsz : Hid (w.heap.size + 3 ≤ w0.heap.size) := by rw [hw0]; show _ ≤ _; simp
  have HSH := short_any [(a1, s1), (b1, t1), (a2, s2), (b2, t2)] 4 (w.heap.size + 1 + 1) w0 rfl (by decide) (by rw [hw0]; have := WL.four ((w.alloc (.cells #[.bool a1, .string s1, .bool b1, .string t1] 27)).alloc (.cells #[.bool a2, .string s2, .bool b2, .string t2] 27)) a1 b1 a2 b2 s1 t1 s2 t2 23; simpa using this)
  rw [hsh] at HSH
  have HSh := Lib.hid HSH
  have Hw0 := Lib.hid hw0
  clear HSH hw0 hsh
  unfold Ret at *
  unfold BPost at HSh
  go_enter Tryz.func4, Tryz.ntmps4
  go_wp2_with fail
  rw [← Hw0.out]
  refine HSh.out.mono ?_
  rintro e x0 ⟨rfl, b0⟩
  have D := Lib.hid b0
  clear b0
  go_wp2_with fail
  refine (H_known.out _).mono ?_
  rintro e x1 ⟨rfl, b1⟩
  have HZ := Lib.hid (chain hb0.out (chain D.out b1))
  clear b1
  go_wp2
  go_ret
  exact ⟨rfl, HZ.out⟩

set_option maxRecDepth 100000 in
set_option maxHeartbeats 8000000 in
theorem fracs_bad1 (a1 b1 a2 b2 : Bool) (s1 t1 s2 t2 : ByteArray) (w : World) (hsh : shortL [(a1, s1), (b1, t1), (a2, s2), (b2, t2)] = true)
    (h_c : ∀ w, Calls Tryz.prog 22 #[.agg #[.bool a1, .string s1, .bool b1, .string t1], .agg #[.bool a2, .string s2, .bool b2, .string t2]] w fun e w' => e = .returned (.tuple #[.int .i64 0, .int .i64 2]) ∧ Below w.heap.size w w')
    (h_a : ∀ w, Calls Tryz.prog 23 #[.agg #[.bool a1, .string s1, .bool b1, .string t1], .agg #[.bool a2, .string s2, .bool b2, .string t2]] w fun e w' => e = .returned (.tuple #[.agg #[.bool false, .string ⟨#[]⟩, .bool false, .string ⟨#[]⟩], .int .i64 2]) ∧ Below w.heap.size w w')
    (h_s : ∀ w, Calls Tryz.prog 24 #[.agg #[.bool a1, .string s1, .bool b1, .string t1], .agg #[.bool a2, .string s2, .bool b2, .string t2]] w fun e w' => e = .returned (.tuple #[.agg #[.bool false, .string ⟨#[]⟩, .bool false, .string ⟨#[]⟩], .int .i64 2]) ∧ Below w.heap.size w w')
    (h_m : ∀ w, Calls Tryz.prog 25 #[.agg #[.bool a1, .string s1, .bool b1, .string t1], .agg #[.bool a2, .string s2, .bool b2, .string t2]] w fun e w' => e = .returned (.tuple #[.agg #[.bool false, .string ⟨#[]⟩, .bool false, .string ⟨#[]⟩], .int .i64 2]) ∧ Below w.heap.size w w')
    (h_v1 : ∀ w, Calls Tryz.prog 13 #[.agg #[.bool a1, .string s1, .bool b1, .string t1]] w fun e w' => e = .returned (.bool false) ∧ Below w.heap.size w w') :
    Calls Tryz.prog 4 #[.agg #[.bool a1, .string s1, .bool b1, .string t1], .agg #[.bool a2, .string s2, .bool b2, .string t2]] w (Ret (.bool true) w) := by
  have H_c := Lib.hid h_c
  have H_a := Lib.hid h_a
  have H_s := Lib.hid h_s
  have H_m := Lib.hid h_m
  have H_v1 := Lib.hid h_v1
  clear h_c h_a h_s h_m h_v1
  have H_known := Lib.hid known_true
  obtain ⟨w0, hw0⟩ : ∃ w0 : World, w0 = ((w.alloc (.cells #[.bool a1, .string s1, .bool b1, .string t1] 27)).alloc (.cells #[.bool a2, .string s2, .bool b2, .string t2] 27)).alloc (.cells #[.bool a1, .string s1, .bool b1, .string t1, .bool a2, .string s2, .bool b2, .string t2] 23) := ⟨_, rfl⟩
  have hb0 : Hid (Below w.heap.size w w0) := by rw [hw0]; exact (((Below.refl _ _).alloc (Nat.le_refl _) _).alloc (by simp) _).alloc (by simp; omega) _
  have I1 : Hid (ZC4 (.bool a1) (.string s1) (.bool b1) (.string t1) w0 w.heap.size) := by rw [hw0]; exact ((ZC4.new rfl).alloc _).alloc _
  have I2 : Hid (ZC4 (.bool a2) (.string s2) (.bool b2) (.string t2) w0 (w.heap.size + 1)) := by rw [hw0]; exact (ZC4.new (by simp)).alloc _
  have Hsz : Hid (w.heap.size + 3 ≤ w0.heap.size) := by rw [hw0]; show _ ≤ _; simp
  have HSH := short_any [(a1, s1), (b1, t1), (a2, s2), (b2, t2)] 4 (w.heap.size + 1 + 1) w0 rfl (by decide) (by rw [hw0]; have := WL.four ((w.alloc (.cells #[.bool a1, .string s1, .bool b1, .string t1] 27)).alloc (.cells #[.bool a2, .string s2, .bool b2, .string t2] 27)) a1 b1 a2 b2 s1 t1 s2 t2 23; simpa using this)
  rw [hsh] at HSH
  have HSh := Lib.hid HSH
  have Hw0 := Lib.hid hw0
  clear HSH hw0 hsh
  unfold Ret at *
  unfold BPost at HSh
  go_enter Tryz.func4, Tryz.ntmps4
  go_wp2_with fail
  rw [← Hw0.out]
  refine HSh.out.mono ?_
  rintro e x0 ⟨rfl, b0⟩
  have D := Lib.hid b0
  clear b0
  obtain ⟨⟨k0, k1, k2, k3⟩, _⟩ := I1.out.next D.out
  obtain ⟨⟨k4, k5, k6, k7⟩, _⟩ := I2.out.next D.out
  go_wp2_with fail
  refine (H_c.out _).mono ?_
  rintro e y5 ⟨rfl, b9⟩
  have D := Lib.hid (chain D.out b9)
  clear b9
  clear k0 k1 k2 k3 k4 k5 k6 k7
  obtain ⟨⟨k0, k1, k2, k3⟩, _⟩ := I1.out.next D.out
  obtain ⟨⟨k4, k5, k6, k7⟩, _⟩ := I2.out.next D.out
  go_wp2_with fail
  refine (H_a.out _).mono ?_
  rintro e y7 ⟨rfl, b9⟩
  obtain ⟨u7, hu7⟩ : ∃ u : World, u = y7.alloc (.cells #[.bool false, .string ⟨#[]⟩, .bool false, .string ⟨#[]⟩] 27) := ⟨_, rfl⟩
  have E : Hid (Below y5.heap.size y5 u7) := by rw [hu7]; exact b9.alloc b9.size _
  have D := Lib.hid (chain D.out E.out)
  have T7 : Hid (ZC4 (.bool false) (.string ⟨#[]⟩) (.bool false) (.string ⟨#[]⟩) u7 y7.heap.size) := by rw [hu7]; exact ZC4.made0 _
  have Hu7 := Lib.hid hu7
  clear hu7 b9 E
  clear k0 k1 k2 k3 k4 k5 k6 k7
  go_upto_region 5 with (fail)
  rw [← Hu7.out]
  clear Hu7
  obtain ⟨⟨k0, k1, k2, k3⟩, _⟩ := I1.out.next D.out
  obtain ⟨⟨k4, k5, k6, k7⟩, _⟩ := I2.out.next D.out
  go_wp2_with fail
  refine (H_s.out _).mono ?_
  rintro e y9 ⟨rfl, b9⟩
  obtain ⟨u9, hu9⟩ : ∃ u : World, u = y9.alloc (.cells #[.bool false, .string ⟨#[]⟩, .bool false, .string ⟨#[]⟩] 27) := ⟨_, rfl⟩
  have E : Hid (Below u7.heap.size u7 u9) := by rw [hu9]; exact b9.alloc b9.size _
  have D := Lib.hid (chain D.out E.out)
  have T7 := Lib.hid (T7.out.next E.out)
  have T9 : Hid (ZC4 (.bool false) (.string ⟨#[]⟩) (.bool false) (.string ⟨#[]⟩) u9 y9.heap.size) := by rw [hu9]; exact ZC4.made0 _
  have Hu9 := Lib.hid hu9
  clear hu9 b9 E
  clear k0 k1 k2 k3 k4 k5 k6 k7
  go_upto_region 6 with (fail)
  rw [← Hu9.out]
  clear Hu9
  obtain ⟨⟨k0, k1, k2, k3⟩, _⟩ := I1.out.next D.out
  obtain ⟨⟨k4, k5, k6, k7⟩, _⟩ := I2.out.next D.out
  go_wp2_with fail
  refine (H_m.out _).mono ?_
  rintro e y11 ⟨rfl, b9⟩
  obtain ⟨u11, hu11⟩ : ∃ u : World, u = y11.alloc (.cells #[.bool false, .string ⟨#[]⟩, .bool false, .string ⟨#[]⟩] 27) := ⟨_, rfl⟩
  have E : Hid (Below u9.heap.size u9 u11) := by rw [hu11]; exact b9.alloc b9.size _
  have D := Lib.hid (chain D.out E.out)
  have T7 := Lib.hid (T7.out.next E.out)
  have T9 := Lib.hid (T9.out.next E.out)
  have T11 : Hid (ZC4 (.bool false) (.string ⟨#[]⟩) (.bool false) (.string ⟨#[]⟩) u11 y11.heap.size) := by rw [hu11]; exact ZC4.made0 _
  have Hu11 := Lib.hid hu11
  clear hu11 b9 E
  clear k0 k1 k2 k3 k4 k5 k6 k7
  go_upto_region 7 with (fail)
  rw [← Hu11.out]
  clear Hu11
  obtain ⟨⟨k0, k1, k2, k3⟩, _⟩ := I1.out.next D.out
  obtain ⟨⟨k4, k5, k6, k7⟩, _⟩ := I2.out.next D.out
  go_wp2_with fail
  refine (H_v1.out _).mono ?_
  rintro e yv ⟨rfl, b9⟩
  have E := Lib.hid b9
  have D := Lib.hid (chain D.out E.out)
  have T7 := Lib.hid (T7.out.next E.out)
  have T9 := Lib.hid (T9.out.next E.out)
  have T11 := Lib.hid (T11.out.next E.out)
  clear b9 E
  clear k0 k1 k2 k3 k4 k5 k6 k7
  obtain ⟨u13, hu13⟩ : ∃ u : World, u = yv.alloc (.cells #[.bool false, .string ⟨#[]⟩, .bool false, .string ⟨#[]⟩] 27) := ⟨_, rfl⟩
  have E : Hid (Below yv.heap.size yv u13) := by rw [hu13]; exact below_one _ _
  have D := Lib.hid (chain D.out E.out)
  have T7 := Lib.hid (T7.out.next E.out)
  have T9 := Lib.hid (T9.out.next E.out)
  have T11 := Lib.hid (T11.out.next E.out)
  have T13 : Hid (ZC4 (.bool false) (.string ⟨#[]⟩) (.bool false) (.string ⟨#[]⟩) u13 yv.heap.size) := by rw [hu13]; exact ZC4.made0 _
  have Hu13 := Lib.hid hu13
  clear hu13 E
  go_upto_region 9 with (fail)
  rw [← Hu13.out]
  clear Hu13
  obtain ⟨⟨k7a, k7b, k7c, k7d⟩, _⟩ := T7.out
  obtain ⟨⟨k9a, k9b, k9c, k9d⟩, _⟩ := T9.out
  obtain ⟨⟨k11a, k11b, k11c, k11d⟩, _⟩ := T11.out
  obtain ⟨⟨k13a, k13b, k13c, k13d⟩, _⟩ := T13.out
  go_wp2_with fail
  refine (H_known.out _).mono ?_
  rintro e x1 ⟨rfl, b1⟩
  have HZ := Lib.hid (chain hb0.out (chain D.out b1))
  clear b1
  go_wp2
  go_ret
  exact ⟨rfl, HZ.out⟩

set_option maxRecDepth 100000 in
set_option maxHeartbeats 8000000 in
theorem fracs_bad2 (a1 b1 a2 b2 : Bool) (s1 t1 s2 t2 : ByteArray) (w : World) (hsh : shortL [(a1, s1), (b1, t1), (a2, s2), (b2, t2)] = true)
    (h_c : ∀ w, Calls Tryz.prog 22 #[.agg #[.bool a1, .string s1, .bool b1, .string t1], .agg #[.bool a2, .string s2, .bool b2, .string t2]] w fun e w' => e = .returned (.tuple #[.int .i64 0, .int .i64 2]) ∧ Below w.heap.size w w')
    (h_a : ∀ w, Calls Tryz.prog 23 #[.agg #[.bool a1, .string s1, .bool b1, .string t1], .agg #[.bool a2, .string s2, .bool b2, .string t2]] w fun e w' => e = .returned (.tuple #[.agg #[.bool false, .string ⟨#[]⟩, .bool false, .string ⟨#[]⟩], .int .i64 2]) ∧ Below w.heap.size w w')
    (h_s : ∀ w, Calls Tryz.prog 24 #[.agg #[.bool a1, .string s1, .bool b1, .string t1], .agg #[.bool a2, .string s2, .bool b2, .string t2]] w fun e w' => e = .returned (.tuple #[.agg #[.bool false, .string ⟨#[]⟩, .bool false, .string ⟨#[]⟩], .int .i64 2]) ∧ Below w.heap.size w w')
    (h_m : ∀ w, Calls Tryz.prog 25 #[.agg #[.bool a1, .string s1, .bool b1, .string t1], .agg #[.bool a2, .string s2, .bool b2, .string t2]] w fun e w' => e = .returned (.tuple #[.agg #[.bool false, .string ⟨#[]⟩, .bool false, .string ⟨#[]⟩], .int .i64 2]) ∧ Below w.heap.size w w')
    (h_v1 : ∀ w, Calls Tryz.prog 13 #[.agg #[.bool a1, .string s1, .bool b1, .string t1]] w fun e w' => e = .returned (.bool true) ∧ Below w.heap.size w w')
    (h_v2 : ∀ w, Calls Tryz.prog 13 #[.agg #[.bool a2, .string s2, .bool b2, .string t2]] w fun e w' => e = .returned (.bool false) ∧ Below w.heap.size w w') :
    Calls Tryz.prog 4 #[.agg #[.bool a1, .string s1, .bool b1, .string t1], .agg #[.bool a2, .string s2, .bool b2, .string t2]] w (Ret (.bool true) w) := by
  have H_c := Lib.hid h_c
  have H_a := Lib.hid h_a
  have H_s := Lib.hid h_s
  have H_m := Lib.hid h_m
  have H_v1 := Lib.hid h_v1
  have H_v2 := Lib.hid h_v2
  clear h_c h_a h_s h_m h_v1 h_v2
  have H_known := Lib.hid known_true
  obtain ⟨w0, hw0⟩ : ∃ w0 : World, w0 = ((w.alloc (.cells #[.bool a1, .string s1, .bool b1, .string t1] 27)).alloc (.cells #[.bool a2, .string s2, .bool b2, .string t2] 27)).alloc (.cells #[.bool a1, .string s1, .bool b1, .string t1, .bool a2, .string s2, .bool b2, .string t2] 23) := ⟨_, rfl⟩
  have hb0 : Hid (Below w.heap.size w w0) := by rw [hw0]; exact (((Below.refl _ _).alloc (Nat.le_refl _) _).alloc (by simp) _).alloc (by simp; omega) _
  have I1 : Hid (ZC4 (.bool a1) (.string s1) (.bool b1) (.string t1) w0 w.heap.size) := by rw [hw0]; exact ((ZC4.new rfl).alloc _).alloc _
  have I2 : Hid (ZC4 (.bool a2) (.string s2) (.bool b2) (.string t2) w0 (w.heap.size + 1)) := by rw [hw0]; exact (ZC4.new (by simp)).alloc _
  have Hsz : Hid (w.heap.size + 3 ≤ w0.heap.size) := by rw [hw0]; show _ ≤ _; simp
  have HSH := short_any [(a1, s1), (b1, t1), (a2, s2), (b2, t2)] 4 (w.heap.size + 1 + 1) w0 rfl (by decide) (by rw [hw0]; have := WL.four ((w.alloc (.cells #[.bool a1, .string s1, .bool b1, .string t1] 27)).alloc (.cells #[.bool a2, .string s2, .bool b2, .string t2] 27)) a1 b1 a2 b2 s1 t1 s2 t2 23; simpa using this)
  rw [hsh] at HSH
  have HSh := Lib.hid HSH
  have Hw0 := Lib.hid hw0
  clear HSH hw0 hsh
  unfold Ret at *
  unfold BPost at HSh
  go_enter Tryz.func4, Tryz.ntmps4
  go_wp2_with fail
  rw [← Hw0.out]
  refine HSh.out.mono ?_
  rintro e x0 ⟨rfl, b0⟩
  have D := Lib.hid b0
  clear b0
  obtain ⟨⟨k0, k1, k2, k3⟩, _⟩ := I1.out.next D.out
  obtain ⟨⟨k4, k5, k6, k7⟩, _⟩ := I2.out.next D.out
  go_wp2_with fail
  refine (H_c.out _).mono ?_
  rintro e y5 ⟨rfl, b9⟩
  have D := Lib.hid (chain D.out b9)
  clear b9
  clear k0 k1 k2 k3 k4 k5 k6 k7
  obtain ⟨⟨k0, k1, k2, k3⟩, _⟩ := I1.out.next D.out
  obtain ⟨⟨k4, k5, k6, k7⟩, _⟩ := I2.out.next D.out
  go_wp2_with fail
  refine (H_a.out _).mono ?_
  rintro e y7 ⟨rfl, b9⟩
  obtain ⟨u7, hu7⟩ : ∃ u : World, u = y7.alloc (.cells #[.bool false, .string ⟨#[]⟩, .bool false, .string ⟨#[]⟩] 27) := ⟨_, rfl⟩
  have E : Hid (Below y5.heap.size y5 u7) := by rw [hu7]; exact b9.alloc b9.size _
  have D := Lib.hid (chain D.out E.out)
  have T7 : Hid (ZC4 (.bool false) (.string ⟨#[]⟩) (.bool false) (.string ⟨#[]⟩) u7 y7.heap.size) := by rw [hu7]; exact ZC4.made0 _
  have Hu7 := Lib.hid hu7
  clear hu7 b9 E
  clear k0 k1 k2 k3 k4 k5 k6 k7
  go_upto_region 5 with (fail)
  rw [← Hu7.out]
  clear Hu7
  obtain ⟨⟨k0, k1, k2, k3⟩, _⟩ := I1.out.next D.out
  obtain ⟨⟨k4, k5, k6, k7⟩, _⟩ := I2.out.next D.out
  go_wp2_with fail
  refine (H_s.out _).mono ?_
  rintro e y9 ⟨rfl, b9⟩
  obtain ⟨u9, hu9⟩ : ∃ u : World, u = y9.alloc (.cells #[.bool false, .string ⟨#[]⟩, .bool false, .string ⟨#[]⟩] 27) := ⟨_, rfl⟩
  have E : Hid (Below u7.heap.size u7 u9) := by rw [hu9]; exact b9.alloc b9.size _
  have D := Lib.hid (chain D.out E.out)
  have T7 := Lib.hid (T7.out.next E.out)
  have T9 : Hid (ZC4 (.bool false) (.string ⟨#[]⟩) (.bool false) (.string ⟨#[]⟩) u9 y9.heap.size) := by rw [hu9]; exact ZC4.made0 _
  have Hu9 := Lib.hid hu9
  clear hu9 b9 E
  clear k0 k1 k2 k3 k4 k5 k6 k7
  go_upto_region 6 with (fail)
  rw [← Hu9.out]
  clear Hu9
  obtain ⟨⟨k0, k1, k2, k3⟩, _⟩ := I1.out.next D.out
  obtain ⟨⟨k4, k5, k6, k7⟩, _⟩ := I2.out.next D.out
  go_wp2_with fail
  refine (H_m.out _).mono ?_
  rintro e y11 ⟨rfl, b9⟩
  obtain ⟨u11, hu11⟩ : ∃ u : World, u = y11.alloc (.cells #[.bool false, .string ⟨#[]⟩, .bool false, .string ⟨#[]⟩] 27) := ⟨_, rfl⟩
  have E : Hid (Below u9.heap.size u9 u11) := by rw [hu11]; exact b9.alloc b9.size _
  have D := Lib.hid (chain D.out E.out)
  have T7 := Lib.hid (T7.out.next E.out)
  have T9 := Lib.hid (T9.out.next E.out)
  have T11 : Hid (ZC4 (.bool false) (.string ⟨#[]⟩) (.bool false) (.string ⟨#[]⟩) u11 y11.heap.size) := by rw [hu11]; exact ZC4.made0 _
  have Hu11 := Lib.hid hu11
  clear hu11 b9 E
  clear k0 k1 k2 k3 k4 k5 k6 k7
  go_upto_region 7 with (fail)
  rw [← Hu11.out]
  clear Hu11
  obtain ⟨⟨k0, k1, k2, k3⟩, _⟩ := I1.out.next D.out
  obtain ⟨⟨k4, k5, k6, k7⟩, _⟩ := I2.out.next D.out
  go_wp2_with fail
  refine (H_v1.out _).mono ?_
  rintro e yv ⟨rfl, b9⟩
  have E := Lib.hid b9
  have D := Lib.hid (chain D.out E.out)
  have T7 := Lib.hid (T7.out.next E.out)
  have T9 := Lib.hid (T9.out.next E.out)
  have T11 := Lib.hid (T11.out.next E.out)
  clear b9 E
  clear k0 k1 k2 k3 k4 k5 k6 k7
  obtain ⟨⟨k0, k1, k2, k3⟩, _⟩ := I1.out.next D.out
  obtain ⟨⟨k4, k5, k6, k7⟩, _⟩ := I2.out.next D.out
  go_wp2_with fail
  refine (H_v2.out _).mono ?_
  rintro e yv ⟨rfl, b9⟩
  have E := Lib.hid b9
  have D := Lib.hid (chain D.out E.out)
  have T7 := Lib.hid (T7.out.next E.out)
  have T9 := Lib.hid (T9.out.next E.out)
  have T11 := Lib.hid (T11.out.next E.out)
  clear b9 E
  clear k0 k1 k2 k3 k4 k5 k6 k7
  obtain ⟨u13, hu13⟩ : ∃ u : World, u = yv.alloc (.cells #[.bool false, .string ⟨#[]⟩, .bool false, .string ⟨#[]⟩] 27) := ⟨_, rfl⟩
  have E : Hid (Below yv.heap.size yv u13) := by rw [hu13]; exact below_one _ _
  have D := Lib.hid (chain D.out E.out)
  have T7 := Lib.hid (T7.out.next E.out)
  have T9 := Lib.hid (T9.out.next E.out)
  have T11 := Lib.hid (T11.out.next E.out)
  have T13 : Hid (ZC4 (.bool false) (.string ⟨#[]⟩) (.bool false) (.string ⟨#[]⟩) u13 yv.heap.size) := by rw [hu13]; exact ZC4.made0 _
  have Hu13 := Lib.hid hu13
  clear hu13 E
  go_upto_region 9 with (fail)
  rw [← Hu13.out]
  clear Hu13
  obtain ⟨⟨k7a, k7b, k7c, k7d⟩, _⟩ := T7.out
  obtain ⟨⟨k9a, k9b, k9c, k9d⟩, _⟩ := T9.out
  obtain ⟨⟨k11a, k11b, k11c, k11d⟩, _⟩ := T11.out
  obtain ⟨⟨k13a, k13b, k13c, k13d⟩, _⟩ := T13.out
  go_wp2_with fail
  refine (H_known.out _).mono ?_
  rintro e x1 ⟨rfl, b1⟩
  have HZ := Lib.hid (chain hb0.out (chain D.out b1))
  clear b1
  go_wp2
  go_ret
  exact ⟨rfl, HZ.out⟩
end Go.Proofs.YtlmklhffafcmmaaGreat

/- The law WideFractions: the walk over what its calls give: both are valid. -/
namespace Go.Proofs.YtlmklhffafcmmaaGreat
open Go.RowKit

set_option maxRecDepth 100000 in
set_option maxHeartbeats 8000000 in
theorem fracs_good (a1 b1 a2 b2 : Bool) (s1 t1 s2 t2 : ByteArray) (w : World) (hsh : shortL [(a1, s1), (b1, t1), (a2, s2), (b2, t2)] = true) (cc : Int) (X1 Y1 X2 Y2 P1 P2 S1 S2 M1 M2 : Int) (xa xb ya yb za zb9 : Bool) (sa sb ta tb ua ub : ByteArray)
    (h_c : ∀ w, Calls Tryz.prog 22 #[.agg #[.bool a1, .string s1, .bool b1, .string t1], .agg #[.bool a2, .string s2, .bool b2, .string t2]] w fun e w' => e = .returned (.tuple #[.int .i64 cc, .int .i64 0]) ∧ Below w.heap.size w w')
    (h_a : ∀ w, Calls Tryz.prog 23 #[.agg #[.bool a1, .string s1, .bool b1, .string t1], .agg #[.bool a2, .string s2, .bool b2, .string t2]] w fun e w' => e = .returned (.tuple #[.agg #[.bool xa, .string sa, .bool xb, .string sb], .int .i64 0]) ∧ Below w.heap.size w w')
    (h_s : ∀ w, Calls Tryz.prog 24 #[.agg #[.bool a1, .string s1, .bool b1, .string t1], .agg #[.bool a2, .string s2, .bool b2, .string t2]] w fun e w' => e = .returned (.tuple #[.agg #[.bool ya, .string ta, .bool yb, .string tb], .int .i64 0]) ∧ Below w.heap.size w w')
    (h_m : ∀ w, Calls Tryz.prog 25 #[.agg #[.bool a1, .string s1, .bool b1, .string t1], .agg #[.bool a2, .string s2, .bool b2, .string t2]] w fun e w' => e = .returned (.tuple #[.agg #[.bool za, .string ua, .bool zb9, .string ub], .int .i64 0]) ∧ Below w.heap.size w w')
    (h_v1 : ∀ w, Calls Tryz.prog 13 #[.agg #[.bool a1, .string s1, .bool b1, .string t1]] w fun e w' => e = .returned (.bool true) ∧ Below w.heap.size w w')
    (h_v2 : ∀ w, Calls Tryz.prog 13 #[.agg #[.bool a2, .string s2, .bool b2, .string t2]] w fun e w' => e = .returned (.bool true) ∧ Below w.heap.size w w')
    (h_f1 : ∀ w, Calls Tryz.prog 26 #[.agg #[.bool a1, .string s1, .bool b1, .string t1]] w (RQPost X1 Y1 w))
    (h_f2 : ∀ w, Calls Tryz.prog 26 #[.agg #[.bool a2, .string s2, .bool b2, .string t2]] w (RQPost X2 Y2 w))
    (h_cq : ∀ v1 v2 v3 v4 w, Rz w v1 X1 → Rz w v2 Y1 → Rz w v3 X2 → Rz w v4 Y2 → Calls Tryz.prog 27 #[qV X1 Y1 v1 v2, qV X2 Y2 v3 v4] w (SignPost cc w))
    (h_aq : ∀ v1 v2 v3 v4 w, Rz w v1 X1 → Rz w v2 Y1 → Rz w v3 X2 → Rz w v4 Y2 → Calls Tryz.prog 28 #[qV X1 Y1 v1 v2, qV X2 Y2 v3 v4] w (RQPost P1 P2 w))
    (h_sq : ∀ v1 v2 v3 v4 w, Rz w v1 X1 → Rz w v2 Y1 → Rz w v3 X2 → Rz w v4 Y2 → Calls Tryz.prog 29 #[qV X1 Y1 v1 v2, qV X2 Y2 v3 v4] w (RQPost S1 S2 w))
    (h_mq : ∀ v1 v2 v3 v4 w, Rz w v1 X1 → Rz w v2 Y1 → Rz w v3 X2 → Rz w v4 Y2 → Calls Tryz.prog 30 #[qV X1 Y1 v1 v2, qV X2 Y2 v3 v4] w (RQPost M1 M2 w))
    (h_sa : ∀ v1 v2 w, Rz w v1 P1 → Rz w v2 P2 → Calls Tryz.prog 14 #[.agg #[.bool xa, .string sa, .bool xb, .string sb], .int .i64 0, qV P1 P2 v1 v2] w fun e w' => e = .returned (.bool true) ∧ Below w.heap.size w w')
    (h_ss : ∀ v1 v2 w, Rz w v1 S1 → Rz w v2 S2 → Calls Tryz.prog 14 #[.agg #[.bool ya, .string ta, .bool yb, .string tb], .int .i64 0, qV S1 S2 v1 v2] w fun e w' => e = .returned (.bool true) ∧ Below w.heap.size w w')
    (h_sm : ∀ v1 v2 w, Rz w v1 M1 → Rz w v2 M2 → Calls Tryz.prog 14 #[.agg #[.bool za, .string ua, .bool zb9, .string ub], .int .i64 0, qV M1 M2 v1 v2] w fun e w' => e = .returned (.bool true) ∧ Below w.heap.size w w') :
    Calls Tryz.prog 4 #[.agg #[.bool a1, .string s1, .bool b1, .string t1], .agg #[.bool a2, .string s2, .bool b2, .string t2]] w (Ret (.bool true) w) := by
  have H_c := Lib.hid h_c
  have H_a := Lib.hid h_a
  have H_s := Lib.hid h_s
  have H_m := Lib.hid h_m
  have H_v1 := Lib.hid h_v1
  have H_v2 := Lib.hid h_v2
  have H_f1 := Lib.hid h_f1
  have H_f2 := Lib.hid h_f2
  have H_cq := Lib.hid h_cq
  have H_aq := Lib.hid h_aq
  have H_sq := Lib.hid h_sq
  have H_mq := Lib.hid h_mq
  have H_sa := Lib.hid h_sa
  have H_ss := Lib.hid h_ss
  have H_sm := Lib.hid h_sm
  clear h_c h_a h_s h_m h_v1 h_v2 h_f1 h_f2 h_cq h_aq h_sq h_mq h_sa h_ss h_sm
  unfold RQPost at H_f1 H_f2 H_aq H_sq H_mq
  unfold SignPost at H_cq
  unfold qV at H_f1 H_f2 H_cq H_aq H_sq H_mq H_sa H_ss H_sm
  generalize decide (X1 < 0) = bx1 at *
  generalize decide (Y1 < 0) = by1 at *
  generalize decide (X2 < 0) = bx2 at *
  generalize decide (Y2 < 0) = by2 at *
  generalize decide (P1 < 0) = bp1 at *
  generalize decide (P2 < 0) = bp2 at *
  generalize decide (S1 < 0) = bs1 at *
  generalize decide (S2 < 0) = bs2 at *
  generalize decide (M1 < 0) = bm1 at *
  generalize decide (M2 < 0) = bm2 at *
  have H_known := Lib.hid known_true
  obtain ⟨w0, hw0⟩ : ∃ w0 : World, w0 = ((w.alloc (.cells #[.bool a1, .string s1, .bool b1, .string t1] 27)).alloc (.cells #[.bool a2, .string s2, .bool b2, .string t2] 27)).alloc (.cells #[.bool a1, .string s1, .bool b1, .string t1, .bool a2, .string s2, .bool b2, .string t2] 23) := ⟨_, rfl⟩
  have hb0 : Hid (Below w.heap.size w w0) := by rw [hw0]; exact (((Below.refl _ _).alloc (Nat.le_refl _) _).alloc (by simp) _).alloc (by simp; omega) _
  have I1 : Hid (ZC4 (.bool a1) (.string s1) (.bool b1) (.string t1) w0 w.heap.size) := by rw [hw0]; exact ((ZC4.new rfl).alloc _).alloc _
  have I2 : Hid (ZC4 (.bool a2) (.string s2) (.bool b2) (.string t2) w0 (w.heap.size + 1)) := by rw [hw0]; exact (ZC4.new (by simp)).alloc _
  have Hsz : Hid (w.heap.size + 3 ≤ w0.heap.size) := by rw [hw0]; show _ ≤ _; simp
  have HSH := short_any [(a1, s1), (b1, t1), (a2, s2), (b2, t2)] 4 (w.heap.size + 1 + 1) w0 rfl (by decide) (by rw [hw0]; have := WL.four ((w.alloc (.cells #[.bool a1, .string s1, .bool b1, .string t1] 27)).alloc (.cells #[.bool a2, .string s2, .bool b2, .string t2] 27)) a1 b1 a2 b2 s1 t1 s2 t2 23; simpa using this)
  rw [hsh] at HSH
  have HSh := Lib.hid HSH
  have Hw0 := Lib.hid hw0
  clear HSH hw0 hsh
  unfold Ret at *
  unfold BPost at HSh
  go_enter Tryz.func4, Tryz.ntmps4
  go_wp2_with fail
  rw [← Hw0.out]
  refine HSh.out.mono ?_
  rintro e x0 ⟨rfl, b0⟩
  have D := Lib.hid b0
  clear b0
  obtain ⟨⟨k0, k1, k2, k3⟩, _⟩ := I1.out.next D.out
  obtain ⟨⟨k4, k5, k6, k7⟩, _⟩ := I2.out.next D.out
  go_wp2_with fail
  refine (H_c.out _).mono ?_
  rintro e y5 ⟨rfl, b9⟩
  have D := Lib.hid (chain D.out b9)
  clear b9
  clear k0 k1 k2 k3 k4 k5 k6 k7
  obtain ⟨⟨k0, k1, k2, k3⟩, _⟩ := I1.out.next D.out
  obtain ⟨⟨k4, k5, k6, k7⟩, _⟩ := I2.out.next D.out
  go_wp2_with fail
  refine (H_a.out _).mono ?_
  rintro e y7 ⟨rfl, b9⟩
  obtain ⟨u7, hu7⟩ : ∃ u : World, u = y7.alloc (.cells #[.bool xa, .string sa, .bool xb, .string sb] 27) := ⟨_, rfl⟩
  have E : Hid (Below y5.heap.size y5 u7) := by rw [hu7]; exact b9.alloc b9.size _
  have D := Lib.hid (chain D.out E.out)
  have T7 : Hid (ZC4 (.bool xa) (.string sa) (.bool xb) (.string sb) u7 y7.heap.size) := by rw [hu7]; exact ZC4.made0 _
  have Hu7 := Lib.hid hu7
  clear hu7 b9 E
  clear k0 k1 k2 k3 k4 k5 k6 k7
  go_upto_region 5 with (fail)
  rw [← Hu7.out]
  clear Hu7
  obtain ⟨⟨k0, k1, k2, k3⟩, _⟩ := I1.out.next D.out
  obtain ⟨⟨k4, k5, k6, k7⟩, _⟩ := I2.out.next D.out
  go_wp2_with fail
  refine (H_s.out _).mono ?_
  rintro e y9 ⟨rfl, b9⟩
  obtain ⟨u9, hu9⟩ : ∃ u : World, u = y9.alloc (.cells #[.bool ya, .string ta, .bool yb, .string tb] 27) := ⟨_, rfl⟩
  have E : Hid (Below u7.heap.size u7 u9) := by rw [hu9]; exact b9.alloc b9.size _
  have D := Lib.hid (chain D.out E.out)
  have T7 := Lib.hid (T7.out.next E.out)
  have T9 : Hid (ZC4 (.bool ya) (.string ta) (.bool yb) (.string tb) u9 y9.heap.size) := by rw [hu9]; exact ZC4.made0 _
  have Hu9 := Lib.hid hu9
  clear hu9 b9 E
  clear k0 k1 k2 k3 k4 k5 k6 k7
  go_upto_region 6 with (fail)
  rw [← Hu9.out]
  clear Hu9
  obtain ⟨⟨k0, k1, k2, k3⟩, _⟩ := I1.out.next D.out
  obtain ⟨⟨k4, k5, k6, k7⟩, _⟩ := I2.out.next D.out
  go_wp2_with fail
  refine (H_m.out _).mono ?_
  rintro e y11 ⟨rfl, b9⟩
  obtain ⟨u11, hu11⟩ : ∃ u : World, u = y11.alloc (.cells #[.bool za, .string ua, .bool zb9, .string ub] 27) := ⟨_, rfl⟩
  have E : Hid (Below u9.heap.size u9 u11) := by rw [hu11]; exact b9.alloc b9.size _
  have D := Lib.hid (chain D.out E.out)
  have T7 := Lib.hid (T7.out.next E.out)
  have T9 := Lib.hid (T9.out.next E.out)
  have T11 : Hid (ZC4 (.bool za) (.string ua) (.bool zb9) (.string ub) u11 y11.heap.size) := by rw [hu11]; exact ZC4.made0 _
  have Hu11 := Lib.hid hu11
  clear hu11 b9 E
  clear k0 k1 k2 k3 k4 k5 k6 k7
  go_upto_region 7 with (fail)
  rw [← Hu11.out]
  clear Hu11
  obtain ⟨⟨k0, k1, k2, k3⟩, _⟩ := I1.out.next D.out
  obtain ⟨⟨k4, k5, k6, k7⟩, _⟩ := I2.out.next D.out
  go_wp2_with fail
  refine (H_v1.out _).mono ?_
  rintro e yv ⟨rfl, b9⟩
  have E := Lib.hid b9
  have D := Lib.hid (chain D.out E.out)
  have T7 := Lib.hid (T7.out.next E.out)
  have T9 := Lib.hid (T9.out.next E.out)
  have T11 := Lib.hid (T11.out.next E.out)
  clear b9 E
  clear k0 k1 k2 k3 k4 k5 k6 k7
  obtain ⟨⟨k0, k1, k2, k3⟩, _⟩ := I1.out.next D.out
  obtain ⟨⟨k4, k5, k6, k7⟩, _⟩ := I2.out.next D.out
  go_wp2_with fail
  refine (H_v2.out _).mono ?_
  rintro e yv ⟨rfl, b9⟩
  have E := Lib.hid b9
  have D := Lib.hid (chain D.out E.out)
  have T7 := Lib.hid (T7.out.next E.out)
  have T9 := Lib.hid (T9.out.next E.out)
  have T11 := Lib.hid (T11.out.next E.out)
  clear b9 E
  clear k0 k1 k2 k3 k4 k5 k6 k7
  obtain ⟨⟨k0, k1, k2, k3⟩, _⟩ := I1.out.next D.out
  obtain ⟨⟨k4, k5, k6, k7⟩, _⟩ := I2.out.next D.out
  have HSB : Hid (w.heap.size + 3 ≤ yv.heap.size) := Nat.le_trans Hsz.out D.out.size
  go_upto_region 10 with (fail)
  obtain ⟨jba, jbb, jbc, jbd, jbe, jbf, jbg, jbh⟩ := far7 HSB.out
  go_cut [14, 15] (fun s7 s8 wx => ∃ (g7 g8 : Nat) (y1 y2 y3 y4 : Option Addr) (n1 c1 n2 c2 n3 c3 n4 c4 : Nat), s7 = .pointer (some ⟨g7, 0, none⟩) ∧ s8 = .pointer (some ⟨g8, 0, none⟩) ∧ Hid (CutQ (.bool bx1) (.slice y1 n1 c1) (.bool by1) (.slice y2 n2 c2) (.bool bx2) (.slice y3 n3 c3) (.bool by2) (.slice y4 n4 c4) (Nm.dg D9 X1.natAbs) (Nm.dg D9 Y1.natAbs) (Nm.dg D9 X2.natAbs) (Nm.dg D9 Y2.natAbs) yv.heap.size yv wx g7 g8))
  case first =>
    rename_i J0 K0 hRJ hMK
    go_region_held3 (fun W' => W'.cell? ⟨w.heap.size, 0, none⟩ = some (.bool a1) ∧ W'.cell? ⟨w.heap.size, 1, none⟩ = some (.string s1) ∧ W'.cell? ⟨w.heap.size, 2, none⟩ = some (.bool b1) ∧ W'.cell? ⟨w.heap.size, 3, none⟩ = some (.string t1) ∧ W'.cell? ⟨w.heap.size + 1, 0, none⟩ = some (.bool a2) ∧ W'.cell? ⟨w.heap.size + 1, 1, none⟩ = some (.string s2) ∧ W'.cell? ⟨w.heap.size + 1, 2, none⟩ = some (.bool b2) ∧ W'.cell? ⟨w.heap.size + 1, 3, none⟩ = some (.string t2)) (go_keep)
      (first
        | (go_at_call 26; (with_reducible refine (H_f1.out _).mono ?_); rintro e w1 ⟨v1, x1, rfl, r1, q1, b1⟩; (try (have b1 := undrew b1)); have d1 : Below yv.heap.size yv w1 := chain (by first | exact Below.refl _ _ | exact (Below.refl _ _).drew | exact below_one _ _ | exact below_two _ _ _ | exact ((Below.refl _ _).drew).alloc (Nat.le_refl _) _ | exact (((Below.refl _ _).drew).alloc (Nat.le_refl _) _).alloc (by simp) _) b1; have c1 : Below yv.heap.size yv w1 := d1; have p0 := keep1 c1 k0; have p1 := keep1 c1 k1; have p2 := keep1 c1 k2; have p3 := keep1 c1 k3; have p4 := keep1 c1 k4; have p5 := keep1 c1 k5; have p6 := keep1 c1 k6; have p7 := keep1 c1 k7; obtain ⟨j1a, j1b, j1c, j1d, j1e, j1f, j1g, j1h⟩ := far7 (show w.heap.size + 3 ≤ w1.heap.size from Nat.le_trans HSB.out c1.size); (try (have A0 := Lib.hid (ZC4.made (g := yv.heap.size) rfl b1); obtain ⟨⟨A0a, A0b, A0c, A0d⟩, A0e, A0f, A0g, A0h⟩ := A0.out)); (try (have A0 := Lib.hid (ZC4.made1 (g := yv.heap.size) rfl b1); have B0 := Lib.hid (ZC4.made (g := yv.heap.size + 1) (by simp) b1); obtain ⟨⟨A0a, A0b, A0c, A0d⟩, A0e, A0f, A0g, A0h⟩ := A0.out; obtain ⟨⟨B0a, B0b, B0c, B0d⟩, B0e, B0f, B0g, B0h⟩ := B0.out)); (try (have L01 := Lib.hid (apart_b (g := yv.heap.size) rfl b1); obtain ⟨l01x, l01y, l01z⟩ := L01.out)); (try (have MM := Lib.hid (apart_b2 (g := yv.heap.size) rfl b1); have L01 := Lib.hid MM.out.1; have M01 := Lib.hid MM.out.2; clear MM; obtain ⟨l01x, l01y, l01z⟩ := L01.out; obtain ⟨m01x, m01y, m01z⟩ := M01.out)); have G1 := Lib.hid (And.intro r1 q1); obtain ⟨pp1, bb1, oo1, cc1, rfl, rr1⟩ := r1; obtain ⟨pq1, bq1, oq1, cq1, rfl, rq1⟩ := q1; clear rr1 rq1)
        | (go_at_call 26; (with_reducible refine (H_f2.out _).mono ?_); rintro e w2 ⟨v2, x2, rfl, r2, q2, b2⟩; (try (have b2 := undrew b2)); have d2 : Below w1.heap.size w1 w2 := chain (by first | exact Below.refl _ _ | exact (Below.refl _ _).drew | exact below_one _ _ | exact below_two _ _ _ | exact ((Below.refl _ _).drew).alloc (Nat.le_refl _) _ | exact (((Below.refl _ _).drew).alloc (Nat.le_refl _) _).alloc (by simp) _) b2; have c2 : Below yv.heap.size yv w2 := chain c1 d2; have p0 := keep1 c2 k0; have p1 := keep1 c2 k1; have p2 := keep1 c2 k2; have p3 := keep1 c2 k3; have p4 := keep1 c2 k4; have p5 := keep1 c2 k5; have p6 := keep1 c2 k6; have p7 := keep1 c2 k7; obtain ⟨j2a, j2b, j2c, j2d, j2e, j2f, j2g, j2h⟩ := far7 (show w.heap.size + 3 ≤ w2.heap.size from Nat.le_trans HSB.out c2.size); (try (have A1 := Lib.hid (ZC4.made (g := w1.heap.size) rfl b2); obtain ⟨⟨A1a, A1b, A1c, A1d⟩, A1e, A1f, A1g, A1h⟩ := A1.out)); (try (have A1 := Lib.hid (ZC4.made1 (g := w1.heap.size) rfl b2); have B1 := Lib.hid (ZC4.made (g := w1.heap.size + 1) (by simp) b2); obtain ⟨⟨A1a, A1b, A1c, A1d⟩, A1e, A1f, A1g, A1h⟩ := A1.out; obtain ⟨⟨B1a, B1b, B1c, B1d⟩, B1e, B1f, B1g, B1h⟩ := B1.out)); (try (have A0 := Lib.hid (A0.out.next d2); obtain ⟨⟨A0a, A0b, A0c, A0d⟩, A0e, A0f, A0g, A0h⟩ := A0.out)); (try (have B0 := Lib.hid (B0.out.next d2); obtain ⟨⟨B0a, B0b, B0c, B0d⟩, B0e, B0f, B0g, B0h⟩ := B0.out)); (try (have L02 := Lib.hid (apart_t L01.out d2.size); obtain ⟨l02x, l02y, l02z⟩ := L02.out)); (try (have M02 := Lib.hid (apart_t M01.out d2.size); obtain ⟨m02x, m02y, m02z⟩ := M02.out)); (try (have L12 := Lib.hid (apart_b (g := w1.heap.size) rfl b2); obtain ⟨l12x, l12y, l12z⟩ := L12.out)); (try (have MM := Lib.hid (apart_b2 (g := w1.heap.size) rfl b2); have L12 := Lib.hid MM.out.1; have M12 := Lib.hid MM.out.2; clear MM; obtain ⟨l12x, l12y, l12z⟩ := L12.out; obtain ⟨m12x, m12y, m12z⟩ := M12.out)); have G2 := Lib.hid (show R4 _ _ _ _ _ _ _ _ _ from ⟨Ri.below G1.out.1 d2 (Nat.le_refl _), Ri.below G1.out.2 d2 (Nat.le_refl _), r2, q2⟩); obtain ⟨pp2, bb2, oo2, cc2, rfl, rr2⟩ := r2; obtain ⟨pq2, bq2, oq2, cq2, rfl, rq2⟩ := q2; clear rr2 rq2)
        | fail)
    all_goals
      have r := G2.out
      refine hMK _ _ (Met.intro (hRJ _ _ ?_))
      (repeat apply Exists.intro)
      refine ⟨?_, rfl⟩
      refine ⟨_, _, pp1, pq1, pp2, pq2, (Nm.dg D9 X1.natAbs).length, cc1, (Nm.dg D9 Y1.natAbs).length, cq1, (Nm.dg D9 X2.natAbs).length, cc2, (Nm.dg D9 Y2.natAbs).length, cq2, rfl, rfl, ?_⟩
      show CutQ (.bool bx1) (.slice pp1 _ cc1) (.bool by1) (.slice pq1 _ cq1) (.bool bx2) (.slice pp2 _ cc2) (.bool by2) (.slice pq2 _ cq2) (Nm.dg D9 X1.natAbs) (Nm.dg D9 Y1.natAbs) (Nm.dg D9 X2.natAbs) (Nm.dg D9 Y2.natAbs) yv.heap.size yv _ _ _
      have sA0 : yv.heap.size ≤ yv.heap.size := Nat.le_refl _
      have sB0 : yv.heap.size ≤ yv.heap.size + 1 := Nat.le_succ _
      have sA1 : yv.heap.size ≤ w1.heap.size := c1.size
      have sB1 : yv.heap.size ≤ w1.heap.size + 1 := Nat.le_succ_of_le sA1
      have sA2 : yv.heap.size ≤ w2.heap.size := c2.size
      have n0 : ¬ yv.heap.size = yv.heap.size + 1 := Nat.ne_of_lt (Nat.lt_succ_self _)
      have n1 : ¬ w1.heap.size = w1.heap.size + 1 := Nat.ne_of_lt (Nat.lt_succ_self _)
      have m0 : ¬ yv.heap.size + 1 = yv.heap.size := fun e => n0 e.symm
      have m1 : ¬ w1.heap.size + 1 = w1.heap.size := fun e => n1 e.symm
      first
        | with_reducible exact CutQ.k1 r c2 sA2
        | with_reducible exact CutQ.k2 r c2 sA2
        | with_reducible exact CutQ.k3 A0.out sA0 r c2 sA2
        | with_reducible exact CutQ.k4 A0.out sA0 r c2 sA2
        | with_reducible exact CutQ.k3 A1.out sA1 r c2 sA2
        | with_reducible exact CutQ.k4 A1.out sA1 r c2 sA2
        | with_reducible exact CutQ.k3 B0.out sB0 r c2 sA2
        | with_reducible exact CutQ.k4 B0.out sB0 r c2 sA2
        | with_reducible exact CutQ.k3 B1.out sB1 r c2 sA2
        | with_reducible exact CutQ.k4 B1.out sB1 r c2 sA2
        | with_reducible exact CutQ.k5 A0.out sA0 B0.out sB0 n0 r c2
        | with_reducible exact CutQ.k5 B0.out sB0 A0.out sA0 m0 r c2
        | with_reducible exact CutQ.k5 A1.out sA1 B1.out sB1 n1 r c2
        | with_reducible exact CutQ.k5 B1.out sB1 A1.out sA1 m1 r c2
        | with_reducible exact CutQ.k5 A0.out sA0 A1.out sA1 l01x r c2
        | with_reducible exact CutQ.k5 A1.out sA1 A0.out sA0 l01y r c2
        | fail
  obtain ⟨g7, g8, e1, e2, e3, e4, n1, c1, n2, c2, n3, c3, n4, c4, rfl, rfl, hcut⟩ := hcut
  obtain ⟨_, T14, T15, ⟨R1, R2, R3, R4⟩, bxx⟩ := hcut.out
  have D := Lib.hid (chain D.out bxx)
  have T7 := Lib.hid (T7.out.next bxx)
  have T9 := Lib.hid (T9.out.next bxx)
  have T11 := Lib.hid (T11.out.next bxx)
  have R1 := Lib.hid R1
  have R2 := Lib.hid R2
  have R3 := Lib.hid R3
  have R4 := Lib.hid R4
  have T14 := Lib.hid T14
  have T15 := Lib.hid T15
  obtain ⟨y15, hy15⟩ : ∃ y : World, y = wc := ⟨_, rfl⟩
  subst hy15
  clear bxx hcut HSB jba jbb jbc jbd jbe jbf jbg jbh
  clear k0 k1 k2 k3 k4 k5 k6 k7
  obtain ⟨⟨k7a, k7b, k7c, k7d⟩, _⟩ := T7.out
  obtain ⟨⟨k9a, k9b, k9c, k9d⟩, _⟩ := T9.out
  obtain ⟨⟨k11a, k11b, k11c, k11d⟩, _⟩ := T11.out
  obtain ⟨⟨k14a, k14b, k14c, k14d⟩, _⟩ := T14.out
  obtain ⟨⟨k15a, k15b, k15c, k15d⟩, _⟩ := T15.out
  go_upto_region 11 with (fail)
  go_region_held3 (fun W' => W'.cell? ⟨y7.heap.size, 0, none⟩ = some (.bool xa) ∧ W'.cell? ⟨y7.heap.size, 1, none⟩ = some (.string sa) ∧ W'.cell? ⟨y7.heap.size, 2, none⟩ = some (.bool xb) ∧ W'.cell? ⟨y7.heap.size, 3, none⟩ = some (.string sb) ∧ W'.cell? ⟨y9.heap.size, 0, none⟩ = some (.bool ya) ∧ W'.cell? ⟨y9.heap.size, 1, none⟩ = some (.string ta) ∧ W'.cell? ⟨y9.heap.size, 2, none⟩ = some (.bool yb) ∧ W'.cell? ⟨y9.heap.size, 3, none⟩ = some (.string tb) ∧ W'.cell? ⟨y11.heap.size, 0, none⟩ = some (.bool za) ∧ W'.cell? ⟨y11.heap.size, 1, none⟩ = some (.string ua) ∧ W'.cell? ⟨y11.heap.size, 2, none⟩ = some (.bool zb9) ∧ W'.cell? ⟨y11.heap.size, 3, none⟩ = some (.string ub) ∧ W'.cell? ⟨g7, 0, none⟩ = some (.bool bx1) ∧ W'.cell? ⟨g7, 1, none⟩ = some (.slice e1 n1 c1) ∧ W'.cell? ⟨g7, 2, none⟩ = some (.bool by1) ∧ W'.cell? ⟨g7, 3, none⟩ = some (.slice e2 n2 c2) ∧ W'.cell? ⟨g8, 0, none⟩ = some (.bool bx2) ∧ W'.cell? ⟨g8, 1, none⟩ = some (.slice e3 n3 c3) ∧ W'.cell? ⟨g8, 2, none⟩ = some (.bool by2) ∧ W'.cell? ⟨g8, 3, none⟩ = some (.slice e4 n4 c4)) (go_keep)
    (first
      | (go_at_call 27; (with_reducible refine (H_cq.out _ _ _ _ _ (by first | exact R1.out | exact Ri.drew R1.out | exact Ri.below R1.out E.out (Nat.le_refl _)) (by first | exact R2.out | exact Ri.drew R2.out | exact Ri.below R2.out E.out (Nat.le_refl _)) (by first | exact R3.out | exact Ri.drew R3.out | exact Ri.below R3.out E.out (Nat.le_refl _)) (by first | exact R4.out | exact Ri.drew R4.out | exact Ri.below R4.out E.out (Nat.le_refl _))).mono ?_); rintro e w1 ⟨rfl, b1⟩; (try (have b1 := undrew b1)); have E : Hid (Below y15.heap.size y15 w1) := (by first | exact b1 | exact chain ((Below.refl _ _).drew) b1); have pk7a := keep1 E.out k7a; have pk7b := keep1 E.out k7b; have pk7c := keep1 E.out k7c; have pk7d := keep1 E.out k7d; have pk9a := keep1 E.out k9a; have pk9b := keep1 E.out k9b; have pk9c := keep1 E.out k9c; have pk9d := keep1 E.out k9d; have pk11a := keep1 E.out k11a; have pk11b := keep1 E.out k11b; have pk11c := keep1 E.out k11c; have pk11d := keep1 E.out k11d; have pk14a := keep1 E.out k14a; have pk14b := keep1 E.out k14b; have pk14c := keep1 E.out k14c; have pk14d := keep1 E.out k14d; have pk15a := keep1 E.out k15a; have pk15b := keep1 E.out k15b; have pk15c := keep1 E.out k15c; have pk15d := keep1 E.out k15d; clear b1)
      | (go_at_call 28; (with_reducible refine (H_aq.out _ _ _ _ _ (by first | exact R1.out | exact Ri.drew R1.out | exact Ri.below R1.out E.out (Nat.le_refl _)) (by first | exact R2.out | exact Ri.drew R2.out | exact Ri.below R2.out E.out (Nat.le_refl _)) (by first | exact R3.out | exact Ri.drew R3.out | exact Ri.below R3.out E.out (Nat.le_refl _)) (by first | exact R4.out | exact Ri.drew R4.out | exact Ri.below R4.out E.out (Nat.le_refl _))).mono ?_); rintro e w2 ⟨v2, x2, rfl, r2, s2, b2⟩; (try (have b2 := undrew b2)); have E := Lib.hid (chain E.out b2); have pk7a := keep1 E.out k7a; have pk7b := keep1 E.out k7b; have pk7c := keep1 E.out k7c; have pk7d := keep1 E.out k7d; have pk9a := keep1 E.out k9a; have pk9b := keep1 E.out k9b; have pk9c := keep1 E.out k9c; have pk9d := keep1 E.out k9d; have pk11a := keep1 E.out k11a; have pk11b := keep1 E.out k11b; have pk11c := keep1 E.out k11c; have pk11d := keep1 E.out k11d; have pk14a := keep1 E.out k14a; have pk14b := keep1 E.out k14b; have pk14c := keep1 E.out k14c; have pk14d := keep1 E.out k14d; have pk15a := keep1 E.out k15a; have pk15b := keep1 E.out k15b; have pk15c := keep1 E.out k15c; have pk15d := keep1 E.out k15d; have G2 := Lib.hid r2; have J2 := Lib.hid s2; obtain ⟨pp2, bb2, oo2, cc2, rfl, hr2⟩ := r2; obtain ⟨pq2, bq2, oq2, cq2, rfl, hs2⟩ := s2; clear hr2 hs2; clear b2)
      | (go_at_call 14; (with_reducible refine (H_sa.out _ _ _ (by first | exact G2.out | exact Ri.drew G2.out | exact Ri.below G2.out E.out (Nat.le_refl _)) (by first | exact J2.out | exact Ri.drew J2.out | exact Ri.below J2.out E.out (Nat.le_refl _))).mono ?_); rintro e w3 ⟨rfl, b3⟩; (try (have b3 := undrew b3)); have E := Lib.hid (chain E.out b3); have pk7a := keep1 E.out k7a; have pk7b := keep1 E.out k7b; have pk7c := keep1 E.out k7c; have pk7d := keep1 E.out k7d; have pk9a := keep1 E.out k9a; have pk9b := keep1 E.out k9b; have pk9c := keep1 E.out k9c; have pk9d := keep1 E.out k9d; have pk11a := keep1 E.out k11a; have pk11b := keep1 E.out k11b; have pk11c := keep1 E.out k11c; have pk11d := keep1 E.out k11d; have pk14a := keep1 E.out k14a; have pk14b := keep1 E.out k14b; have pk14c := keep1 E.out k14c; have pk14d := keep1 E.out k14d; have pk15a := keep1 E.out k15a; have pk15b := keep1 E.out k15b; have pk15c := keep1 E.out k15c; have pk15d := keep1 E.out k15d; have G2 := Lib.hid (Ri.below G2.out b3 (Nat.le_refl _)); have J2 := Lib.hid (Ri.below J2.out b3 (Nat.le_refl _)); clear b3)
      | (go_at_call 29; (with_reducible refine (H_sq.out _ _ _ _ _ (by first | exact R1.out | exact Ri.drew R1.out | exact Ri.below R1.out E.out (Nat.le_refl _)) (by first | exact R2.out | exact Ri.drew R2.out | exact Ri.below R2.out E.out (Nat.le_refl _)) (by first | exact R3.out | exact Ri.drew R3.out | exact Ri.below R3.out E.out (Nat.le_refl _)) (by first | exact R4.out | exact Ri.drew R4.out | exact Ri.below R4.out E.out (Nat.le_refl _))).mono ?_); rintro e w4 ⟨v4, x4, rfl, r4, s4, b4⟩; (try (have b4 := undrew b4)); have E := Lib.hid (chain E.out b4); have pk7a := keep1 E.out k7a; have pk7b := keep1 E.out k7b; have pk7c := keep1 E.out k7c; have pk7d := keep1 E.out k7d; have pk9a := keep1 E.out k9a; have pk9b := keep1 E.out k9b; have pk9c := keep1 E.out k9c; have pk9d := keep1 E.out k9d; have pk11a := keep1 E.out k11a; have pk11b := keep1 E.out k11b; have pk11c := keep1 E.out k11c; have pk11d := keep1 E.out k11d; have pk14a := keep1 E.out k14a; have pk14b := keep1 E.out k14b; have pk14c := keep1 E.out k14c; have pk14d := keep1 E.out k14d; have pk15a := keep1 E.out k15a; have pk15b := keep1 E.out k15b; have pk15c := keep1 E.out k15c; have pk15d := keep1 E.out k15d; have G2 := Lib.hid (Ri.below G2.out b4 (Nat.le_refl _)); have J2 := Lib.hid (Ri.below J2.out b4 (Nat.le_refl _)); have G4 := Lib.hid r4; have J4 := Lib.hid s4; obtain ⟨pp4, bb4, oo4, cc4, rfl, hr4⟩ := r4; obtain ⟨pq4, bq4, oq4, cq4, rfl, hs4⟩ := s4; clear hr4 hs4; clear b4)
      | (go_at_call 14; (with_reducible refine (H_ss.out _ _ _ (by first | exact G4.out | exact Ri.drew G4.out | exact Ri.below G4.out E.out (Nat.le_refl _)) (by first | exact J4.out | exact Ri.drew J4.out | exact Ri.below J4.out E.out (Nat.le_refl _))).mono ?_); rintro e w5 ⟨rfl, b5⟩; (try (have b5 := undrew b5)); have E := Lib.hid (chain E.out b5); have pk7a := keep1 E.out k7a; have pk7b := keep1 E.out k7b; have pk7c := keep1 E.out k7c; have pk7d := keep1 E.out k7d; have pk9a := keep1 E.out k9a; have pk9b := keep1 E.out k9b; have pk9c := keep1 E.out k9c; have pk9d := keep1 E.out k9d; have pk11a := keep1 E.out k11a; have pk11b := keep1 E.out k11b; have pk11c := keep1 E.out k11c; have pk11d := keep1 E.out k11d; have pk14a := keep1 E.out k14a; have pk14b := keep1 E.out k14b; have pk14c := keep1 E.out k14c; have pk14d := keep1 E.out k14d; have pk15a := keep1 E.out k15a; have pk15b := keep1 E.out k15b; have pk15c := keep1 E.out k15c; have pk15d := keep1 E.out k15d; have G2 := Lib.hid (Ri.below G2.out b5 (Nat.le_refl _)); have J2 := Lib.hid (Ri.below J2.out b5 (Nat.le_refl _)); have G4 := Lib.hid (Ri.below G4.out b5 (Nat.le_refl _)); have J4 := Lib.hid (Ri.below J4.out b5 (Nat.le_refl _)); clear b5)
      | (go_at_call 30; (with_reducible refine (H_mq.out _ _ _ _ _ (by first | exact R1.out | exact Ri.drew R1.out | exact Ri.below R1.out E.out (Nat.le_refl _)) (by first | exact R2.out | exact Ri.drew R2.out | exact Ri.below R2.out E.out (Nat.le_refl _)) (by first | exact R3.out | exact Ri.drew R3.out | exact Ri.below R3.out E.out (Nat.le_refl _)) (by first | exact R4.out | exact Ri.drew R4.out | exact Ri.below R4.out E.out (Nat.le_refl _))).mono ?_); rintro e w6 ⟨v6, x6, rfl, r6, s6, b6⟩; (try (have b6 := undrew b6)); have E := Lib.hid (chain E.out b6); have pk7a := keep1 E.out k7a; have pk7b := keep1 E.out k7b; have pk7c := keep1 E.out k7c; have pk7d := keep1 E.out k7d; have pk9a := keep1 E.out k9a; have pk9b := keep1 E.out k9b; have pk9c := keep1 E.out k9c; have pk9d := keep1 E.out k9d; have pk11a := keep1 E.out k11a; have pk11b := keep1 E.out k11b; have pk11c := keep1 E.out k11c; have pk11d := keep1 E.out k11d; have pk14a := keep1 E.out k14a; have pk14b := keep1 E.out k14b; have pk14c := keep1 E.out k14c; have pk14d := keep1 E.out k14d; have pk15a := keep1 E.out k15a; have pk15b := keep1 E.out k15b; have pk15c := keep1 E.out k15c; have pk15d := keep1 E.out k15d; have G2 := Lib.hid (Ri.below G2.out b6 (Nat.le_refl _)); have J2 := Lib.hid (Ri.below J2.out b6 (Nat.le_refl _)); have G4 := Lib.hid (Ri.below G4.out b6 (Nat.le_refl _)); have J4 := Lib.hid (Ri.below J4.out b6 (Nat.le_refl _)); have G6 := Lib.hid r6; have J6 := Lib.hid s6; obtain ⟨pp6, bb6, oo6, cc6, rfl, hr6⟩ := r6; obtain ⟨pq6, bq6, oq6, cq6, rfl, hs6⟩ := s6; clear hr6 hs6; clear b6)
      | (go_at_call 14; (with_reducible refine (H_sm.out _ _ _ (by first | exact G6.out | exact Ri.drew G6.out | exact Ri.below G6.out E.out (Nat.le_refl _)) (by first | exact J6.out | exact Ri.drew J6.out | exact Ri.below J6.out E.out (Nat.le_refl _))).mono ?_); rintro e w7 ⟨rfl, b7⟩; (try (have b7 := undrew b7)); have E := Lib.hid (chain E.out b7); have pk7a := keep1 E.out k7a; have pk7b := keep1 E.out k7b; have pk7c := keep1 E.out k7c; have pk7d := keep1 E.out k7d; have pk9a := keep1 E.out k9a; have pk9b := keep1 E.out k9b; have pk9c := keep1 E.out k9c; have pk9d := keep1 E.out k9d; have pk11a := keep1 E.out k11a; have pk11b := keep1 E.out k11b; have pk11c := keep1 E.out k11c; have pk11d := keep1 E.out k11d; have pk14a := keep1 E.out k14a; have pk14b := keep1 E.out k14b; have pk14c := keep1 E.out k14c; have pk14d := keep1 E.out k14d; have pk15a := keep1 E.out k15a; have pk15b := keep1 E.out k15b; have pk15c := keep1 E.out k15c; have pk15d := keep1 E.out k15d; have G2 := Lib.hid (Ri.below G2.out b7 (Nat.le_refl _)); have J2 := Lib.hid (Ri.below J2.out b7 (Nat.le_refl _)); have G4 := Lib.hid (Ri.below G4.out b7 (Nat.le_refl _)); have J4 := Lib.hid (Ri.below J4.out b7 (Nat.le_refl _)); have G6 := Lib.hid (Ri.below G6.out b7 (Nat.le_refl _)); have J6 := Lib.hid (Ri.below J6.out b7 (Nat.le_refl _)); clear b7)
      | (go_at_call 8; (with_reducible refine (H_known.out  _ ).mono ?_); rintro e w8 ⟨rfl, b8⟩; (try (have b8 := undrew b8)); have E := Lib.hid (chain E.out b8); have pk7a := keep1 E.out k7a; have pk7b := keep1 E.out k7b; have pk7c := keep1 E.out k7c; have pk7d := keep1 E.out k7d; have pk9a := keep1 E.out k9a; have pk9b := keep1 E.out k9b; have pk9c := keep1 E.out k9c; have pk9d := keep1 E.out k9d; have pk11a := keep1 E.out k11a; have pk11b := keep1 E.out k11b; have pk11c := keep1 E.out k11c; have pk11d := keep1 E.out k11d; have pk14a := keep1 E.out k14a; have pk14b := keep1 E.out k14b; have pk14c := keep1 E.out k14c; have pk14d := keep1 E.out k14d; have pk15a := keep1 E.out k15a; have pk15b := keep1 E.out k15b; have pk15c := keep1 E.out k15c; have pk15d := keep1 E.out k15d; have G2 := Lib.hid (Ri.below G2.out b8 (Nat.le_refl _)); have J2 := Lib.hid (Ri.below J2.out b8 (Nat.le_refl _)); have G4 := Lib.hid (Ri.below G4.out b8 (Nat.le_refl _)); have J4 := Lib.hid (Ri.below J4.out b8 (Nat.le_refl _)); have G6 := Lib.hid (Ri.below G6.out b8 (Nat.le_refl _)); have J6 := Lib.hid (Ri.below J6.out b8 (Nat.le_refl _)); clear b8)
      | fail)
  have HZ := Lib.hid (chain hb0.out (chain D.out E.out))
  go_wp2
  go_ret
  exact ⟨rfl, HZ.out⟩
end Go.Proofs.YtlmklhffafcmmaaGreat
