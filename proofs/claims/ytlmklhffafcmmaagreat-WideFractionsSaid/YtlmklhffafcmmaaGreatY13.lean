/- WideFractions gives true for all pairs of ratios (P1.8), and leaves its arguments as they were. No condition. -/
import Derived.Test.YtlmklhffafcmmaaGreatY12
import Derived.Test.YtlmklhffafcmmaaGreatY10
import Derived.Test.YtlmklhffafcmmaaGreatY0
import Derived.ProofKit
import Derived.OpenShut
import Derived.ShutString
import Derived.ChangeOld
import Derived.Below
import Derived.Lib.SmallJoins
import Derived.Test.YtlmklhffafcmmaaGreatRows

/- Ratios in lowest terms, in limbs and in integers; sizes; the law's function same holds. -/
namespace Go.Proofs.YtlmklhffafcmmaaGreat
open Go.RowKit

/-- The ratio in lowest terms, in limbs and in integers. -/
theorem sg_parts (c : Bool) (A : Nat) : zb (sg c A) = (c && decide (A ≠ 0)) ∧ zs (sg c A) = bs A := by
  have h := wd_sg c A
  rw [wd] at h
  injection h with h
  have h1 := congrArg (fun l => l[0]?) h
  have h2 := congrArg (fun l => l[1]?) h
  simp at h1 h2
  exact ⟨by rw [← h1]; simp, h2.symm⟩
theorem div_sg (c e : Bool) (A g : Nat) (hg : 0 < g) : sg c (g * A) / sg e g = sg (c != e) A := by
  have h := eq1_sg (a := c) (b := e) (m := g * A) (n := g) hg
  rw [← h]
  unfold eq1
  rw [Nat.mul_mod_right]
  simp [hg]
theorem lg_sg (x y : Int) (hy : y ≠ 0) : lg x y = sg (zb y) (Nat.gcd x.natAbs y.natAbs) := by
  unfold lg sg zb
  by_cases h : y < 0
  · rw [if_pos h, decide_eq_true h, if_pos rfl]
  · rw [if_neg h, decide_eq_false h, if_neg (by simp)]
theorem low_parts (x y : Int) (hy : y ≠ 0) (g : Nat) (hg : Nat.gcd x.natAbs y.natAbs = g) :
    x / lg x y = sg (zb x != zb y) (x.natAbs / g) ∧ y / lg x y = sg false (y.natAbs / g) := by
  have hgp : 0 < g := by rw [← hg]; exact Nat.gcd_pos_of_pos_right _ (by omega)
  obtain ⟨A, hA⟩ : g ∣ x.natAbs := by rw [← hg]; exact Nat.gcd_dvd_left _ _
  obtain ⟨B, hB⟩ : g ∣ y.natAbs := by rw [← hg]; exact Nat.gcd_dvd_right _ _
  have hx : x = sg (zb x) (g * A) := by rw [← hA]; exact (sg_z x).symm
  have hy2 : y = sg (zb y) (g * B) := by rw [← hB]; exact (sg_z y).symm
  have eA : x.natAbs / g = A := by rw [hA]; exact Nat.mul_div_cancel_left _ hgp
  have eB : y.natAbs / g = B := by rw [hB]; exact Nat.mul_div_cancel_left _ hgp
  rw [lg_sg x y hy, hg, eA, eB]
  constructor
  · conv => lhs; rw [hx]
    exact div_sg _ _ _ _ hgp
  · have h5 := div_sg (zb y) (zb y) B g hgp
    rw [← hy2] at h5
    rw [h5]
    simp
theorem low_any (m n : Nat) (hm : m < Top) (hn : n < Top) (h0 : 0 < n) : LowOK m n (m / Nat.gcd m n) (n / Nat.gcd m n) := by
  have hg := Nat.gcd_pos_of_pos_right m h0
  have hgn : Nat.gcd m n ≤ n := Nat.gcd_le_right m h0
  have a1 : m / Nat.gcd m n < Top := Nat.lt_of_le_of_lt (Nat.div_le_self _ _) hm
  have a2 : n / Nat.gcd m n < Top := Nat.lt_of_le_of_lt (Nat.div_le_self _ _) hn
  have lt : ∀ {z}, z < Top → (Nm.dg W z).length ≤ 900000000 := fun h => Nat.le_trans (len_top h) (by decide)
  exact ⟨gcdOK_any m n (lt hm) (lt hn), divOK_any _ _ hg (lt hm) (lt (by omega)), divOK_any _ _ hg (lt hn) (lt (by omega)), rfl, rfl, Nat.le_trans (len_top a1) (by decide), Nat.le_trans (len_top a2) (by decide), a1, a2⟩
/-- What comes out for two integers. -/
theorem low_z (x y : Int) (hy : y ≠ 0) : (((zb x != zb y) && decide (x.natAbs / Nat.gcd x.natAbs y.natAbs ≠ 0)) = zb (x / lg x y) ∧ bs (x.natAbs / Nat.gcd x.natAbs y.natAbs) = zs (x / lg x y)) ∧ false = zb (y / lg x y) ∧ bs (y.natAbs / Nat.gcd x.natAbs y.natAbs) = zs (y / lg x y) := by
  obtain ⟨e1, e2⟩ := low_parts x y hy _ rfl
  obtain ⟨p1, p2⟩ := sg_parts (zb x != zb y) (x.natAbs / Nat.gcd x.natAbs y.natAbs)
  obtain ⟨p3, p4⟩ := sg_parts false (y.natAbs / Nat.gcd x.natAbs y.natAbs)
  rw [e1, e2, p1, p2, p3, p4]
  exact ⟨⟨rfl, rfl⟩, rfl, rfl⟩
theorem low_abs (x y : Int) (hy : y ≠ 0) : (x / lg x y).natAbs ≤ x.natAbs ∧ (y / lg x y).natAbs ≤ y.natAbs := by
  obtain ⟨e1, e2⟩ := low_parts x y hy _ rfl
  rw [e1, e2, sg_abs, sg_abs]
  exact ⟨Nat.div_le_self _ _, Nat.div_le_self _ _⟩
/-- An integer that a wide one can hold. -/
def Fit (z : Int) (k : Nat) : Prop := z.natAbs < 256 ^ k
theorem Fit.top {z : Int} {k : Nat} (h : Fit z k) (hk : k ≤ 8192) : z.natAbs < Top := (fits_k hk h).1
theorem Fit.len {z : Int} {k : Nat} (h : Fit z k) (hk : k ≤ 8192) : (Nm.dg D9 z.natAbs).length ≤ 1000000 := Nat.le_trans (fits_k hk h).2 (by decide)
theorem Fit.size {z : Int} {k : Nat} (h : Fit z k) (hk : k ≤ 8192) : (zs z).size ≤ 8192 := zs_size (h.top hk)
theorem Fit.nine {z : Int} {k : Nat} (h : Fit z k) : z.natAbs < D9 ^ k := Nat.lt_of_lt_of_le h (Nat.pow_le_pow_left (by decide) k)
theorem Fit.le {y z : Int} {k : Nat} (h : Fit z k) (hle : y.natAbs ≤ z.natAbs) : Fit y k := Nat.lt_of_le_of_lt hle h
theorem fit_int {n : Int} {k : Nat} (hk : k = 60) (h1 : -9223372036854775808 ≤ n) (h2 : n ≤ 9223372036854775807) : Fit n k := by
  subst hk
  have h3 : n.natAbs < 256 ^ 8 := by omega
  exact Nat.lt_of_lt_of_le h3 (Nat.pow_le_pow_right (by decide) (by decide))
theorem same_z (x y : Int) (k : Nat) (hk : k ≤ 8192) (hx : Fit x k) (hy : Fit y k) (v1 v2 : Value) (w : World) (h1 : Rz w v1 x) (h2 : Rz w v2 y) :
    Calls Tryz.prog 14 #[.agg #[.bool (zb x), .string (zs x), .bool (zb y), .string (zs y)], .int .i64 0, qV x y v1 v2] w fun e w' => e = .returned (.bool true) ∧ Below w.heap.size w w' :=
  rsame_true x y v1 v2 w h1 h2 (hx.len hk) (hy.len hk) (hx.size hk) (hy.size hk)

end Go.Proofs.YtlmklhffafcmmaaGreat

/- The law WideFractions gives true. -/
namespace Go.Proofs.YtlmklhffafcmmaaGreat
open Go.RowKit

theorem low_c (c : Bool) (k d : Nat) (hd : 0 < d) (N D : Int) (hN : sg c k = N) (hD : (d : Int) = D) :
    ((c && decide (k / Nat.gcd k d ≠ 0)) = zb (N / lg N D) ∧ bs (k / Nat.gcd k d) = zs (N / lg N D)) ∧ false = zb (D / lg N D) ∧ bs (d / Nat.gcd k d) = zs (D / lg N D) := by
  obtain ⟨g, hg⟩ : ∃ g, Nat.gcd k d = g := ⟨_, rfl⟩
  have hgp : 0 < g := by rw [← hg]; exact Nat.gcd_pos_of_pos_right _ hd
  obtain ⟨A, hA⟩ : g ∣ k := by rw [← hg]; exact Nat.gcd_dvd_left _ _
  obtain ⟨B, hB⟩ : g ∣ d := by rw [← hg]; exact Nat.gcd_dvd_right _ _
  have eA : k / g = A := by rw [hA]; exact Nat.mul_div_cancel_left _ hgp
  have eB : d / g = B := by rw [hB]; exact Nat.mul_div_cancel_left _ hgp
  have hDa : D.natAbs = d := by omega
  have hNa : N.natAbs = k := by rw [← hN, sg_abs]
  have hDb : zb D = false := decide_eq_false (by omega)
  have hl : lg N D = sg false g := by rw [lg_sg N D (by omega), hDb, hNa, hDa, hg]
  have h1 : N / lg N D = sg c A := by
    rw [hl, ← hN, hA, div_sg c false A g hgp]
    simp
  have h2 : D / lg N D = sg false B := by
    have h5 := div_sg false false B g hgp
    rw [hl]
    have h6 : sg false (g * B) = D := by rw [← hB]; simp [sg]; omega
    rw [← h6, h5]
    simp
  obtain ⟨p1, p2⟩ := sg_parts c A
  obtain ⟨p3, p4⟩ := sg_parts false B
  rw [h1, h2, hg, eA, eB, p1, p2, p3, p4]
  exact ⟨⟨rfl, rfl⟩, rfl, rfl⟩
theorem sign_same {m1 m2 n1 n2 : Nat} {a2 : Bool} (h1 : 0 < n1) (h2 : 0 < n2) (hs : (sg false m1).sign = (sg a2 m2).sign) :
    cmpN (m1 * n2) (m2 * n1) = (sg false m1 * (n2 : Int) - sg a2 m2 * (n1 : Int)).sign := by
  rw [cmpN_sign]
  have e1 : sg false m1 = (m1 : Int) := by simp [sg]
  have e2 : sg a2 m2 = (m2 : Int) := by
    cases a2 with
    | false => simp [sg]
    | true =>
      rw [e1] at hs
      simp only [sg, if_true] at hs ⊢
      rcases Nat.eq_zero_or_pos m2 with h | h
      · subst h; rfl
      · have h5 : (-(m2 : Int)).sign = -1 := Int.sign_eq_neg_one_of_neg (by omega)
        rw [h5] at hs
        have h6 := Int.sign_eq_neg_one_iff_neg.1 hs
        omega
  rw [e1, e2]
  congr 1
theorem sign_neg {m1 m2 n1 n2 : Nat} {a2 : Bool} (hm : 0 < m1) (hs : (sg true m1).sign = (sg a2 m2).sign) :
    cmpN (m2 * n1) (m1 * n2) = (sg true m1 * (n2 : Int) - sg a2 m2 * (n1 : Int)).sign := by
  rw [cmpN_sign]
  have e1 : sg true m1 = -(m1 : Int) := by simp [sg]
  have e2 : sg a2 m2 = -(m2 : Int) := by
    cases a2 with
    | true => simp [sg]
    | false =>
      rw [e1, Int.sign_eq_neg_one_of_neg (by omega : -(m1 : Int) < 0)] at hs
      have h6 := Int.sign_eq_neg_one_iff_neg.1 hs.symm
      simp only [sg] at h6
      rw [if_neg (by simp)] at h6
      omega
  rw [e1, e2]
  congr 1
  rw [Int.neg_mul, Int.neg_mul]
  push_cast
  omega
theorem sign_diff {x y : Int} {n1 n2 : Int} (h1 : 0 < n1) (h2 : 0 < n2) (hs : ¬ x.sign = y.sign) : Lib.compareInt x.sign y.sign = (x * n2 - y * n1).sign := by
  rcases Int.lt_trichotomy x 0 with hx | hx | hx <;> rcases Int.lt_trichotomy y 0 with hy | hy | hy
  · exact absurd (by rw [Int.sign_eq_neg_one_of_neg hx, Int.sign_eq_neg_one_of_neg hy]) hs
  · subst hy
    have h5 := Int.mul_neg_of_neg_of_pos hx h2
    rw [Int.sign_eq_neg_one_of_neg hx, Int.sign_zero, Int.sign_eq_neg_one_of_neg (by omega : x * n2 - 0 * n1 < 0)]; rfl
  · have h5 := Int.mul_neg_of_neg_of_pos hx h2
    have h6 := Int.mul_pos hy h1
    rw [Int.sign_eq_neg_one_of_neg hx, Int.sign_eq_one_of_pos hy, Int.sign_eq_neg_one_of_neg (by omega : x * n2 - y * n1 < 0)]; rfl
  · subst hx
    have h6 := Int.mul_neg_of_neg_of_pos hy h1
    rw [Int.sign_eq_neg_one_of_neg hy, Int.sign_zero, Int.sign_eq_one_of_pos (by omega : 0 < 0 * n2 - y * n1)]; rfl
  · exact absurd (by rw [hx, hy]) hs
  · subst hx
    have h6 := Int.mul_pos hy h1
    rw [Int.sign_eq_one_of_pos hy, Int.sign_zero, Int.sign_eq_neg_one_of_neg (by omega : 0 * n2 - y * n1 < 0)]; rfl
  · have h5 := Int.mul_pos hx h2
    have h6 := Int.mul_neg_of_neg_of_pos hy h1
    rw [Int.sign_eq_one_of_pos hx, Int.sign_eq_neg_one_of_neg hy, Int.sign_eq_one_of_pos (by omega : 0 < x * n2 - y * n1)]; rfl
  · subst hy
    have h5 := Int.mul_pos hx h2
    rw [Int.sign_eq_one_of_pos hx, Int.sign_zero, Int.sign_eq_one_of_pos (by omega : 0 < x * n2 - 0 * n1)]; rfl
  · exact absurd (by rw [Int.sign_eq_one_of_pos hx, Int.sign_eq_one_of_pos hy]) hs
theorem rat_parts {a b : Bool} {s t : ByteArray} (h : vldR a s b t = true) : vld a s = true ∧ vld b t = true ∧ b = false ∧ 0 < t.size ∧ 0 < sgV b t ∧ 0 < bv t := by
  have h2 := h
  unfold vldR at h2
  rw [vld_rat, Bool.and_eq_true, Bool.and_eq_true, Bool.and_eq_true] at h
  obtain ⟨⟨⟨h3, h4⟩, h5⟩, h6⟩ := h
  rw [Bool.and_eq_true] at h2
  refine ⟨h3, h4, by simpa using h5, of_decide_eq_true h6, of_decide_eq_true h2.2, ?_⟩
  rcases Nat.eq_zero_or_pos (bv t) with h7 | h7
  · have := (bv_zero_iff (vld_can h4)).1 h7
    have := of_decide_eq_true h6
    omega
  · exact h7
theorem short4_sizes {a1 b1 a2 b2 : Bool} {s1 t1 s2 t2 : ByteArray} (h : shortL [(a1, s1), (b1, t1), (a2, s2), (b2, t2)] = true) : s1.size ≤ 60 ∧ t1.size ≤ 60 ∧ s2.size ≤ 60 ∧ t2.size ≤ 60 := by simpa [shortL] using h
theorem fit_add {m1 m2 n1 n2 k : Nat} (h1 : m1 < 256 ^ k) (h2 : n1 < 256 ^ k) (h3 : m2 < 256 ^ k) (h4 : n2 < 256 ^ k) : m1 * n2 + m2 * n1 < 256 ^ (k + k + 1) ∧ n1 * n2 < 256 ^ (k + k + 1) ∧ m1 * m2 < 256 ^ (k + k + 1) := by
  have e : (256 : Nat) ^ (k + k + 1) = 256 ^ k * 256 ^ k * 256 := by rw [Nat.pow_succ, Nat.pow_add]
  have p1 := Nat.mul_lt_mul'' h1 h4
  have p2 := Nat.mul_lt_mul'' h3 h2
  have p3 := Nat.mul_lt_mul'' h2 h4
  have p4 := Nat.mul_lt_mul'' h1 h3
  rw [e]
  generalize (256 : Nat) ^ k * 256 ^ k = P at *
  exact ⟨by omega, by omega, by omega⟩

theorem fracs_any (a1 b1 a2 b2 : Bool) (s1 t1 s2 t2 : ByteArray) (w : World) : Calls Tryz.prog 4 #[.agg #[.bool a1, .string s1, .bool b1, .string t1], .agg #[.bool a2, .string s2, .bool b2, .string t2]] w (Ret (.bool true) w) := by
  cases hsh : shortL [(a1, s1), (b1, t1), (a2, s2), (b2, t2)] with
  | false => exact fracs_long a1 b1 a2 b2 s1 t1 s2 t2 w hsh
  | true =>
    obtain ⟨l1, l2, l3, l4⟩ := short4_sizes hsh
    have h_v1 := fun w => rvalidRatio_any a1 b1 s1 t1 w (by omega) (by omega)
    have h_v2 := fun w => rvalidRatio_any a2 b2 s2 t2 w (by omega) (by omega)
    unfold BPost at h_v1 h_v2
    have bad : (vldR a1 s1 b1 t1 && vldR a2 s2 b2 t2) = false → _ := fun h => And.intro (fun w => CompareRatio_bad a1 b1 a2 b2 s1 t1 s2 t2 w (by omega) (by omega) (by omega) (by omega) h) (And.intro (fun w => AddRatio_bad a1 b1 a2 b2 s1 t1 s2 t2 w (by omega) (by omega) (by omega) (by omega) h) (And.intro (fun w => SubRatio_bad a1 b1 a2 b2 s1 t1 s2 t2 w (by omega) (by omega) (by omega) (by omega) h) (fun w => MulRatio_bad a1 b1 a2 b2 s1 t1 s2 t2 w (by omega) (by omega) (by omega) (by omega) h)))
    cases hr1 : vldR a1 s1 b1 t1 with
    | false =>
      obtain ⟨h1, h2, h3, h4⟩ := bad (by rw [hr1]; rfl)
      rw [hr1] at h_v1
      exact fracs_bad1 a1 b1 a2 b2 s1 t1 s2 t2 w hsh h1 h2 h3 h4 h_v1
    | true =>
      cases hr2 : vldR a2 s2 b2 t2 with
      | false =>
        obtain ⟨h1, h2, h3, h4⟩ := bad (by rw [hr1, hr2]; rfl)
        rw [hr1] at h_v1
        rw [hr2] at h_v2
        exact fracs_bad2 a1 b1 a2 b2 s1 t1 s2 t2 w hsh h1 h2 h3 h4 h_v1 h_v2
      | true =>
        rw [hr1] at h_v1
        rw [hr2] at h_v2
        clear bad
        obtain ⟨v1, v2, rfl, p1, g1, n1⟩ := rat_parts hr1
        obtain ⟨v3, v4, rfl, p2, g2, n2⟩ := rat_parts hr2
        obtain ⟨k, hk⟩ : ∃ k : Nat, k = 60 := ⟨_, rfl⟩
        have m1 := bv60 hk l1
        have m2 := bv60 hk l2
        have m3 := bv60 hk l3
        have m4 := bv60 hk l4
        obtain ⟨fA, fD, fM⟩ := fit_add m1 m2 m3 m4
        have hK : k + k + 1 ≤ 8192 := by omega
        have lt9 : ∀ {z}, z < Top → (Nm.dg W z).length ≤ 1000000000 := fun h => Nat.le_trans (len_top h) (by decide)
        have tA := (fits_k hK fA).1
        have tD := (fits_k hK fD).1
        have tM := (fits_k hK fM).1
        have D0 : 0 < bv t1 * bv t2 := Nat.mul_pos n1 n2
        obtain ⟨x1, hx1⟩ : ∃ x, sg a1 (bv s1) = x := ⟨_, rfl⟩
        obtain ⟨x2, hx2⟩ : ∃ x, sg a2 (bv s2) = x := ⟨_, rfl⟩
        obtain ⟨y1, hy1⟩ : ∃ y : Int, (bv t1 : Int) = y := ⟨_, rfl⟩
        obtain ⟨y2, hy2⟩ : ∃ y : Int, (bv t2 : Int) = y := ⟨_, rfl⟩
        have sy1 : sg false (bv t1) = y1 := by rw [← hy1]; simp [sg]
        have sy2 : sg false (bv t2) = y2 := by rw [← hy2]; simp [sg]
        have ax1 : x1.natAbs = bv s1 := by rw [← hx1, sg_abs]
        have ax2 : x2.natAbs = bv s2 := by rw [← hx2, sg_abs]
        have ay1 : y1.natAbs = bv t1 := by omega
        have ay2 : y2.natAbs = bv t2 := by omega
        have hp1 : 0 < y1 := by omega
        have hp2 : 0 < y2 := by omega
        have hDD : ((bv t1 * bv t2 : Nat) : Int) = y1 * y2 := by rw [← hy1, ← hy2]; push_cast; rfl
        have nn : ∀ {z : Int} {m : Nat}, z.natAbs = m → m < 256 ^ k → z.natAbs < D9 ^ k := fun h1 h2 => by
          rw [h1]
          exact Nat.lt_of_lt_of_le h2 (Nat.pow_le_pow_left (by decide) k)
        have h_f1 := fun w => rfromRatio_any a1 false s1 t1 w (by omega) (by omega)
        have h_f2 := fun w => rfromRatio_any a2 false s2 t2 w (by omega) (by omega)
        rw [hx1, sy1] at h_f1
        rw [hx2, sy2] at h_f2
        have h_cq := fun v1 v2 v3 v4 w g1 g2 g3 g4 => rcompareQ_int x1 y1 x2 y2 v1 v2 v3 v4 w k (by omega) (nn ax1 m1) (nn ay1 m2) (nn ax2 m3) (nn ay2 m4) g1 g2 g3 g4
        have h_aq := fun v1 v2 v3 v4 w g1 g2 g3 g4 => raddQ_int x1 y1 x2 y2 v1 v2 v3 v4 w k (by omega) (nn ax1 m1) (nn ay1 m2) (nn ax2 m3) (nn ay2 m4) hp1 hp2 g1 g2 g3 g4
        have h_sq := fun v1 v2 v3 v4 w g1 g2 g3 g4 => rsubQ_int x1 y1 x2 y2 v1 v2 v3 v4 w k (by omega) (nn ax1 m1) (nn ay1 m2) (nn ax2 m3) (nn ay2 m4) hp1 hp2 g1 g2 g3 g4
        have h_mq := fun v1 v2 v3 v4 w g1 g2 g3 g4 => rmulQ_int x1 y1 x2 y2 v1 v2 v3 v4 w k (by omega) (nn ax1 m1) (nn ay1 m2) (nn ax2 m3) (nn ay2 m4) hp1 hp2 g1 g2 g3 g4
        -- the comparison
        have h_c : ∀ w, Calls Tryz.prog 22 #[.agg #[.bool a1, .string s1, .bool false, .string t1], .agg #[.bool a2, .string s2, .bool false, .string t2]] w fun e w' => e = .returned (.tuple #[.int .i64 (x1 * y2 - x2 * y1).sign, .int .i64 0]) ∧ Below w.heap.size w w' := fun w => by
          have e1 := sgV_sg v1
          have e2 := sgV_sg v3
          by_cases hs : sgV a1 s1 = sgV a2 s2
          · have hs2 := hs
            rw [e1, e2] at hs2
            cases a1 with
            | false =>
              have h5 := CompareRatio_pos false false a2 false s1 t1 s2 t2 w v1 v2 v3 v4 g1 g2 hs rfl
              rw [sign_same n1 n2 hs2, hx1, hx2, hy1, hy2] at h5
              exact h5
            | true =>
              have h5 := CompareRatio_neg true false a2 false s1 t1 s2 t2 w v1 v2 v3 v4 g1 g2 hs rfl
              rw [sign_neg (pos_of_neg v1) hs2, hx1, hx2, hy1, hy2] at h5
              exact h5
          · have h5 := CompareRatio_diff a1 false a2 false s1 t1 s2 t2 w v1 v2 v3 v4 g1 g2 hs
            rw [e1, e2, hx1, hx2] at hs h5
            rw [sign_diff hp1 hp2 hs] at h5
            exact h5
        -- the sum
        have q1 : sg (a1 != false) (bv s1 * bv t2) = x1 * y2 := by rw [sg_mul2, hx1, sy2]
        have q2 : sg (a2 != false) (bv s2 * bv t1) = x2 * y1 := by rw [sg_mul2, hx2, sy1]
        have q3 : sg (a1 != a2) (bv s1 * bv s2) = x1 * x2 := by rw [sg_mul2, hx1, hx2]
        have h_a : ∀ w, Calls Tryz.prog 23 #[.agg #[.bool a1, .string s1, .bool false, .string t1], .agg #[.bool a2, .string s2, .bool false, .string t2]] w fun e w' => e = .returned (.tuple #[.agg #[.bool (zb ((x1 * y2 + x2 * y1) / lg (x1 * y2 + x2 * y1) (y1 * y2))), .string (zs ((x1 * y2 + x2 * y1) / lg (x1 * y2 + x2 * y1) (y1 * y2))), .bool (zb (y1 * y2 / lg (x1 * y2 + x2 * y1) (y1 * y2))), .string (zs (y1 * y2 / lg (x1 * y2 + x2 * y1) (y1 * y2)))], .int .i64 0]) ∧ Below w.heap.size w w' := fun w => by
          have hpl := pls_le (a1 != false) (a2 != false) (bv s1 * bv t2) (bv s2 * bv t1)
          have hps := pls_sg (a1 != false) (a2 != false) (bv s1 * bv t2) (bv s2 * bv t1)
          rw [q1, q2] at hps
          have hfr := addFrac a1 false a2 false (bv s1) (bv t1) (bv s2) (bv t2) (lt9 (bv_lt v1)) (lt9 (bv_lt v2)) (lt9 (bv_lt v3)) (lt9 (bv_lt v4)) (lt9 (by omega)) (lt9 (by omega))
          generalize (pls (a1 != false) (bv s1 * bv t2) (a2 != false) (bv s2 * bv t1)).1 = c at *
          generalize (pls (a1 != false) (bv s1 * bv t2) (a2 != false) (bv s2 * bv t1)).2 = kk at *
          have h5 := AddRatio_ok a1 false a2 false s1 t1 s2 t2 c kk _ _ w hfr (low_any kk (bv t1 * bv t2) (by omega) tD D0) v1 v2 v3 v4 g1 g2
          obtain ⟨⟨e1, e2⟩, e3, e4⟩ := low_c c kk (bv t1 * bv t2) D0 _ _ hps hDD
          have ec : (c != (false != false)) = c := by cases c <;> rfl
          rw [ec, e1, e2, e4] at h5
          unfold RPost rat at h5
          rw [← e3]
          exact h5
        have h_s : ∀ w, Calls Tryz.prog 24 #[.agg #[.bool a1, .string s1, .bool false, .string t1], .agg #[.bool a2, .string s2, .bool false, .string t2]] w fun e w' => e = .returned (.tuple #[.agg #[.bool (zb ((x1 * y2 - x2 * y1) / lg (x1 * y2 - x2 * y1) (y1 * y2))), .string (zs ((x1 * y2 - x2 * y1) / lg (x1 * y2 - x2 * y1) (y1 * y2))), .bool (zb (y1 * y2 / lg (x1 * y2 - x2 * y1) (y1 * y2))), .string (zs (y1 * y2 / lg (x1 * y2 - x2 * y1) (y1 * y2)))], .int .i64 0]) ∧ Below w.heap.size w w' := fun w => by
          have hpl := pls_le (a1 != false) (!(a2 != false)) (bv s1 * bv t2) (bv s2 * bv t1)
          have hps := pls_sg (a1 != false) (!(a2 != false)) (bv s1 * bv t2) (bv s2 * bv t1)
          rw [sg_not, q1, q2, ← Int.sub_eq_add_neg] at hps
          have hfr := subFrac a1 false a2 false (bv s1) (bv t1) (bv s2) (bv t2) (lt9 (bv_lt v1)) (lt9 (bv_lt v2)) (lt9 (bv_lt v3)) (lt9 (bv_lt v4)) (lt9 (by omega)) (lt9 (by omega))
          generalize (pls (a1 != false) (bv s1 * bv t2) (!(a2 != false)) (bv s2 * bv t1)).1 = c at *
          generalize (pls (a1 != false) (bv s1 * bv t2) (!(a2 != false)) (bv s2 * bv t1)).2 = kk at *
          have h5 := SubRatio_ok a1 false a2 false s1 t1 s2 t2 c kk _ _ w hfr (low_any kk (bv t1 * bv t2) (by omega) tD D0) v1 v2 v3 v4 g1 g2
          obtain ⟨⟨e1, e2⟩, e3, e4⟩ := low_c c kk (bv t1 * bv t2) D0 _ _ hps hDD
          have ec : (c != (false != false)) = c := by cases c <;> rfl
          rw [ec, e1, e2, e4] at h5
          unfold RPost rat at h5
          rw [← e3]
          exact h5
        have h_m : ∀ w, Calls Tryz.prog 25 #[.agg #[.bool a1, .string s1, .bool false, .string t1], .agg #[.bool a2, .string s2, .bool false, .string t2]] w fun e w' => e = .returned (.tuple #[.agg #[.bool (zb (x1 * x2 / lg (x1 * x2) (y1 * y2))), .string (zs (x1 * x2 / lg (x1 * x2) (y1 * y2))), .bool (zb (y1 * y2 / lg (x1 * x2) (y1 * y2))), .string (zs (y1 * y2 / lg (x1 * x2) (y1 * y2)))], .int .i64 0]) ∧ Below w.heap.size w w' := fun w => by
          have hfr := mulFrac a1 false a2 false (bv s1) (bv t1) (bv s2) (bv t2) (lt9 (bv_lt v1)) (lt9 (bv_lt v3))
          have h5 := MulRatio_ok a1 false a2 false s1 t1 s2 t2 _ _ _ _ w hfr (low_any _ (bv t1 * bv t2) tM tD D0) v1 v2 v3 v4 g1 g2
          obtain ⟨⟨e1, e2⟩, e3, e4⟩ := low_c (a1 != a2) (bv s1 * bv s2) (bv t1 * bv t2) D0 _ _ q3 hDD
          have ec : ((a1 != a2) != (false != false)) = (a1 != a2) := by cases a1 <;> cases a2 <;> rfl
          rw [ec, e1, e2, e4] at h5
          unfold RPost rat at h5
          rw [← e3]
          exact h5
        have fD2 : Fit (y1 * y2) (k + k + 1) := by
          show (y1 * y2).natAbs < _
          rw [Int.natAbs_mul, ay1, ay2]; exact fD
        have fS : ∀ z : Int, z.natAbs ≤ bv s1 * bv t2 + bv s2 * bv t1 → Fit z (k + k + 1) := fun z h => Nat.lt_of_le_of_lt h fA
        have a12 : (x1 * y2).natAbs = bv s1 * bv t2 := by rw [Int.natAbs_mul, ax1, ay2]
        have a21 : (x2 * y1).natAbs = bv s2 * bv t1 := by rw [Int.natAbs_mul, ax2, ay1]
        have fa := fS (x1 * y2 + x2 * y1) (by rw [← a12, ← a21]; omega)
        have fs := fS (x1 * y2 - x2 * y1) (by rw [← a12, ← a21]; omega)
        have fm : Fit (x1 * x2) (k + k + 1) := by
          show (x1 * x2).natAbs < _
          rw [Int.natAbs_mul, ax1, ax2]; exact fM
        have y0 : y1 * y2 ≠ 0 := by
          have := Int.mul_pos hp1 hp2
          omega
        have sz := fun (N : Int) (hN : Fit N (k + k + 1)) v1 v2 w g1 g2 => same_z (N / lg N (y1 * y2)) (y1 * y2 / lg N (y1 * y2)) (k + k + 1) hK (hN.le (low_abs N (y1 * y2) y0).1) (fD2.le (low_abs N (y1 * y2) y0).2) v1 v2 w g1 g2
        exact fracs_good a1 false a2 false s1 t1 s2 t2 w hsh _ x1 y1 x2 y2 _ _ _ _ _ _ _ _ _ _ _ _ _ _ _ _ _ _ h_c h_a h_s h_m h_v1 h_v2 h_f1 h_f2 h_cq h_aq h_sq h_mq (sz _ fa) (sz _ fs) (sz _ fm)
end Go.Proofs.YtlmklhffafcmmaaGreat

/- What comes in and goes out: wide integers and ratios. -/
namespace Go.Proofs.YtlmklhffafcmmaaGreat
open Go.ChangeShapes Go.WideShapes Go.ChangeAt Go.RowKit Go.Joins
open Go.ChangeMaps (open_string shut_string)

theorem Tryz.own : ownKnob Tryz.prog.godebug = none := by kernel_rfl
theorem Tryz.cellsWide : Tryz.prog.cellsOf 23 = 2 := by kernel_rfl

set_option maxRecDepth 100000 in
/-- A wide integer that came in. -/
theorem open_wide {H : Type} {enc : TypeId × Value → H} {w : World} {base : Nat} {b0 : Nat} {spare : Nat → Bool} {held : Bool} {r : Reach} {v : Value} {d : DataW H} {p : List MemPlace}
    (hv : Value.okWide Tryz.prog w r b0 23 v) (h : DataW.Trod enc Tryz.prog w base spare held 23 v d p) :
    ∃ (a : Bool) (s : ByteArray), v = .agg #[.bool a, .string s] ∧ d = .agg [.lit (.bool a), .lit (.string s.data.toList)] ∧ p = [] ∧ s.size ≤ maxLen := by
  obtain ⟨c0, c1, y0, y1, m, rfl, rfl, rfl, hy0, hy1⟩ := open_agg2 Tryz.underlying23 (by kernel_rfl) Tryz.cellsWide hv h
  obtain ⟨a, e0, rfl⟩ := DataW.trod_bool Tryz.underlying4 hy0
  obtain ⟨s, e1, rfl, hs⟩ := DataW.trod_string Tryz.underlying9 hy1
  simp at e0 e1
  subst e0 e1
  exact ⟨a, s, rfl, rfl, rfl, hs⟩
theorem shut_wide {H : Type} {enc : TypeId × Value → H} {w : World} {base : Nat} {spare : Nat → Bool} {held : Bool} {a : Bool} {s : ByteArray} (hs : s.size ≤ maxLen) :
    DataW.Trod enc Tryz.prog w base spare held 23 (.agg #[.bool a, .string s]) (.agg [.lit (.bool a), .lit (.string s.data.toList)]) [] :=
  shut_agg2 (y0 := (.lit (.bool a), [])) (y1 := (.lit (.string s.data.toList), [])) Tryz.underlying23 (by kernel_rfl) Tryz.cellsWide ⟨1, by simp [DataW.trod, Tryz.underlying4]⟩ ⟨1, by simp [DataW.trod, Tryz.underlying9, hs]⟩

theorem Tryz.cellsRatio : Tryz.prog.cellsOf 27 = 4 := by kernel_rfl
end Go.Proofs.YtlmklhffafcmmaaGreat

/- Ratios that come in and go out. -/
namespace Go.Proofs.YtlmklhffafcmmaaGreat
open Go.ChangeShapes Go.WideShapes Go.ChangeAt Go.RowKit Go.Joins Go.Deep
open Go.ChangeMaps (open_string shut_string)

/-- Two one-cell fields, read off their cells. -/
theorem cells2 {H : Type} {enc : TypeId × Value → H} {P : Program} {w : World} {base : Nat} {spare : Nat → Bool} {held : Bool} {t : TypeId} {f0 f1 : Field} {m : Nat} {c0 c1 : Value} {x : DataW H × List MemPlace}
    (hs : P.underlying t = some (.struct #[f0, f1])) (hone : oneCellFields P #[f0, f1] = true) (hf : DataW.trod enc P w base spare held m t [c0, c1] = some x) :
    ∃ (y0 y1 : DataW H × List MemPlace) (n : Nat), x = (.agg [y0.1, y1.1], y0.2 ++ y1.2) ∧ DataW.trod enc P w base spare held n f0.type [c0] = some y0 ∧ DataW.trod enc P w base spare held n f1.type [c1] = some y1 := by
  obtain ⟨y0, y1, n, hx, _, h0, h1⟩ := trod_struct2 hs hf
  obtain ⟨o0, k0⟩ := hone_of hone 0 f0 rfl
  obtain ⟨o1, k1⟩ := hone_of hone 1 f1 rfl
  exact ⟨y0, y1, n, hx, by simpa [o0, k0] using h0, by simpa [o1, k1] using h1⟩
/-- Two fields of two cells each, read off their cells. -/
theorem cells22 {H : Type} {enc : TypeId × Value → H} {P : Program} {w : World} {base : Nat} {spare : Nat → Bool} {held : Bool} {t : TypeId} {f0 f1 : Field} {m : Nat} {c0 c1 c2 c3 : Value} {x : DataW H × List MemPlace}
    (hs : P.underlying t = some (.struct #[f0, f1])) (o0 : f0.offset = 0) (o1 : f1.offset = 2) (k0 : P.cellsOf f0.type = 2) (k1 : P.cellsOf f1.type = 2) (hf : DataW.trod enc P w base spare held m t [c0, c1, c2, c3] = some x) :
    ∃ (y0 y1 : DataW H × List MemPlace) (n : Nat), x = (.agg [y0.1, y1.1], y0.2 ++ y1.2) ∧ DataW.trod enc P w base spare held n f0.type [c0, c1] = some y0 ∧ DataW.trod enc P w base spare held n f1.type [c2, c3] = some y1 := by
  obtain ⟨y0, y1, n, hx, _, h0, h1⟩ := trod_struct2 hs hf
  exact ⟨y0, y1, n, hx, by simpa [o0, k0] using h0, by simpa [o1, k1] using h1⟩
theorem shut22 {H : Type} {enc : TypeId × Value → H} {P : Program} {w : World} {base : Nat} {spare : Nat → Bool} {held : Bool} {t : TypeId} {f0 f1 : Field} {c0 c1 c2 c3 : Value} {y0 y1 : DataW H × List MemPlace}
    (hs : P.underlying t = some (.struct #[f0, f1])) (hC : P.cellsOf t = 4) (o0 : f0.offset = 0) (o1 : f1.offset = 2) (k0 : P.cellsOf f0.type = 2) (k1 : P.cellsOf f1.type = 2)
    (t0 : ∃ n, DataW.trod enc P w base spare held n f0.type [c0, c1] = some y0) (t1 : ∃ n, DataW.trod enc P w base spare held n f1.type [c2, c3] = some y1) :
    DataW.Trod enc P w base spare held t (.agg #[c0, c1, c2, c3]) (.agg [y0.1, y1.1]) (y0.2 ++ y1.2) := by
  obtain ⟨n0, t0⟩ := t0
  obtain ⟨n1, t1⟩ := t1
  have ts := trod_struct2_mk (enc := enc) (w := w) (base := base) (spare := spare) (held := held) (n := max n0 n1) (cs := [c0, c1, c2, c3]) hs (by simp [hC])
    (by simpa [o0, k0] using DataW.trod_le (Nat.le_max_left n0 n1) t0) (by simpa [o1, k1] using DataW.trod_le (Nat.le_max_right n0 n1) t1)
  exact ⟨_, by simpa [Value.cells] using ts⟩
set_option maxRecDepth 100000 in
/-- The cells of a wide integer. -/
theorem wide_cells {H : Type} {enc : TypeId × Value → H} {w : World} {base : Nat} {spare : Nat → Bool} {held : Bool} {m : Nat} {c0 c1 : Value} {x : DataW H × List MemPlace} (hf : DataW.trod enc Tryz.prog w base spare held m 23 [c0, c1] = some x) :
    ∃ (a : Bool) (s : ByteArray), c0 = .bool a ∧ c1 = .string s ∧ x = (.agg [.lit (.bool a), .lit (.string s.data.toList)], []) ∧ s.size ≤ maxLen := by
  obtain ⟨y0, y1, n, rfl, hy0, hy1⟩ := cells2 Tryz.underlying23 (by kernel_rfl) hf
  obtain ⟨a, e0, rfl⟩ := DataW.trod_bool Tryz.underlying4 hy0
  obtain ⟨s, e1, rfl, hs⟩ := DataW.trod_string Tryz.underlying9 hy1
  simp at e0 e1
  subst e0 e1
  exact ⟨a, s, rfl, rfl, rfl, hs⟩
set_option maxRecDepth 100000 in
/-- A ratio that came in. -/
theorem open_ratio {H : Type} {enc : TypeId × Value → H} {w : World} {base : Nat} {b0 : Nat} {spare : Nat → Bool} {held : Bool} {r : Reach} {v : Value} {d : DataW H} {p : List MemPlace}
    (hv : Value.okWide Tryz.prog w r b0 27 v) (h : DataW.Trod enc Tryz.prog w base spare held 27 v d p) :
    ∃ (a : Bool) (s : ByteArray) (b : Bool) (t : ByteArray), v = .agg #[.bool a, .string s, .bool b, .string t] ∧ d = .agg [.agg [.lit (.bool a), .lit (.string s.data.toList)], .agg [.lit (.bool b), .lit (.string t.data.toList)]] ∧ p = [] ∧ s.size ≤ maxLen ∧ t.size ≤ maxLen := by
  obtain ⟨cs, rfl, hsz⟩ := okWide_struct Tryz.underlying27 hv
  obtain ⟨c0, c1, c2, c3, rfl⟩ := array4 (hsz.trans Tryz.cellsRatio)
  obtain ⟨fuel, hf⟩ := h
  obtain ⟨y0, y1, n, hx, h0, h1⟩ := cells22 Tryz.underlying27 (by kernel_rfl) (by kernel_rfl) Tryz.cellsWide Tryz.cellsWide hf
  obtain ⟨a, s, rfl, rfl, rfl, hs⟩ := wide_cells h0
  obtain ⟨b, t, rfl, rfl, rfl, ht⟩ := wide_cells h1
  simp only [Prod.mk.injEq] at hx
  exact ⟨a, s, b, t, rfl, hx.1, hx.2, hs, ht⟩
set_option maxRecDepth 100000 in
theorem shut_ratio {H : Type} {enc : TypeId × Value → H} {w : World} {base : Nat} {spare : Nat → Bool} {held : Bool} {a b : Bool} {s t : ByteArray} (hs : s.size ≤ maxLen) (ht : t.size ≤ maxLen) :
    DataW.Trod enc Tryz.prog w base spare held 27 (.agg #[.bool a, .string s, .bool b, .string t]) (.agg [.agg [.lit (.bool a), .lit (.string s.data.toList)], .agg [.lit (.bool b), .lit (.string t.data.toList)]]) [] :=
  shut22 (y0 := (.agg [.lit (.bool a), .lit (.string s.data.toList)], [])) (y1 := (.agg [.lit (.bool b), .lit (.string t.data.toList)], [])) Tryz.underlying27 Tryz.cellsRatio (by kernel_rfl) (by kernel_rfl) Tryz.cellsWide Tryz.cellsWide (shut_wide hs) (shut_wide ht)
end Go.Proofs.YtlmklhffafcmmaaGreat

/- WideFractions gives true for all pairs of ratios (P1.8), and leaves its arguments as they were. No condition. -/
namespace Go.Proofs.YtlmklhffafcmmaaGreat
open Go.ChangeShapes Go.WideShapes Go.ChangeAt Go.RowKit Go.Joins
open Go.ChangeMaps (open_string shut_string)

set_option maxRecDepth 100000 in
theorem fracs_lifted (os : Os) (started : os.Started) (H : Type) (enc : TypeId × Value → H) :
    ReturnsInHanded {} Tryz.checked os 4 .any (Rows.wideFractionsSpec.pre6 enc Tryz.prog Tryz.f4 Rows.wideFractionsRow.domain false) (Rows.wideFractionsSpec.post enc Tryz.prog Tryz.f4 false true false false) := by
  refine returnsInHanded_of_change (C := Tryz.checked) Tryz.own started (by kernel_rfl) Tryz.func4
    (ChangeSpec.witness6 (enc := enc) (C := Tryz.checked) false ⟨#[], #[.agg #[.bool false, .string ⟨#[]⟩, .bool false, .string ⟨#[]⟩], .agg #[.bool false, .string ⟨#[]⟩, .bool false, .string ⟨#[]⟩]], []⟩ 8 (by kernel_rfl) (by kernel_rfl) (by kernel_rfl) (by kernel_rfl)) ?_
  intro W base args ds gs before hval0 hW hcnd _
  have hval : ∀ (j : Nat) t v, Tryz.f4.params[j]? = some t → args[j]? = some v → Value.okWide Tryz.prog W .any base t v := hval0
  have hW' := hW
  obtain ⟨p, q, hA0, hV, rfl, hfz, hnd⟩ := hW
  have hA : DataW.TrodAll enc Tryz.prog W 0 (fun _ => true) true Tryz.f4.params.toList args.toList ds p := hA0
  rw [Tryz.params4] at hA hval
  obtain ⟨v0, v1, d0, d1, p0, p1, rfl, rfl, rfl, h0, h1⟩ := trodAll_two hA
  obtain ⟨rfl, rfl⟩ := trodVars_none hV
  obtain ⟨a1, s1, b1, t1, rfl, rfl, rfl, hs1, ht1⟩ := open_ratio (hval 0 27 v0 rfl rfl) h0
  obtain ⟨a2, s2, b2, t2, rfl, rfl, rfl, hs2, ht2⟩ := open_ratio (hval 1 27 v1 rfl rfl) h1
  clear hA0 hval0
  refine (fracs_any a1 b1 a2 b2 s1 t1 s2 t2 W).mono fun e W' ⟨he, bel⟩ => ?_
  subst he
  exact ⟨_, rfl, _, _, _, [], _, [], hW', trodAll_mk1 (shut_bool Tryz.underlying4 _), trodAll_mk2 (shut_ratio hs1 ht1) (shut_ratio hs2 ht2), rfl, bel.frame _, fun h => by cases h⟩

/-- The statement. -/
theorem fracs_holds : Rows.WideFractionsSaid :=
  OpenClaim.holds_of_wide 4 Tryz.f4 rfl rfl rfl rfl rfl rfl rfl ⟨rfl, rfl, rfl, rfl, rfl⟩ rfl rfl rfl rfl rfl (by kernel_rfl) Tryz.func4 (by kernel_rfl)
    (of_decide_eq_true (by kernel_rfl)) (by unfold Func.isWrapper; first | (rw [if_pos (by decide +kernel)]; kernel_rfl) | (rw [if_neg (by decide +kernel)]; exact ⟨rfl, rfl⟩))
    (fun os started H enc _ => fracs_lifted os started H enc)
#print axioms fracs_holds
end Go.Proofs.YtlmklhffafcmmaaGreat
