/- vector's functions and the reference's, with what they give for valid vectors. -/
import Derived.Test.YtdicbeaocedkmaaVi
import Derived.Test.YtdicbeaocedkmaaVj
import Derived.Test.YtdicbeaocedkmaaVp
import Derived.Test.YtdicbeaocedkmaaVq
import Derived.Test.YtdicbeaocedkmaaVo
import Derived.Test.YtdicbeaocedkmaaVr
import Derived.Test.YtdicbeaocedkmaaVt
import Derived.Test.YtdicbeaocedkmaaVu
set_option linter.all false
namespace Go.Proofs.Ytdicbeaocedkmaa
open Go.RowKit

theorem mul_bd {x y M N : Int} (hx : -M ≤ x ∧ x ≤ M) (hy : -N ≤ y ∧ y ≤ N) : -(M * N) ≤ x * y ∧ x * y ≤ M * N := by
  have hM : 0 ≤ M := by omega
  have hN : 0 ≤ N := by omega
  have a1 : 0 ≤ (M - x) * (N - y) := Int.mul_nonneg (by omega) (by omega)
  have a2 : 0 ≤ (M + x) * (N + y) := Int.mul_nonneg (by omega) (by omega)
  have a3 : 0 ≤ (M - x) * (N + y) := Int.mul_nonneg (by omega) (by omega)
  have a4 : 0 ≤ (M + x) * (N - y) := Int.mul_nonneg (by omega) (by omega)
  constructor <;> grind

/-- Parts of a limited magnitude. -/
def BV (m x y z : Int) : Prop := (-m ≤ x ∧ x ≤ m) ∧ (-m ≤ y ∧ y ≤ m) ∧ (-m ≤ z ∧ z ≤ m)
theorem bv_of {m x y z : Int} (h : inV m x y z = true) : BV m x y z := inV_iff.1 h
theorem inL2 {x1 x2 x3 y1 y2 y3 : Int} {m : Int} (hx : inV m x1 x2 x3 = true) (hy : inV m y1 y2 y3 = true) : inL m [(x1, x2, x3), (y1, y2, y3)] = true := by simp [inL, hx, hy]
theorem inL3 {x1 x2 x3 y1 y2 y3 z1 z2 z3 : Int} {m : Int} (hx : inV m x1 x2 x3 = true) (hy : inV m y1 y2 y3 = true) (hz : inV m z1 z2 z3 = true) : inL m [(x1, x2, x3), (y1, y2, y3), (z1, z2, z3)] = true := by simp [inL, hx, hy, hz]

/-- A vector if it is valid, or the error for a result that is none. -/
def ckd (x y z : Int) : T3 × Int := if inV 16777216 x y z = true then ((x, y, z), 0) else ((0, 0, 0), 3)
theorem checked_any (x y z : Int) (w : World) : Calls Try.prog 44 #[vv x y z] w (Ret (.tuple #[vv (ckd x y z).1.1 (ckd x y z).1.2.1 (ckd x y z).1.2.2, .int .i64 (ckd x y z).2]) w) := by
  unfold ckd
  by_cases h : inV 16777216 x y z = true
  · rw [if_pos h]; exact checked_ok x y z h w
  · rw [if_neg h]; exact checked_bad x y z (by simpa using h) w

section
variable {x1 x2 x3 y1 y2 y3 z1 z2 z3 : Int}
theorem Add_any (hx : inV 16777216 x1 x2 x3 = true) (hy : inV 16777216 y1 y2 y3 = true) (w : World) :
    Calls Try.prog 17 #[vv x1 x2 x3, vv y1 y2 y3] w (Ret (.tuple #[vv (ckd (x1 + y1) (x2 + y2) (x3 + y3)).1.1 (ckd (x1 + y1) (x2 + y2) (x3 + y3)).1.2.1 (ckd (x1 + y1) (x2 + y2) (x3 + y3)).1.2.2, .int .i64 (ckd (x1 + y1) (x2 + y2) (x3 + y3)).2]) w) := by
  obtain ⟨a1, a2, a3⟩ := bv_of hx
  obtain ⟨b1, b2, b3⟩ := bv_of hy
  exact Add_way _ _ _ _ _ _ _ _ _ _ _ _ _ (inL2 hx hy) (fun w => combine_add _ _ _ _ _ _ _ _ _ w (add1_any _ _ _ (wrap_in (by omega))) (add1_any _ _ _ (wrap_in (by omega))) (add1_any _ _ _ (wrap_in (by omega)))) (fun w => checked_any _ _ _ w) w
theorem Sub_any (hx : inV 16777216 x1 x2 x3 = true) (hy : inV 16777216 y1 y2 y3 = true) (w : World) :
    Calls Try.prog 18 #[vv x1 x2 x3, vv y1 y2 y3] w (Ret (.tuple #[vv (ckd (x1 - y1) (x2 - y2) (x3 - y3)).1.1 (ckd (x1 - y1) (x2 - y2) (x3 - y3)).1.2.1 (ckd (x1 - y1) (x2 - y2) (x3 - y3)).1.2.2, .int .i64 (ckd (x1 - y1) (x2 - y2) (x3 - y3)).2]) w) := by
  obtain ⟨a1, a2, a3⟩ := bv_of hx
  obtain ⟨b1, b2, b3⟩ := bv_of hy
  exact Sub_way _ _ _ _ _ _ _ _ _ _ _ _ _ (inL2 hx hy) (fun w => difference_any _ _ _ _ _ _ _ _ _ (wrap_in (by omega)) (wrap_in (by omega)) (wrap_in (by omega)) w) (fun w => checked_any _ _ _ w) w

/-- The scalar product. -/
def dt (x1 x2 x3 y1 y2 y3 : Int) : Int := x1 * y1 + x2 * y2 + x3 * y3
theorem dot_ok {M : Int} (hM : 0 ≤ M ∧ M ≤ 33554432) (hx : BV M x1 x2 x3) (hy : BV M y1 y2 y3) (w : World) :
    Calls Try.prog 50 #[vv x1 x2 x3, vv y1 y2 y3] w (Ret (.int .i64 (dt x1 x2 x3 y1 y2 y3)) w) := by
  obtain ⟨a1, a2, a3⟩ := hx
  obtain ⟨b1, b2, b3⟩ := hy
  have hq : M * M ≤ 33554432 * 33554432 := (mul_bd (M := 33554432) (N := 33554432) (by omega) (by omega)).2
  have c1 := mul_bd a1 b1
  have c2 := mul_bd a2 b2
  have c3 := mul_bd a3 b3
  refine dot_any x1 x2 x3 y1 y2 y3 (x1 * y1) (x2 * y2) (x3 * y3) (x1 * y1 + x2 * y2) _ (wrap_in (by omega)) (wrap_in (by omega)) (wrap_in (by omega)) (wrap_in (by omega)) (wrap_in (by omega)) w
theorem Dot_any (hx : inV 16777216 x1 x2 x3 = true) (hy : inV 16777216 y1 y2 y3 = true) (w : World) :
    Calls Try.prog 24 #[vv x1 x2 x3, vv y1 y2 y3] w (Ret (.tuple #[.int .i64 (dt x1 x2 x3 y1 y2 y3), .int .i64 0]) w) :=
  Dot_way _ _ _ _ _ _ _ (inL2 hx hy) (fun w => dot_ok (by omega) (bv_of hx) (bv_of hy) w) w
theorem Length2_any (hx : inV 16777216 x1 x2 x3 = true) (w : World) :
    Calls Try.prog 26 #[vv x1 x2 x3] w (Ret (.tuple #[.int .i64 (dt x1 x2 x3 x1 x2 x3), .int .i64 0]) w) :=
  Length2_way _ _ _ _ _ (fun w => Dot_any hx hx w) w
theorem Length2_bad (hx : inV 16777216 x1 x2 x3 = false) (w : World) :
    Calls Try.prog 26 #[vv x1 x2 x3] w (Ret (.tuple #[.int .i64 0, .int .i64 2]) w) :=
  Length2_way _ _ _ _ _ (fun w => Dot_bad _ _ _ _ _ _ (by simp [inL, hx]) w) w
theorem diff_ok {M : Int} (hM : 0 ≤ M ∧ M ≤ 16777216) (hx : BV M x1 x2 x3) (hy : BV M y1 y2 y3) (w : World) :
    Calls Try.prog 47 #[vv x1 x2 x3, vv y1 y2 y3] w (Ret (vv (x1 - y1) (x2 - y2) (x3 - y3)) w) := by
  obtain ⟨a1, a2, a3⟩ := hx
  obtain ⟨b1, b2, b3⟩ := hy
  exact difference_any _ _ _ _ _ _ _ _ _ (wrap_in (by omega)) (wrap_in (by omega)) (wrap_in (by omega)) w
theorem bv_diff {M : Int} (hx : BV M x1 x2 x3) (hy : BV M y1 y2 y3) : BV (2 * M) (x1 - y1) (x2 - y2) (x3 - y3) := by
  obtain ⟨a1, a2, a3⟩ := hx
  obtain ⟨b1, b2, b3⟩ := hy
  exact ⟨by omega, by omega, by omega⟩
theorem Distance2_any (hx : inV 16777216 x1 x2 x3 = true) (hy : inV 16777216 y1 y2 y3 = true) (w : World) :
    Calls Try.prog 27 #[vv x1 x2 x3, vv y1 y2 y3] w (Ret (.tuple #[.int .i64 (dt (x1 - y1) (x2 - y2) (x3 - y3) (x1 - y1) (x2 - y2) (x3 - y3)), .int .i64 0]) w) := by
  have hd := bv_diff (bv_of hx) (bv_of hy)
  exact Distance2_way _ _ _ _ _ _ _ _ _ _ (inL2 hx hy) (fun w => diff_ok (by omega) (bv_of hx) (bv_of hy) w) (fun w => dot_ok (by omega) hd hd w) w
theorem cross_ok {M N : Int} (hM : 0 ≤ M ∧ M ≤ 33554432) (hN : 0 ≤ N ∧ N ≤ 33554432) (hx : BV M x1 x2 x3) (hy : BV N y1 y2 y3) (w : World) :
    Calls Try.prog 51 #[vv x1 x2 x3, vv y1 y2 y3] w (Ret (vv (x2 * y3 - x3 * y2) (x3 * y1 - x1 * y3) (x1 * y2 - x2 * y1)) w) := by
  obtain ⟨a1, a2, a3⟩ := hx
  obtain ⟨b1, b2, b3⟩ := hy
  have hq : M * N ≤ 33554432 * 33554432 := (mul_bd (M := 33554432) (N := 33554432) (by omega) (by omega)).2
  have c1 := mul_bd a2 b3
  have c2 := mul_bd a3 b2
  have c3 := mul_bd a3 b1
  have c4 := mul_bd a1 b3
  have c5 := mul_bd a1 b2
  have c6 := mul_bd a2 b1
  exact cross_any x1 x2 x3 y1 y2 y3 _ _ _ _ _ _ _ _ _ (wrap_in (by omega)) (wrap_in (by omega)) (wrap_in (by omega)) (wrap_in (by omega)) (wrap_in (by omega)) (wrap_in (by omega)) (wrap_in (by omega)) (wrap_in (by omega)) (wrap_in (by omega)) w
theorem Cross_any (hx : inV 16777216 x1 x2 x3 = true) (hy : inV 16777216 y1 y2 y3 = true) (w : World) :
    Calls Try.prog 25 #[vv x1 x2 x3, vv y1 y2 y3] w (Ret (.tuple #[vv (x2 * y3 - x3 * y2) (x3 * y1 - x1 * y3) (x1 * y2 - x2 * y1), .int .i64 0]) w) :=
  Cross_way _ _ _ _ _ _ _ _ _ (inL2 hx hy) (fun w => cross_ok (by omega) (by omega) (bv_of hx) (bv_of hy) w) w
/-- Twice the area of the triangle, seen from above. -/
def tz (x1 x2 y1 y2 z1 z2 : Int) : Int := (y1 - x1) * (z2 - x2) - (y2 - x2) * (z1 - x1)
theorem Turn_any (hx : inV 16777216 x1 x2 x3 = true) (hy : inV 16777216 y1 y2 y3 = true) (hz : inV 16777216 z1 z2 z3 = true) (w : World) :
    Calls Try.prog 33 #[vv x1 x2 x3, vv y1 y2 y3, vv z1 z2 z3] w (Ret (.tuple #[.int .i64 (cmpI (tz x1 x2 y1 y2 z1 z2) 0), .int .i64 0]) w) :=
  Turn_way _ _ _ _ _ _ _ _ _ _ _ _ _ _ _ _ _ _ (inL3 hx hy hz) (fun w => diff_ok (by omega) (bv_of hy) (bv_of hx) w) (fun w => diff_ok (by omega) (bv_of hz) (bv_of hx) w)
    (fun w => cross_ok (by omega) (by omega) (bv_diff (bv_of hy) (bv_of hx)) (bv_diff (bv_of hz) (bv_of hx)) w) w

/-- A part of the point between. -/
def bt (x y num den : Int) : Int := x + nr ((y - x) * num) den
theorem nr_le {n d k : Int} (hd : 0 < d) (h : n ≤ k * d) : nr n d ≤ k := by
  unfold nr
  have e : (k + 1) * (2 * d) = 2 * (k * d) + 2 * d := by rw [Int.add_mul, Int.one_mul, Int.mul_left_comm]
  have : (2 * n + d) / (2 * d) < k + 1 := Int.ediv_lt_of_lt_mul (by omega) (by omega)
  omega
theorem le_nr {n d k : Int} (hd : 0 < d) (h : k * d ≤ n) : k ≤ nr n d := by
  unfold nr
  have e : k * (2 * d) = 2 * (k * d) := by rw [Int.mul_left_comm]
  exact Int.le_ediv_of_mul_le (by omega) (by omega)
theorem nr_up {a num den : Int} (hd : 0 < den) (hn : 0 ≤ num ∧ num ≤ den) (ha : 0 ≤ a) : 0 ≤ nr (a * num) den ∧ nr (a * num) den ≤ a := by
  have h1 : 0 ≤ a * num := Int.mul_nonneg ha hn.1
  have h2 : a * num ≤ a * den := Int.mul_le_mul_of_nonneg_left hn.2 ha
  exact ⟨le_nr hd (by omega), nr_le hd h2⟩
theorem nr_dn {a num den : Int} (hd : 0 < den) (hn : 0 ≤ num ∧ num ≤ den) (ha : a ≤ 0) : a ≤ nr (a * num) den ∧ nr (a * num) den ≤ 0 := by
  have h1 : 0 ≤ -a * num := Int.mul_nonneg (by omega) hn.1
  have h2 : -a * num ≤ -a * den := Int.mul_le_mul_of_nonneg_left hn.2 (by omega)
  rw [Int.neg_mul] at h1 h2
  rw [Int.neg_mul] at h2
  exact ⟨le_nr hd (by omega), nr_le hd (by omega)⟩
/-- The point between lies between. -/
theorem bt_between {x y num den : Int} (hd : 0 < den) (hn : 0 ≤ num ∧ num ≤ den) : (x ≤ bt x y num den ∧ bt x y num den ≤ y) ∨ (y ≤ bt x y num den ∧ bt x y num den ≤ x) := by
  unfold bt
  rcases Int.le_total 0 (y - x) with h | h
  · have := nr_up hd hn h; omega
  · have := nr_dn hd hn h; omega
theorem nr_zero {den : Int} (hd : 0 < den) : nr 0 den = 0 := by
  have h1 := nr_le (n := 0) (k := 0) hd (by omega)
  have h2 := le_nr (n := 0) (k := 0) hd (by omega)
  omega
theorem nr_self {a den : Int} (hd : 0 < den) : nr (a * den) den = a := by
  have h1 := nr_le (n := a * den) (k := a) hd (Int.le_refl _)
  have h2 := le_nr (n := a * den) (k := a) hd (Int.le_refl _)
  omega
theorem bt_zero {x y den : Int} (hd : 0 < den) : bt x y 0 den = x := by unfold bt; rw [Int.mul_zero, nr_zero hd]; omega
theorem bt_den {x y den : Int} (hd : 0 < den) : bt x y den den = y := by unfold bt; rw [nr_self hd]; omega

/-- What Between makes of one part. -/
theorem btw_part {x y num den : Int} (hx : -16777216 ≤ x ∧ x ≤ 16777216) (hy : -16777216 ≤ y ∧ y ≤ 16777216) (hd : 0 < den ∧ den ≤ 4294967296) (hn : 0 ≤ num ∧ num ≤ den) (gn gd : Nat) (w : World)
    (kn : w.cell? ⟨gn, 0, none⟩ = some (.int .i64 num)) (kd : w.cell? ⟨gd, 0, none⟩ = some (.int .i64 den)) :
    Calls Try.prog 52 #[.int .i64 x, .int .i64 y, .pointer (some ⟨gn, 0, none⟩), .pointer (some ⟨gd, 0, none⟩)] w (fun e w' => e = .returned (.int .i64 (bt x y num den)) ∧ ∃ m, w' = w.drewN m) := by
  have hb := mul_bd (x := y - x) (M := 33554432) (y := num) (N := 4294967296) (by omega) (by omega)
  have h3 := bt_between (x := x) (y := y) hd.1 hn
  exact btw1_any x y num den (y - x) ((y - x) * num) _ gn gd w (wrap_in (by omega)) (wrap_in (by omega)) hd (by omega) (wrap_in (by unfold bt at h3; omega)) kn kd
theorem Between_any (hx : inV 16777216 x1 x2 x3 = true) (hy : inV 16777216 y1 y2 y3 = true) {num den : Int} (hd : 0 < den ∧ den ≤ 4294967296) (hn : 0 ≤ num ∧ num ≤ den) (w : World) :
    Calls Try.prog 31 #[vv x1 x2 x3, vv y1 y2 y3, .int .i64 num, .int .i64 den] w (Ret (.tuple #[vv (bt x1 y1 num den) (bt x2 y2 num den) (bt x3 y3 num den), .int .i64 0]) w) := by
  obtain ⟨a1, a2, a3⟩ := bv_of hx
  obtain ⟨b1, b2, b3⟩ := bv_of hy
  exact Between_way _ _ _ _ _ _ _ _ _ _ _ (inL2 hx hy) (by omega) (by omega) (by omega) (by omega)
    (fun gn gd w kn kd => combine_btw _ _ _ _ _ _ _ _ _ _ _ gn gd w kn kd (fun w' => btw_part a1 b1 hd hn gn gd w') (fun w' => btw_part a2 b2 hd hn gn gd w') (fun w' => btw_part a3 b3 hd hn gn gd w')) w
theorem Between_bad {num den : Int} (h : inL 16777216 [(x1, x2, x3), (y1, y2, y3)] = false ∨ den < 1 ∨ 4294967296 < den ∨ num < 0 ∨ den < num) (w : World) :
    Calls Try.prog 31 #[vv x1 x2 x3, vv y1 y2 y3, .int .i64 num, .int .i64 den] w (Ret (.tuple #[vv 0 0 0, .int .i64 2]) w) := by
  by_cases hl : inL 16777216 [(x1, x2, x3), (y1, y2, y3)] = true
  · by_cases h1 : den < 1
    · exact Between_d0 _ _ _ _ _ _ _ _ hl h1 w
    by_cases h2 : 4294967296 < den
    · exact Between_d1 _ _ _ _ _ _ _ _ hl h1 h2 w
    by_cases h3 : num < 0
    · exact Between_n0 _ _ _ _ _ _ _ _ hl h1 h2 h3 w
    by_cases h4 : den < num
    · exact Between_n1 _ _ _ _ _ _ _ _ hl h1 h2 h3 h4 w
    · exfalso; rw [hl] at h; simp at h; omega
  · exact Between_l _ _ _ _ _ _ _ _ (by simpa using hl) w

/-! The reference. -/
theorem rAdd_ok {M : Int} (hM : 0 ≤ M ∧ M ≤ 1099511627776) (hx : BV M x1 x2 x3) (hy : BV M y1 y2 y3) (w : World) :
    Calls Try.prog 22 #[vv x1 x2 x3, vv y1 y2 y3] w (Ret (vv (x1 + y1) (x2 + y2) (x3 + y3)) w) := by
  obtain ⟨a1, a2, a3⟩ := hx
  obtain ⟨b1, b2, b3⟩ := hy
  exact rAdd_any _ _ _ _ _ _ _ _ _ (wrap_in (by omega)) (wrap_in (by omega)) (wrap_in (by omega)) w
theorem rSub_ok {M : Int} (hM : 0 ≤ M ∧ M ≤ 1099511627776) (hx : BV M x1 x2 x3) (hy : BV M y1 y2 y3) (w : World) :
    Calls Try.prog 23 #[vv x1 x2 x3, vv y1 y2 y3] w (Ret (vv (x1 - y1) (x2 - y2) (x3 - y3)) w) := by
  obtain ⟨a1, a2, a3⟩ := hx
  obtain ⟨b1, b2, b3⟩ := hy
  refine rSub_way _ _ _ _ _ _ (-y1) (-y2) (-y3) _ _ _ (fun w => rNeg_any _ _ _ _ _ _ (wrap_in (by omega)) (wrap_in (by omega)) (wrap_in (by omega)) w) (fun w => rAdd_any _ _ _ _ _ _ _ _ _ ?_ ?_ ?_ w) w
  · rw [← Int.sub_eq_add_neg]; exact wrap_in (by omega)
  · rw [← Int.sub_eq_add_neg]; exact wrap_in (by omega)
  · rw [← Int.sub_eq_add_neg]; exact wrap_in (by omega)
theorem rDot_ok {M : Int} (hM : 0 ≤ M ∧ M ≤ 33554432) (hx : BV M x1 x2 x3) (hy : BV M y1 y2 y3) (w : World) :
    Calls Try.prog 28 #[vv x1 x2 x3, vv y1 y2 y3] w (Ret (.int .i64 (dt x1 x2 x3 y1 y2 y3)) w) := by
  obtain ⟨a1, a2, a3⟩ := hx
  obtain ⟨b1, b2, b3⟩ := hy
  have hq : M * M ≤ 33554432 * 33554432 := (mul_bd (M := 33554432) (N := 33554432) (by omega) (by omega)).2
  have c1 := mul_bd a1 b1
  have c2 := mul_bd a2 b2
  have c3 := mul_bd a3 b3
  exact rDot_any x1 x2 x3 y1 y2 y3 (x1 * y1) (x2 * y2) (x3 * y3) (x1 * y1 + x2 * y2) _ (wrap_in (by omega)) (wrap_in (by omega)) (wrap_in (by omega)) (by rw [Int.zero_add]; exact wrap_in (by omega)) (wrap_in (by omega)) (wrap_in (by omega)) w
theorem rCross_ok {M N : Int} (hM : 0 ≤ M ∧ M ≤ 33554432) (hN : 0 ≤ N ∧ N ≤ 33554432) (hx : BV M x1 x2 x3) (hy : BV N y1 y2 y3) (w : World) :
    Calls Try.prog 29 #[vv x1 x2 x3, vv y1 y2 y3] w (Ret (vv (x2 * y3 - x3 * y2) (x3 * y1 - x1 * y3) (x1 * y2 - x2 * y1)) w) := by
  obtain ⟨a1, a2, a3⟩ := hx
  obtain ⟨b1, b2, b3⟩ := hy
  have hq : M * N ≤ 33554432 * 33554432 := (mul_bd (M := 33554432) (N := 33554432) (by omega) (by omega)).2
  have c1 := mul_bd a2 b3
  have c2 := mul_bd a3 b2
  have c3 := mul_bd a3 b1
  have c4 := mul_bd a1 b3
  have c5 := mul_bd a1 b2
  have c6 := mul_bd a2 b1
  exact rCross_any x1 x2 x3 y1 y2 y3 _ _ _ _ _ _ _ _ _ (wrap_in (by omega)) (wrap_in (by omega)) (wrap_in (by omega)) (wrap_in (by omega)) (wrap_in (by omega)) (wrap_in (by omega)) (wrap_in (by omega)) (wrap_in (by omega)) (wrap_in (by omega)) w
theorem rDistance2_any (hx : inV 16777216 x1 x2 x3 = true) (hy : inV 16777216 y1 y2 y3 = true) (w : World) :
    Calls Try.prog 30 #[vv x1 x2 x3, vv y1 y2 y3] w (Ret (.int .i64 (dt (x1 - y1) (x2 - y2) (x3 - y3) (x1 - y1) (x2 - y2) (x3 - y3))) w) := by
  have hd := bv_diff (bv_of hx) (bv_of hy)
  exact rDistance2_way _ _ _ _ _ _ _ _ _ _ (fun w => rSub_ok (by omega) (bv_of hx) (bv_of hy) w) (fun w => rDot_ok (by omega) hd hd w) w
theorem rTurn_any (hx : inV 16777216 x1 x2 x3 = true) (hy : inV 16777216 y1 y2 y3 = true) (hz : inV 16777216 z1 z2 z3 = true) (w : World) :
    Calls Try.prog 34 #[vv x1 x2 x3, vv y1 y2 y3, vv z1 z2 z3] w (Ret (.int .i64 (cmpI (tz x1 x2 y1 y2 z1 z2) 0)) w) := by
  have H1 := fun w => rSub_ok (M := 16777216) (by omega) (bv_of hy) (bv_of hx) w
  have H2 := fun w => rSub_ok (M := 16777216) (by omega) (bv_of hz) (bv_of hx) w
  have H3 := fun w => rCross_ok (by omega) (by omega) (bv_diff (bv_of hy) (bv_of hx)) (bv_diff (bv_of hz) (bv_of hx)) w
  by_cases h : 0 < tz x1 x2 y1 y2 z1 z2
  · rw [show cmpI (tz x1 x2 y1 y2 z1 z2) 0 = 1 by unfold cmpI; rw [if_neg (by omega), if_pos h]]
    exact rTurn_p _ _ _ _ _ _ _ _ _ _ _ _ _ _ _ _ _ _ h H1 H2 H3 w
  by_cases h2 : tz x1 x2 y1 y2 z1 z2 < 0
  · rw [show cmpI (tz x1 x2 y1 y2 z1 z2) 0 = -1 by unfold cmpI; rw [if_pos h2]]
    exact rTurn_n _ _ _ _ _ _ _ _ _ _ _ _ _ _ _ _ _ _ h h2 H1 H2 H3 w
  · rw [show cmpI (tz x1 x2 y1 y2 z1 z2) 0 = 0 by unfold cmpI; rw [if_neg h2, if_neg (by omega)]]
    exact rTurn_z _ _ _ _ _ _ _ _ _ _ _ _ _ _ _ _ _ _ h h2 H1 H2 H3 w
theorem rBetween_any (hx : inV 16777216 x1 x2 x3 = true) (hy : inV 16777216 y1 y2 y3 = true) {num den : Int} (hd : 0 < den ∧ den ≤ 4294967296) (hn : 0 ≤ num ∧ num ≤ den) (w : World) :
    Calls Try.prog 32 #[vv x1 x2 x3, vv y1 y2 y3, .int .i64 num, .int .i64 den] w (Ret (vv (bt x1 y1 num den) (bt x2 y2 num den) (bt x3 y3 num den)) w) := by
  obtain ⟨a1, a2, a3⟩ := bv_of hx
  obtain ⟨b1, b2, b3⟩ := bv_of hy
  have P1 := mul_bd (x := y1 - x1) (M := 33554432) (y := num) (N := 4294967296) (by omega) (by omega)
  have P2 := mul_bd (x := y2 - x2) (M := 33554432) (y := num) (N := 4294967296) (by omega) (by omega)
  have P3 := mul_bd (x := y3 - x3) (M := 33554432) (y := num) (N := 4294967296) (by omega) (by omega)
  have h1 := bt_between (x := x1) (y := y1) hd.1 hn
  have h2 := bt_between (x := x2) (y := y2) hd.1 hn
  have h3 := bt_between (x := x3) (y := y3) hd.1 hn
  exact rBetween_way _ _ _ _ _ _ _ _ _ _ _ _ _ _ _ _ _ _ _ _ (wrap_in (by omega)) (wrap_in (by omega)) (wrap_in (by omega)) (fun w => rSub_ok (by omega) (bv_of hy) (bv_of hx) w)
    (fun w => rRound_any _ _ hd (by omega) w) (fun w => rRound_any _ _ hd (by omega) w) (fun w => rRound_any _ _ hd (by omega) w)
    (fun w => rAdd_any _ _ _ _ _ _ _ _ _ (wrap_in (by unfold bt at h1; omega)) (wrap_in (by unfold bt at h2; omega)) (wrap_in (by unfold bt at h3; omega)) w) w

/-- The order of vectors. -/
def vC (x1 x2 x3 y1 y2 y3 : Int) : Int := if cmpI x1 y1 ≠ 0 then cmpI x1 y1 else if cmpI x2 y2 ≠ 0 then cmpI x2 y2 else cmpI x3 y3
theorem cmpI_zero {a b : Int} : cmpI a b = 0 ↔ a = b := by unfold cmpI; split <;> (try split) <;> omega
theorem Compare_any (w : World) : Calls Try.prog 14 #[vv x1 x2 x3, vv y1 y2 y3] w (Ret (.int .i64 (vC x1 x2 x3 y1 y2 y3)) w) := by
  unfold vC
  by_cases h1 : cmpI x1 y1 = 0
  · rw [if_neg (by simpa using h1)]
    have e1 := cmpI_zero.1 h1
    by_cases h2 : cmpI x2 y2 = 0
    · rw [if_neg (by simpa using h2)]
      have e2 := cmpI_zero.1 h2
      by_cases h3 : cmpI x3 y3 = 0
      · rw [h3]
        exact Compare_3 _ _ _ _ _ _ e1 e2 (cmpI_zero.1 h3) w
      · exact Compare_2 _ _ _ _ _ _ e1 e2 h3 w
    · rw [if_pos h2]; exact Compare_1 _ _ _ _ _ _ e1 h2 w
  · rw [if_pos h1]; exact Compare_0 _ _ _ _ _ _ h1 w
theorem cmpI_lt {a b : Int} (h : a < b) : cmpI a b = -1 := by unfold cmpI; rw [if_pos h]
theorem cmpI_gt {a b : Int} (h : b < a) : cmpI a b = 1 := by unfold cmpI; rw [if_neg (by omega), if_pos h]
theorem rCompare_any (w : World) : Calls Try.prog 15 #[vv x1 x2 x3, vv y1 y2 y3] w (Ret (.int .i64 (vC x1 x2 x3 y1 y2 y3)) w) := by
  unfold vC
  rcases Int.lt_trichotomy x1 y1 with h1 | h1 | h1
  · rw [cmpI_lt h1]; exact rCompare_0lt _ _ _ _ _ _ h1 w
  · rw [cmpI_zero.2 h1, if_neg (by simp)]
    rcases Int.lt_trichotomy x2 y2 with h2 | h2 | h2
    · rw [cmpI_lt h2]; exact rCompare_1lt _ _ _ _ _ _ h1 h2 w
    · rw [cmpI_zero.2 h2, if_neg (by simp)]
      rcases Int.lt_trichotomy x3 y3 with h3 | h3 | h3
      · rw [cmpI_lt h3]; exact rCompare_2lt _ _ _ _ _ _ h1 h2 h3 w
      · rw [cmpI_zero.2 h3]; exact rCompare_3 _ _ _ _ _ _ h1 h2 h3 w
      · rw [cmpI_gt h3]; exact rCompare_2gt _ _ _ _ _ _ h1 h2 (by omega) h3 w
    · rw [cmpI_gt h2]; exact rCompare_1gt _ _ _ _ _ _ h1 (by omega) h2 w
  · rw [cmpI_gt h1]; exact rCompare_0gt _ _ _ _ _ _ (by omega) h1 w

/-- The product with a number. -/
def sc (x1 x2 x3 by_ : Int) : T3 × Int :=
  if vE x1 x2 x3 0 0 0 = true then ((x1, x2, x3), 0) else if 16777216 < by_ ∨ by_ < -16777216 then ((0, 0, 0), 3) else ckd (x1 * by_) (x2 * by_) (x3 * by_)
theorem products_ok {M N : Int} (hM : 0 ≤ M ∧ M ≤ 33554432) (hN : 0 ≤ N ∧ N ≤ 33554432) (hx : BV M x1 x2 x3) (hy : BV N y1 y2 y3) (w : World) :
    Calls Try.prog 48 #[vv x1 x2 x3, vv y1 y2 y3] w (Ret (vv (x1 * y1) (x2 * y2) (x3 * y3)) w) := by
  obtain ⟨a1, a2, a3⟩ := hx
  obtain ⟨b1, b2, b3⟩ := hy
  have hq : M * N ≤ 33554432 * 33554432 := (mul_bd (M := 33554432) (N := 33554432) (by omega) (by omega)).2
  have c1 := mul_bd a1 b1
  have c2 := mul_bd a2 b2
  have c3 := mul_bd a3 b3
  exact products_any x1 x2 x3 y1 y2 y3 _ _ _ (wrap_in (by omega)) (wrap_in (by omega)) (wrap_in (by omega)) w
theorem vE_false {x1 x2 x3 : Int} (h : vE x1 x2 x3 0 0 0 = false) : ¬ (x1 = 0 ∧ x2 = 0 ∧ x3 = 0) := fun e => by rw [vE_iff.2 e] at h; cases h
theorem far_mul {x c : Int} (hc : 16777217 ≤ c ∨ c ≤ -16777217) (h : x ≠ 0) : ¬ (-16777216 ≤ x * c ∧ x * c ≤ 16777216) := by
  intro ⟨h1, h2⟩
  rcases Int.lt_trichotomy x 0 with hx | hx | hx
  · rcases hc with hc | hc
    · have := Int.mul_le_mul_of_nonneg_right (show x ≤ -1 by omega) (show 0 ≤ c by omega); omega
    · have := Int.mul_nonneg (show 0 ≤ -x - 1 by omega) (show 0 ≤ -c by omega)
      have e : (-x - 1) * -c = x * c + c := by grind
      omega
  · exact h hx
  · rcases hc with hc | hc
    · have := Int.mul_le_mul_of_nonneg_right (show 1 ≤ x by omega) (show 0 ≤ c by omega); omega
    · have := Int.mul_nonneg (show 0 ≤ x - 1 by omega) (show 0 ≤ -c by omega)
      have e : (x - 1) * -c = c - x * c := by grind
      omega
theorem ckd_far {c : Int} (hc : 16777217 ≤ c ∨ c ≤ -16777217) (h : vE x1 x2 x3 0 0 0 = false) : ckd (x1 * c) (x2 * c) (x3 * c) = ((0, 0, 0), 3) := by
  unfold ckd
  rw [if_neg]
  intro hv
  obtain ⟨h1, h2, h3⟩ := inV_iff.1 hv
  apply vE_false h
  refine ⟨?_, ?_, ?_⟩
  · exact Classical.byContradiction fun e => far_mul hc e h1
  · exact Classical.byContradiction fun e => far_mul hc e h2
  · exact Classical.byContradiction fun e => far_mul hc e h3
theorem ckd_zero : ckd 0 0 0 = ((0, 0, 0), 0) := rfl
theorem Scale_any (hx : inV 16777216 x1 x2 x3 = true) (by_ : Int) (w : World) :
    Calls Try.prog 19 #[vv x1 x2 x3, .int .i64 by_] w (Ret (.tuple #[vv (sc x1 x2 x3 by_).1.1 (sc x1 x2 x3 by_).1.2.1 (sc x1 x2 x3 by_).1.2.2, .int .i64 (sc x1 x2 x3 by_).2]) w) := by
  have key : ∀ c, -16777217 ≤ c ∧ c ≤ 16777217 → ckd (x1 * c) (x2 * c) (x3 * c) = sc x1 x2 x3 by_ → (∀ w, Calls Try.prog 48 #[vv x1 x2 x3, vv c c c] w (Ret (vv (x1 * c) (x2 * c) (x3 * c)) w)) ∧
      (∀ w, Calls Try.prog 44 #[vv (x1 * c) (x2 * c) (x3 * c)] w (Ret (.tuple #[vv (sc x1 x2 x3 by_).1.1 (sc x1 x2 x3 by_).1.2.1 (sc x1 x2 x3 by_).1.2.2, .int .i64 (sc x1 x2 x3 by_).2]) w)) := fun c hc he =>
    ⟨fun w => products_ok (M := 16777216) (N := 16777217) (by omega) (by omega) (bv_of hx) ⟨hc, hc, hc⟩ w, fun w => by rw [← he]; exact checked_any _ _ _ w⟩
  have hsc : ∀ c, (16777217 ≤ c ∨ c ≤ -16777217) → (16777216 < by_ ∨ by_ < -16777216) → ckd (x1 * c) (x2 * c) (x3 * c) = sc x1 x2 x3 by_ := by
    intro c hc hb
    unfold sc
    by_cases hz : vE x1 x2 x3 0 0 0 = true
    · rw [if_pos hz]
      obtain ⟨rfl, rfl, rfl⟩ := vE_iff.1 hz
      rw [Int.zero_mul]; exact ckd_zero
    · rw [if_neg hz, if_pos hb]; exact ckd_far hc (by simpa using hz)
  by_cases hl : by_ < -16777217
  · obtain ⟨k1, k2⟩ := key (-16777217) (by omega) (hsc _ (by omega) (by omega))
    exact Scale_lo _ _ _ _ _ _ _ _ _ _ _ hx hl k1 k2 w
  by_cases hh : 16777217 < by_
  · obtain ⟨k1, k2⟩ := key 16777217 (by omega) (hsc _ (by omega) (by omega))
    exact Scale_hi _ _ _ _ _ _ _ _ _ _ _ hx hl hh k1 k2 w
  · have he : ckd (x1 * by_) (x2 * by_) (x3 * by_) = sc x1 x2 x3 by_ := by
      by_cases hb : 16777216 < by_ ∨ by_ < -16777216
      · exact hsc by_ (by omega) hb
      · unfold sc
        by_cases hz : vE x1 x2 x3 0 0 0 = true
        · rw [if_pos hz]
          obtain ⟨rfl, rfl, rfl⟩ := vE_iff.1 hz
          rw [Int.zero_mul]; exact ckd_zero
        · rw [if_neg hz, if_neg hb]
    obtain ⟨k1, k2⟩ := key by_ (by omega) he
    exact Scale_in _ _ _ _ _ _ _ _ _ _ _ hx hl hh k1 k2 w
theorem rScale_any (hx : inV 16777216 x1 x2 x3 = true) (by_ : Int) (w : World) :
    Calls Try.prog 20 #[vv x1 x2 x3, .int .i64 by_] w (Ret (.tuple #[vv (sc x1 x2 x3 by_).1.1 (sc x1 x2 x3 by_).1.2.1 (sc x1 x2 x3 by_).1.2.2, .int .i64 (sc x1 x2 x3 by_).2]) w) := by
  unfold sc
  by_cases hz : vE x1 x2 x3 0 0 0 = true
  · rw [if_pos hz]; exact rScale_zero _ _ _ _ 0 0 0 hz w
  rw [if_neg hz]
  have hz2 : vE x1 x2 x3 0 0 0 = false := by simpa using hz
  by_cases h1 : 16777216 < by_
  · rw [if_pos (.inl h1)]; exact rScale_hi _ _ _ _ 0 0 0 hz2 h1 w
  by_cases h2 : by_ < -16777216
  · rw [if_pos (.inr h2)]; exact rScale_lo _ _ _ _ 0 0 0 hz2 h1 h2 w
  rw [if_neg (by omega)]
  obtain ⟨a1, a2, a3⟩ := bv_of hx
  have c1 := mul_bd (y := by_) (N := 16777216) a1 (by omega)
  have c2 := mul_bd (y := by_) (N := 16777216) a2 (by omega)
  have c3 := mul_bd (y := by_) (N := 16777216) a3 (by omega)
  unfold ckd
  by_cases hv : inV 16777216 (x1 * by_) (x2 * by_) (x3 * by_) = true
  · rw [if_pos hv]
    exact rScale_ok _ _ _ _ _ _ _ hz2 h1 h2 (wrap_in (by omega)) (wrap_in (by omega)) (wrap_in (by omega)) hv w
  · rw [if_neg hv]
    exact rScale_bad _ _ _ _ _ _ _ hz2 h1 h2 (wrap_in (by omega)) (wrap_in (by omega)) (wrap_in (by omega)) (by simpa using hv) w
end
end Go.Proofs.Ytdicbeaocedkmaa
