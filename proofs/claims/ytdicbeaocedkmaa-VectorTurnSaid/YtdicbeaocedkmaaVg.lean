/- vector.nearest: the nearest integer to a quotient; what Between does with each part. -/
import Derived.Test.YtdicbeaocedkmaaVf
set_option linter.all false
namespace Go.Proofs.Ytdicbeaocedkmaa
open Go.RowKit

/-- The integer nearest to n / d, the greater one of two. -/
def nr (n d : Int) : Int := (2 * n + d) / (2 * d)
theorem tmod_neg {a b : Int} (hb : 0 < b) (h : a.tmod b < 0) : a.tdiv b - 1 = a / b := by
  have h1 := Int.mul_tdiv_add_tmod a b
  have h2 := Int.lt_tmod_of_pos a hb
  generalize a.tdiv b = q at *
  generalize a.tmod b = r at *
  symm
  rw [Int.ediv_eq_iff_of_pos hb]
  have h3 : b * (q - 1) = b * q - b := by rw [Int.mul_sub, Int.mul_one]
  have h4 : (q - 1) * b = b * q - b := by rw [Int.mul_comm]; exact h3
  omega
theorem tmod_pos {a b : Int} (hb : 0 < b) (h : ¬ a.tmod b < 0) : a.tdiv b = a / b := by
  have h1 := Int.mul_tdiv_add_tmod a b
  have h2 := Int.tmod_lt_of_pos a hb
  generalize a.tdiv b = q at *
  generalize a.tmod b = r at *
  symm
  rw [Int.ediv_eq_iff_of_pos hb]
  have h4 : q * b = b * q := Int.mul_comm _ _
  omega

set_option maxRecDepth 100000 in
set_option maxHeartbeats 4000000 in
theorem nearest_any (n d : Int) (hd : 0 < d ∧ d ≤ 4294967296) (hn : -144115188075855872 ≤ n ∧ n ≤ 144115188075855872) (w : World) :
    Calls Try.prog 53 #[.int .i64 n, .int .i64 d] w (fun e w' => e = .returned (.int .i64 (nr n d)) ∧ ∃ m, w' = w.drewN m) := by
  have e1 : IntKind.i64.wrap (2 * n) = 2 * n := wrap_in (by omega)
  have e2 : IntKind.i64.wrap (2 * n + d) = 2 * n + d := wrap_in (by omega)
  have e3 : IntKind.i64.wrap (2 * d) = 2 * d := wrap_in (by omega)
  have hc : (2 * d == 0) = false := by rw [beq_eq_false_iff_ne]; omega
  have hc2 : ¬ 2 * d = 0 := by omega
  have E1 := Lib.hid (fun h => tmod_neg (a := 2 * n + d) (b := 2 * d) (by omega) h)
  have E2 := Lib.hid (fun h => tmod_pos (a := 2 * n + d) (b := 2 * d) (by omega) h)
  have hq : ((2 * n + d).tdiv (2 * d)).natAbs ≤ (2 * n + d).natAbs := by rw [Int.natAbs_tdiv]; exact Nat.div_le_self _ _
  have hr : Hid ((2 * n + d) / (2 * d) = nr n d) := rfl
  obtain ⟨b, hb⟩ : ∃ b, b = 2 * n + d := ⟨_, rfl⟩
  obtain ⟨c, hc0⟩ : ∃ c, c = 2 * d := ⟨_, rfl⟩
  have hq2 : b.natAbs ≤ 1152921504606846976 := by omega
  rw [← hc0] at hc hc2 hq E1 E2 hr
  rw [← hb] at hq E1 E2 hr
  replace e3 : IntKind.i64.wrap (2 * d) = c := e3.trans hc0.symm
  replace e2 : IntKind.i64.wrap (2 * n + d) = b := e2.trans hb.symm
  generalize nr n d = res at *
  obtain ⟨q, hqq⟩ : ∃ q, q = b.tdiv c := ⟨_, rfl⟩
  obtain ⟨r, hrr⟩ : ∃ r, r = b.tmod c := ⟨_, rfl⟩
  rw [← hqq] at hq E1 E2
  rw [← hrr] at E1 E2
  have e4 : IntKind.i64.wrap (q - 1) = q - 1 := wrap_in (by omega)
  have e7 : IntKind.i64.wrap q = q := wrap_in (by omega)
  have E5 : b.tdiv c = q := hqq.symm
  have E6 : b.tmod c = r := hrr.symm
  clear hb hc0 hqq hrr hq hq2 hd hn
  by_cases hneg : r < 0
  · have E := Lib.hid ((E1.out hneg).trans hr.out)
    clear E1 E2
    go_enter Try.func53, Try.ntmps53
    go_wp2
    go_quiet (fail)
    go_wp2
    go_ret
    exact ⟨by rw [← E.out]; rfl, _, rfl⟩
  · have E := Lib.hid ((E2.out hneg).trans hr.out)
    clear E1 E2
    go_enter Try.func53, Try.ntmps53
    go_wp2
    go_quiet (fail)
    go_wp2
    go_ret
    exact ⟨by rw [← E.out]; rfl, _, rfl⟩

set_option maxRecDepth 100000 in
set_option maxHeartbeats 4000000 in
theorem btw1_any (x y n d a b s : Int) (gn gd : Nat) (w : World) (h1 : IntKind.i64.wrap (y - x) = a) (h2 : IntKind.i64.wrap (a * n) = b) (hd : 0 < d ∧ d ≤ 4294967296) (hn : -144115188075855872 ≤ b ∧ b ≤ 144115188075855872) (h3 : IntKind.i64.wrap (x + nr b d) = s)
    (kn : w.cell? ⟨gn, 0, none⟩ = some (.int .i64 n)) (kd : w.cell? ⟨gd, 0, none⟩ = some (.int .i64 d)) :
    Calls Try.prog 52 #[.int .i64 x, .int .i64 y, .pointer (some ⟨gn, 0, none⟩), .pointer (some ⟨gd, 0, none⟩)] w (fun e w' => e = .returned (.int .i64 s) ∧ ∃ m, w' = w.drewN m) := by
  have HN := Lib.hid (fun w => nearest_any b d hd hn w)
  clear hd hn
  go_enter Try.func52, Try.ntmps52
  go_wp2_with fail
  refine (HN.out _).mono ?_
  rintro e w1 ⟨rfl, m, rfl⟩
  go_wp2
  go_ret
  exact ⟨rfl, _, rfl⟩
end Go.Proofs.Ytdicbeaocedkmaa
