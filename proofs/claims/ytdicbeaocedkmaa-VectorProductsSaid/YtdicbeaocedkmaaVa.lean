/- Vectors as values; what a call leaves as it was; the leaves: sums, differences, products, smaller and greater ones. -/
import Derived.Test.YtdicbeaocedkmaaProg
import Derived.WalkKit
import Derived.WalkSpells
import Derived.WalkLawsBesides
import Derived.Lib.Hide
import Derived.Deep.QuietTactic
import Derived.BigQuiet
import Derived.Deep.RegionHeld3
import Derived.IntWalk
set_option linter.all false
namespace Go.Proofs.Ytdicbeaocedkmaa
open Go.RowKit

/-- A vector as a value. -/
abbrev vv (x y z : Int) : Value := .agg #[.int .i64 x, .int .i64 y, .int .i64 z]
def Ret (v : Value) (w : World) (e : Ending) (w' : World) : Prop := e = .returned v ∧ Below w.heap.size w w'
def Qt (v : Value) (w : World) (e : Ending) (w' : World) : Prop := e = .returned v ∧ w = w'
/-- A word of 64 bits. -/
def I64 (n : Int) : Prop := -9223372036854775808 ≤ n ∧ n ≤ 9223372036854775807

theorem at_old {w wr : World} (hb : Below w.heap.size w wr) {a : Addr} {v : Value} (h : w.cell? a = some v) : wr.cell? a = some v :=
  (hb.cell (World.block_lt_of_cell? w a h)).trans h
theorem chain {w0 W W' : World} (h : Below w0.heap.size w0 W) (k : Below W.heap.size W W') : Below w0.heap.size w0 W' := h.trans (k.mono h.size)
theorem keep1 {w0 W' : World} (hb : Below w0.heap.size w0 W') {p : Addr} {v : Value} (h : w0.cell? p = some v) : W'.cell? p = some v := at_old hb h
theorem keepf {w0 W' : World} (hb : Below w0.heap.size w0 W') {p : Addr} {v : Value} (h : w0.cell? p = some v) (hf : w0.frozen? p = false) : W'.frozen? p = false :=
  (hb.frozen (World.block_lt_of_cell? w0 p h)).trans hf
theorem below_one (w : World) (o : Obj) : Below w.heap.size w (w.alloc o) := (Below.refl _ _).alloc (Nat.le_refl _) _
theorem undrew {w w' : World} (b : Below w.drew.heap.size w.drew w') : Below w.heap.size w w' := ⟨b.os, b.tape, b.output, b.size, b.block⟩
theorem below_drewN {B : Nat} {w w' : World} (h : Below B w w') (n : Nat) : Below B w (w'.drewN n) := ⟨h.os, h.tape, h.output, h.size, h.block⟩
theorem cell_drew (w : World) (a : Addr) : w.drew.cell? a = w.cell? a := rfl
theorem wrap_in {n : Int} (h : -9223372036854775808 ≤ n ∧ n ≤ 9223372036854775807) : IntKind.i64.wrap n = n := Go.IntWalk.i64_in n h

theorem add1_any (x y s : Int) (h : IntKind.i64.wrap (x + y) = s) (w : World) : Calls Try.prog 46 #[.int .i64 x, .int .i64 y] w (Qt (.int .i64 s) w) := by
  go_enter Try.func46, Try.ntmps46
  go_wp2
  go_ret
  exact ⟨rfl, rfl⟩
theorem sub1_any (x y s : Int) (h : IntKind.i64.wrap (x - y) = s) (w : World) : Calls Try.prog 58 #[.int .i64 x, .int .i64 y] w (Qt (.int .i64 s) w) := by
  go_enter Try.func58, Try.ntmps58
  go_wp2
  go_ret
  exact ⟨rfl, rfl⟩
theorem mul1_any (x y s : Int) (h : IntKind.i64.wrap (x * y) = s) (w : World) : Calls Try.prog 59 #[.int .i64 x, .int .i64 y] w (Qt (.int .i64 s) w) := by
  go_enter Try.func59, Try.ntmps59
  go_wp2
  go_ret
  exact ⟨rfl, rfl⟩
theorem min1_any (x y : Int) (w : World) : Calls Try.prog 55 #[.int .i64 x, .int .i64 y] w (Qt (.int .i64 (min x y)) w) := by
  by_cases h : y < x
  · have E : min x y = y := by omega
    rw [E]
    go_enter Try.func55, Try.ntmps55
    go_wp2
    go_ret
    exact ⟨rfl, rfl⟩
  · have E : min x y = x := by omega
    rw [E]
    go_enter Try.func55, Try.ntmps55
    go_wp2
    go_ret
    exact ⟨rfl, rfl⟩
theorem max1_any (x y : Int) (w : World) : Calls Try.prog 56 #[.int .i64 x, .int .i64 y] w (Qt (.int .i64 (max x y)) w) := by
  by_cases h : x < y
  · have E : max x y = y := by omega
    rw [E]
    go_enter Try.func56, Try.ntmps56
    go_wp2
    go_ret
    exact ⟨rfl, rfl⟩
  · have E : max x y = x := by omega
    rw [E]
    go_enter Try.func56, Try.ntmps56
    go_wp2
    go_ret
    exact ⟨rfl, rfl⟩
theorem isnan_any (x : Int) (w : World) : Calls Try.prog 57 #[.int .i64 x] w (Qt (.bool false) w) := by
  go_enter Try.func57, Try.ntmps57
  go_wp2
  go_ret
  exact ⟨rfl, rfl⟩
/-- -1, 0 or 1. -/
def cmpI (a b : Int) : Int := if a < b then -1 else if b < a then 1 else 0
theorem cmp_any (x y : Int) (w : World) : Calls Try.prog 40 #[.int .i64 x, .int .i64 y] w (Qt (.int .i64 (cmpI x y)) w) := by
  rcases Int.lt_trichotomy x y with h | h | h
  · have E : cmpI x y = -1 := by simp [cmpI, h]
    rw [E]
    go_enter Try.func40, Try.ntmps40
    go_wp2
    go_ret
    exact ⟨rfl, rfl⟩
  · subst h
    have E : cmpI x x = 0 := by simp [cmpI]
    rw [E]
    go_enter Try.func40, Try.ntmps40
    go_wp2
    go_ret
    exact ⟨rfl, rfl⟩
  · have h2 : ¬ x < y := by omega
    have E : cmpI x y = 1 := by simp [cmpI, h, h2]
    rw [E]
    go_enter Try.func40, Try.ntmps40
    go_wp2
    go_ret
    exact ⟨rfl, rfl⟩
end Go.Proofs.Ytdicbeaocedkmaa
