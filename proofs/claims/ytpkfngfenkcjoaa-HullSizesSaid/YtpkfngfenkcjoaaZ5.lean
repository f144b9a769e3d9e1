/- What the theorem leans on, part 5: Shelf, Phf, Phg, Phh, Phi, Phj, Phe. -/
import Derived.Shelf.SlSortCmp.NoneTotal
import Derived.Shelf.SlicesQ.Reverse
import Derived.Ground.SlsfProg
import Derived.Ground.SlgnProg
import Derived.Test.YtpkfngfenkcjoaaProg
import Derived.Test.YtpkfngfenkcjoaaZ4
import Derived.Lib.SlicesCompact
import Derived.Lib.SliceRun
import Derived.Laws.OwnMore

/-
  DERIVED: THE SHELF's CONTRACTS AT THIS DUMP, IN PLAIN WORDS (tools/lay-plain.mjs out of 'TryShelf.lean', which tools/lay-shelf.mjs wrote): THE SAME DECLARATIONS UNDER THE SAME NAMES: 'import', 'namespace', 'open', 'def', 'theorem' AND NOTHING ELSE: no command of the shelf's: FOR A HAND-IN. Each laying: the table of numbers ('.._ren') and one theorem, a field a fact of the dump's own or the kernel's comparison; each contract: ONE APPLICATION.
-/
namespace Go.Proofs
open Go.Shelf
def Try.sortVec_ren : Go.Shelf.Ren := ⟨fun | 6 => 58 | 15 => 72 | 14 => 71 | 28 => 87 | 29 => 88 | 20 => 79 | 21 => 80 | 22 => 81 | 23 => 82 | 24 => 83 | 25 => 84 | 26 => 85 | 27 => 86 | 46 => 91 | 47 => 92 | 48 => 93 | 49 => 94 | 50 => 95 | 57 => 96 | n => n, fun | 22 => 22 | 24 => 24 | 25 => 52 | 3 => 3 | 39 => 80 | 0 => 0 | 53 => 96 | 55 => 98 | 4 => 4 | 46 => 89 | 45 => 88 | 50 => 93 | 5 => 5 | 9 => 9 | 66 => 100 | 70 => 104 | 76 => 106 | 77 => 38 | n => n, fun | n => n⟩
theorem Try.sortVec : Go.Proofs.SlLaysF0.n6 Try.prog Try.sortVec_ren := {
  mixed := by kernel_rfl
  f6 := ⟨Try.f58.name, by decide, Try.func58.trans (congrArg some (by kernel_rfl))⟩
  f14 := ⟨Try.f71.name, by decide, Try.func71.trans (congrArg some (by kernel_rfl))⟩
  f15 := Try.func72.trans (congrArg some (by kernel_rfl))
  f20 := ⟨Try.f79.name, by decide, Try.func79.trans (congrArg some (by kernel_rfl))⟩
  f21 := ⟨Try.f80.name, by decide, Try.func80.trans (congrArg some (by kernel_rfl))⟩
  f22 := ⟨Try.f81.name, by decide, Try.func81.trans (congrArg some (by kernel_rfl))⟩
  f23 := ⟨Try.f82.name, by decide, Try.func82.trans (congrArg some (by kernel_rfl))⟩
  f24 := ⟨Try.f83.name, by decide, Try.func83.trans (congrArg some (by kernel_rfl))⟩
  f25 := ⟨Try.f84.name, by decide, Try.func84.trans (congrArg some (by kernel_rfl))⟩
  f26 := ⟨Try.f85.name, by decide, Try.func85.trans (congrArg some (by kernel_rfl))⟩
  f27 := ⟨Try.f86.name, by decide, Try.func86.trans (congrArg some (by kernel_rfl))⟩
  f28 := Try.func87.trans (congrArg some (by kernel_rfl))
  f29 := Try.func88.trans (congrArg some (by kernel_rfl))
  f46 := ⟨Try.f91.name, by decide, Try.func91.trans (congrArg some (by kernel_rfl))⟩
  f47 := Try.func92.trans (congrArg some (by kernel_rfl))
  f48 := Try.func93.trans (congrArg some (by kernel_rfl))
  f49 := ⟨Try.f94.name, by decide, Try.func94.trans (congrArg some (by kernel_rfl))⟩
  f50 := ⟨Try.f95.name, by decide, Try.func95.trans (congrArg some (by kernel_rfl))⟩
  f57 := ⟨Try.f96.name, by decide, Try.func96.trans (congrArg some (by kernel_rfl))⟩
  t0 := Try.underlying0
  a0 := Try.isAgg0
  z0 := Try.sizeOf0
  v0 := Try.zeroValue0
  t3 := Try.underlying3
  a3 := Try.isAgg3
  z3 := Try.sizeOf3
  v3 := Try.zeroValue3
  t4 := Try.underlying4
  a4 := Try.isAgg4
  z4 := Try.sizeOf4
  v4 := Try.zeroValue4
  t5 := Try.underlying5
  a5 := Try.isAgg5
  z5 := Try.sizeOf5
  v5 := Try.zeroValue5
  t9 := Try.underlying9
  a9 := Try.isAgg9
  z9 := Try.sizeOf9
  v9 := Try.zeroValue9
  t22 := Try.underlying22
  a22 := Try.isAgg22
  z22 := Try.sizeOf22
  v22 := Try.zeroValue22
  t25 := Try.underlying52
  a25 := Try.isAgg52
  z25 := Try.sizeOf52
  v25 := Try.zeroValue52
  t39 := Try.underlying80
  a39 := Try.isAgg80
  z39 := Try.sizeOf80
  v39 := Try.zeroValue80
  t45 := Try.underlying88
  a45 := Try.isAgg88
  z45 := Try.sizeOf88
  v45 := Try.zeroValue88
  t46 := Try.underlying89
  a46 := Try.isAgg89
  z46 := Try.sizeOf89
  v46 := Try.zeroValue89
  t50 := Try.underlying93
  a50 := Try.isAgg93
  z50 := Try.sizeOf93
  v50 := Try.zeroValue93
  t53 := Try.underlying96
  a53 := Try.isAgg96
  z53 := Try.sizeOf96
  v53 := Try.zeroValue96
  t55 := Try.underlying98
  a55 := Try.isAgg98
  z55 := Try.sizeOf98
  v55 := Try.zeroValue98
  t66 := Try.underlying100
  a66 := Try.isAgg100
  z66 := Try.sizeOf100
  v66 := Try.zeroValue100
  t70 := Try.underlying104
  a70 := Try.isAgg104
  z70 := Try.sizeOf104
  v70 := Try.zeroValue104
  t76 := Try.underlying106
  a76 := Try.isAgg106
  z76 := Try.sizeOf106
  v76 := Try.zeroValue106
  t77 := Try.underlying38
  a77 := Try.isAgg38
  z77 := Try.sizeOf38
  v77 := Try.zeroValue38 }
def Try.revVec_ren : Go.Shelf.Ren := ⟨fun | 35 => 62 | n => n, fun | 22 => 22 | 23 => 24 | 3 => 3 | 4 => 4 | 0 => 0 | n => n, fun | n => n⟩
theorem Try.revVec : Go.Proofs.SlLaysE0.n35 Try.prog Try.revVec_ren := {
  mixed := by kernel_rfl
  f35 := ⟨Try.f62.name, by decide, Try.func62.trans (congrArg some (by kernel_rfl))⟩
  t0 := Try.underlying0
  a0 := Try.isAgg0
  z0 := Try.sizeOf0
  v0 := Try.zeroValue0
  t3 := Try.underlying3
  a3 := Try.isAgg3
  z3 := Try.sizeOf3
  v3 := Try.zeroValue3
  t4 := Try.underlying4
  a4 := Try.isAgg4
  z4 := Try.sizeOf4
  v4 := Try.zeroValue4
  t22 := Try.underlying22
  a22 := Try.isAgg22
  z22 := Try.sizeOf22
  v22 := Try.zeroValue22 }
end Go.Proofs

/- Rows of the call's own: a store into one, and what slices.SortFunc and slices.Reverse make of one. -/
set_option linter.all false
namespace Go.Proofs.Ytpkfngfenkcjoaa
open Go.RowKit Go.Sort

/-- The cells of a vector. -/
def e3 (a : T3) : List Value := [.int .i64 a.1, .int .i64 a.2.1, .int .i64 a.2.2]
theorem e3_one (a : T3) : ∀ v ∈ e3 a, v.oneCell' = true := by
  intro v hv
  simp [e3] at hv
  rcases hv with rfl | rfl | rfl <;> rfl
theorem flat_cv (L : List T3) : flatK e3 3 L.toArray = (cv L).toArray := by
  apply Array.ext
  · simp [cv_length]
  · intro t h1 h2
    have ht : t < L.toArray.size * 3 := by simpa using h1
    have hL : t < L.length * 3 := by simpa using ht
    rw [← getElem!_pos (flatK e3 3 L.toArray) t h1, get_flatK _ _ _ _ ht]
    obtain ⟨k, r, hr, rfl⟩ : ∃ k r, r < 3 ∧ t = k * 3 + r := ⟨t / 3, t % 3, by omega, by omega⟩
    have hk : k < L.length := by omega
    obtain ⟨c1, c2, c3⟩ := cv_get L k hk
    rw [show (k * 3 + r) / 3 = k by omega, show (k * 3 + r) % 3 = r by omega]
    rw [getElem!_pos L.toArray k (by simpa using hk)]
    simp only [List.getElem_toArray]
    obtain ⟨x, y, z, e⟩ : ∃ x y z, L[k] = (x, y, z) := ⟨_, _, _, rfl⟩
    rw [e] at c1 c2 c3 ⊢
    rcases (by omega : r = 0 ∨ r = 1 ∨ r = 2) with rfl | rfl | rfl
    · have := (List.getElem?_eq_some_iff.1 c1).2
      simpa [e3] using this.symm
    · have := (List.getElem?_eq_some_iff.1 c2).2
      simpa [e3] using this.symm
    · have := (List.getElem?_eq_some_iff.1 c3).2
      simpa [e3] using this.symm

theorem RowV.form {w : World} {B g n cap : Nat} {L : List T3} (h : RowV w B (.slice (some ⟨g, 0, none⟩) n cap) L) :
    ∃ cur, n = L.length ∧ B ≤ g ∧ w.heap[g]? = some (.cells cur 24 (0, 0)) ∧ n ≤ cap ∧ cap ≤ maxLen ∧ cur.size = cap * 3 ∧ cur.toList.take (n * 3) = cv L := by
  rcases h.2 with ⟨h0, -⟩ | ⟨g', cap', cur, e, hB, hg, h1, h2, h3, h4⟩
  · simp at h0
  · simp only [Value.slice.injEq, Option.some.injEq, Addr.mk.injEq, and_true, true_and] at e
    obtain ⟨rfl, rfl, rfl⟩ := e
    exact ⟨cur, rfl, hB, hg, h1, h2, h3, h4⟩
theorem RowV.of {w : World} {B g n cap : Nat} {L : List T3} {cur : Array Value} (hn : n = L.length) (hB : B ≤ g) (hg : w.heap[g]? = some (.cells cur 24 (0, 0))) (h1 : n ≤ cap) (h2 : cap ≤ maxLen) (h3 : cur.size = cap * 3) (h4 : cur.toList.take (n * 3) = cv L) :
    RowV w B (.slice (some ⟨g, 0, none⟩) n cap) L := by
  subst hn
  exact ⟨cv_length L, .inr ⟨g, cap, cur, rfl, hB, hg, h1, h2, h3, h4⟩⟩
theorem RowV.holds {w : World} {B g n cap : Nat} {L : List T3} (h : RowV w B (.slice (some ⟨g, 0, none⟩) n cap) L) : HoldsK e3 3 w g 0 L.toArray := by
  obtain ⟨cur, rfl, -⟩ := h.form
  intro j hj
  rw [flat_cv] at hj ⊢
  have hj2 : j < (cv L).length := by simpa using hj
  have hj3 : j < L.length * 3 := by rwa [cv_length] at hj2
  rw [Nat.zero_add]
  refine ⟨?_, World.ownsRow.frozenAt h j⟩
  rw [World.ownsRow.cellAt h j hj3, List.getElem?_eq_getElem hj2, getElem!_pos _ j (by simpa using hj2)]
  simp
/-- A whole row put anew. -/
theorem RowV.put {w : World} {B g n cap : Nat} {L M : List T3} (h : RowV w B (.slice (some ⟨g, 0, none⟩) n cap) L) (hM : M.length = L.length) (m : Nat) (os : Array Obj) :
    RowV (grow (putRowK e3 3 (Sort.ahead w m) g 0 M.toArray) os) B (.slice (some ⟨g, 0, none⟩) n cap) M ∧ w.grownBy (grow (putRowK e3 3 (Sort.ahead w m) g 0 M.toArray) os) (some g) := by
  obtain ⟨cur, hn, hB, hg, h1, h2, h3, h4⟩ := h.form
  have hgs : g < w.heap.size := lt_of_block hg
  have hh : ∀ k, k < w.heap.size → (grow (putRowK e3 3 (Sort.ahead w m) g 0 M.toArray) os).heap[k]? = (w.heap.modify g (onCells (putCells id 0 (flatK e3 3 M.toArray))))[k]? := by
    intro k hk
    show ((w.heap.modify g (onCells (putCells id 0 (flatK e3 3 M.toArray)))) ++ os)[k]? = _
    rw [Array.getElem?_append_left (by simpa using hk)]
  constructor
  · refine RowV.of (cur := putCells id 0 (flatK e3 3 M.toArray) cur) (by omega) hB ?_ h1 h2 (by simp [putCells, h3]) ?_
    · rw [hh g hgs, Array.getElem?_modify, if_pos rfl, hg]; rfl
    · rw [flat_cv]
      apply List.ext_getElem?
      intro t
      rw [List.getElem?_take]
      by_cases ht : t < n * 3
      · rw [if_pos ht]
        have hc : t < cur.size := by rw [h3]; exact Nat.lt_of_lt_of_le ht (Nat.mul_le_mul_right 3 h1)
        have ht2 : t < (cv M).length := by rw [cv_length]; omega
        rw [Array.getElem?_toList, putCells, Array.getElem?_mapIdx, Array.getElem?_eq_getElem hc, Option.map_some, if_pos ⟨Nat.zero_le _, by simpa using ht2⟩, List.getElem?_eq_getElem ht2]
        simp [getElem!_pos, ht2]
      · rw [if_neg ht, List.getElem?_eq_none (by rw [cv_length]; omega)]
  · refine ⟨rfl, rfl, rfl, ?_, ?_⟩
    · show w.heap.size ≤ ((w.heap.modify g (onCells (putCells id 0 (flatK e3 3 M.toArray)))) ++ os).size
      simp
    · intro k hk hne
      rw [hh k hk, Array.getElem?_modify, if_neg (fun e => hne (by rw [e]))]
theorem cv_set (L : List T3) (k : Nat) (x y z : Int) (hk : k < L.length) : cv (L.set k (x, y, z)) = (((cv L).set (k * 3) (.int .i64 x)).set (k * 3 + 1) (.int .i64 y)).set (k * 3 + 2) (.int .i64 z) := by
  induction L generalizing k with
  | nil => simp at hk
  | cons a L ih =>
    cases k with
    | zero => simp [cv_cons]
    | succ k =>
      have h' : k < L.length := by simpa using hk
      rw [List.set_cons_succ, cv_cons, cv_cons, ih k h']
      rw [show (k + 1) * 3 = k * 3 + 1 + 1 + 1 by omega, show k * 3 + 1 + 1 + 1 + 1 = (k * 3 + 1) + 1 + 1 + 1 by omega, show k * 3 + 1 + 1 + 1 + 2 = (k * 3 + 2) + 1 + 1 + 1 by omega]
      simp only [List.set_cons_succ]
/-- One vector of a row stored anew. -/
theorem RowV.set {w : World} {B g n cap : Nat} {L : List T3} (h : RowV w B (.slice (some ⟨g, 0, none⟩) n cap) L) {k : Nat} (hk : k < L.length) (x y z : Int) :
    RowV (((w.setCell ⟨g, k * 3, none⟩ (.int .i64 x)).setCell ⟨g, k * 3 + 1, none⟩ (.int .i64 y)).setCell ⟨g, k * 3 + 2, none⟩ (.int .i64 z)) B (.slice (some ⟨g, 0, none⟩) n cap) (L.set k (x, y, z)) ∧
      w.grownBy (((w.setCell ⟨g, k * 3, none⟩ (.int .i64 x)).setCell ⟨g, k * 3 + 1, none⟩ (.int .i64 y)).setCell ⟨g, k * 3 + 2, none⟩ (.int .i64 z)) (some g) := by
  obtain ⟨cur, hn, hB, hg, h1, h2, h3, h4⟩ := h.form
  constructor
  · refine RowV.of (cur := ((cur.setIfInBounds (k * 3) (.int .i64 x)).setIfInBounds (k * 3 + 1) (.int .i64 y)).setIfInBounds (k * 3 + 2) (.int .i64 z)) (by simpa using hn) hB ?_ h1 h2 (by simp [h3]) ?_
    · simp [setCell_eq, mapBlock, Array.getElem?_modify, hg, onCells]
    · rw [cv_set L k x y z hk, ← h4]
      simp [List.take_set]
  · refine ⟨rfl, rfl, rfl, by simp [World.setCell], fun j hj hne => ?_⟩
    have hgj : ¬ g = j := fun e => hne (by rw [e])
    simp [setCell_eq, mapBlock, Array.getElem?_modify, hgj]
/-- The first ones of a row: the same row, shorter. -/
theorem RowV.take {w : World} {B g n cap m : Nat} {L : List T3} (h : RowV w B (.slice (some ⟨g, 0, none⟩) n cap) L) (hm : m ≤ n) : RowV w B (.slice (some ⟨g, 0, none⟩) m cap) (L.take m) := by
  obtain ⟨cur, hn, hB, hg, h1, h2, h3, h4⟩ := h.form
  refine RowV.of (cur := cur) (by rw [List.length_take]; omega) hB hg (by omega) h2 h3 ?_
  have : cv (L.take m) = (cv L).take (m * 3) := by
    clear h4 h3 hg h h1
    induction L generalizing m n with
    | nil => simp [cv]
    | cons a L ih =>
      cases m with
      | zero => simp [cv]
      | succ m =>
        rw [List.take_succ_cons, cv_cons, cv_cons, show (m + 1) * 3 = m * 3 + 1 + 1 + 1 by omega]
        simp only [List.take_succ_cons]
        rw [ih (n := L.length) (m := m) (by simp at hn; omega) rfl]
  rw [this, ← h4, List.take_take, Nat.min_eq_left (Nat.mul_le_mul_right 3 hm)]

/-- What a call leaves: new blocks, and the world as it was. -/
def Gr (v : Value) (w : World) (e : Ending) (w' : World) : Prop := e = .returned v ∧ ∃ os, w' = grow w os
set_option maxRecDepth 100000 in
set_option maxHeartbeats 4000000 in
theorem CompareG_0 (x1 x2 x3 y1 y2 y3 : Int) (hn : cmpI x1 y1 ≠ 0) (w : World) :
    Calls Try.prog 59 #[vv x1 x2 x3, vv y1 y2 y3] w (Gr (.int .i64 (cmpI x1 y1)) w) := by
  have H := Lib.hid (fun x y w => cmp_any x y w)
  have i0 : ∀ w, (Instr.index 82 (.agg #[.int .i64 x1, .int .i64 y1, .int .i64 x2, .int .i64 y2, .int .i64 x3, .int .i64 y3]) (.int .i64 0)).run Try.prog w = .ok (.agg #[.int .i64 x1, .int .i64 y1]) w := fun _ => by kernel_rfl
  have i1 : ∀ w, (Instr.index 82 (.agg #[.int .i64 x1, .int .i64 y1, .int .i64 x2, .int .i64 y2, .int .i64 x3, .int .i64 y3]) (.int .i64 1)).run Try.prog w = .ok (.agg #[.int .i64 x2, .int .i64 y2]) w := fun _ => by kernel_rfl
  have i2 : ∀ w, (Instr.index 82 (.agg #[.int .i64 x1, .int .i64 y1, .int .i64 x2, .int .i64 y2, .int .i64 x3, .int .i64 y3]) (.int .i64 2)).run Try.prog w = .ok (.agg #[.int .i64 x3, .int .i64 y3]) w := fun _ => by kernel_rfl
  go_enter Try.func59, Try.ntmps59
  go_wp2
  refine wp_loop_rounds 4 ?_
  rw [rounds_succ]
  go_wp2_with fail
  refine (H.out x1 y1 _).mono ?_
  rintro e w0 ⟨rfl, rfl⟩
  generalize cmpI x1 y1 = c at *
  go_wp2
  go_ret
  exact ⟨rfl, _, by simp only [alloc_eq_grow, grow_grow]; rfl⟩

set_option maxRecDepth 100000 in
set_option maxHeartbeats 4000000 in
theorem CompareG_1 (x1 x2 x3 y1 y2 y3 : Int) (e1 : x1 = y1) (hn : cmpI x2 y2 ≠ 0) (w : World) :
    Calls Try.prog 59 #[vv x1 x2 x3, vv y1 y2 y3] w (Gr (.int .i64 (cmpI x2 y2)) w) := by
  have H := Lib.hid (fun x y w => cmp_any x y w)
  have i0 : ∀ w, (Instr.index 82 (.agg #[.int .i64 x1, .int .i64 y1, .int .i64 x2, .int .i64 y2, .int .i64 x3, .int .i64 y3]) (.int .i64 0)).run Try.prog w = .ok (.agg #[.int .i64 x1, .int .i64 y1]) w := fun _ => by kernel_rfl
  have i1 : ∀ w, (Instr.index 82 (.agg #[.int .i64 x1, .int .i64 y1, .int .i64 x2, .int .i64 y2, .int .i64 x3, .int .i64 y3]) (.int .i64 1)).run Try.prog w = .ok (.agg #[.int .i64 x2, .int .i64 y2]) w := fun _ => by kernel_rfl
  have i2 : ∀ w, (Instr.index 82 (.agg #[.int .i64 x1, .int .i64 y1, .int .i64 x2, .int .i64 y2, .int .i64 x3, .int .i64 y3]) (.int .i64 2)).run Try.prog w = .ok (.agg #[.int .i64 x3, .int .i64 y3]) w := fun _ => by kernel_rfl
  have E1 : Hid (cmpI x1 y1 = 0) := by show _ = _; subst e1; simp [cmpI]
  clear e1
  go_enter Try.func59, Try.ntmps59
  go_wp2
  refine wp_loop_rounds 4 ?_
  rw [rounds_succ]
  go_wp2_with fail
  refine (H.out x1 y1 _).mono ?_
  rintro e w0 ⟨rfl, rfl⟩
  rw [E1.out]
  go_wp2
  rw [rounds_succ]
  go_wp2_with fail
  refine (H.out x2 y2 _).mono ?_
  rintro e w1 ⟨rfl, rfl⟩
  generalize cmpI x2 y2 = c at *
  go_wp2
  go_ret
  exact ⟨rfl, _, by simp only [alloc_eq_grow, grow_grow]; rfl⟩

set_option maxRecDepth 100000 in
set_option maxHeartbeats 4000000 in
theorem CompareG_2 (x1 x2 x3 y1 y2 y3 : Int) (e1 : x1 = y1) (e2 : x2 = y2) (hn : cmpI x3 y3 ≠ 0) (w : World) :
    Calls Try.prog 59 #[vv x1 x2 x3, vv y1 y2 y3] w (Gr (.int .i64 (cmpI x3 y3)) w) := by
  have H := Lib.hid (fun x y w => cmp_any x y w)
  have i0 : ∀ w, (Instr.index 82 (.agg #[.int .i64 x1, .int .i64 y1, .int .i64 x2, .int .i64 y2, .int .i64 x3, .int .i64 y3]) (.int .i64 0)).run Try.prog w = .ok (.agg #[.int .i64 x1, .int .i64 y1]) w := fun _ => by kernel_rfl
  have i1 : ∀ w, (Instr.index 82 (.agg #[.int .i64 x1, .int .i64 y1, .int .i64 x2, .int .i64 y2, .int .i64 x3, .int .i64 y3]) (.int .i64 1)).run Try.prog w = .ok (.agg #[.int .i64 x2, .int .i64 y2]) w := fun _ => by kernel_rfl
  have i2 : ∀ w, (Instr.index 82 (.agg #[.int .i64 x1, .int .i64 y1, .int .i64 x2, .int .i64 y2, .int .i64 x3, .int .i64 y3]) (.int .i64 2)).run Try.prog w = .ok (.agg #[.int .i64 x3, .int .i64 y3]) w := fun _ => by kernel_rfl
  have E1 : Hid (cmpI x1 y1 = 0) := by show _ = _; subst e1; simp [cmpI]
  clear e1
  have E2 : Hid (cmpI x2 y2 = 0) := by show _ = _; subst e2; simp [cmpI]
  clear e2
  go_enter Try.func59, Try.ntmps59
  go_wp2
  refine wp_loop_rounds 4 ?_
  rw [rounds_succ]
  go_wp2_with fail
  refine (H.out x1 y1 _).mono ?_
  rintro e w0 ⟨rfl, rfl⟩
  rw [E1.out]
  go_wp2
  rw [rounds_succ]
  go_wp2_with fail
  refine (H.out x2 y2 _).mono ?_
  rintro e w1 ⟨rfl, rfl⟩
  rw [E2.out]
  go_wp2
  rw [rounds_succ]
  go_wp2_with fail
  refine (H.out x3 y3 _).mono ?_
  rintro e w2 ⟨rfl, rfl⟩
  generalize cmpI x3 y3 = c at *
  go_wp2
  go_ret
  exact ⟨rfl, _, by simp only [alloc_eq_grow, grow_grow]; rfl⟩

set_option maxRecDepth 100000 in
set_option maxHeartbeats 4000000 in
theorem CompareG_3 (x1 x2 x3 y1 y2 y3 : Int) (e1 : x1 = y1) (e2 : x2 = y2) (e3 : x3 = y3) (w : World) :
    Calls Try.prog 59 #[vv x1 x2 x3, vv y1 y2 y3] w (Gr (.int .i64 0) w) := by
  have H := Lib.hid (fun x y w => cmp_any x y w)
  have i0 : ∀ w, (Instr.index 82 (.agg #[.int .i64 x1, .int .i64 y1, .int .i64 x2, .int .i64 y2, .int .i64 x3, .int .i64 y3]) (.int .i64 0)).run Try.prog w = .ok (.agg #[.int .i64 x1, .int .i64 y1]) w := fun _ => by kernel_rfl
  have i1 : ∀ w, (Instr.index 82 (.agg #[.int .i64 x1, .int .i64 y1, .int .i64 x2, .int .i64 y2, .int .i64 x3, .int .i64 y3]) (.int .i64 1)).run Try.prog w = .ok (.agg #[.int .i64 x2, .int .i64 y2]) w := fun _ => by kernel_rfl
  have i2 : ∀ w, (Instr.index 82 (.agg #[.int .i64 x1, .int .i64 y1, .int .i64 x2, .int .i64 y2, .int .i64 x3, .int .i64 y3]) (.int .i64 2)).run Try.prog w = .ok (.agg #[.int .i64 x3, .int .i64 y3]) w := fun _ => by kernel_rfl
  have E1 : Hid (cmpI x1 y1 = 0) := by show _ = _; subst e1; simp [cmpI]
  clear e1
  have E2 : Hid (cmpI x2 y2 = 0) := by show _ = _; subst e2; simp [cmpI]
  clear e2
  have E3 : Hid (cmpI x3 y3 = 0) := by show _ = _; subst e3; simp [cmpI]
  clear e3
  go_enter Try.func59, Try.ntmps59
  go_wp2
  refine wp_loop_rounds 4 ?_
  rw [rounds_succ]
  go_wp2_with fail
  refine (H.out x1 y1 _).mono ?_
  rintro e w0 ⟨rfl, rfl⟩
  rw [E1.out]
  go_wp2
  rw [rounds_succ]
  go_wp2_with fail
  refine (H.out x2 y2 _).mono ?_
  rintro e w1 ⟨rfl, rfl⟩
  rw [E2.out]
  go_wp2
  rw [rounds_succ]
  go_wp2_with fail
  refine (H.out x3 y3 _).mono ?_
  rintro e w2 ⟨rfl, rfl⟩
  rw [E3.out]
  go_wp2
  rw [rounds_succ]
  go_wp2
  go_ret
  exact ⟨rfl, _, by simp only [alloc_eq_grow, grow_grow]; rfl⟩

theorem CompareG_any (x1 x2 x3 y1 y2 y3 : Int) (w : World) : Calls Try.prog 59 #[vv x1 x2 x3, vv y1 y2 y3] w (Gr (.int .i64 (vC x1 x2 x3 y1 y2 y3)) w) := by
  unfold vC
  by_cases h1 : cmpI x1 y1 = 0
  · rw [if_neg (by simpa using h1)]
    have e1 := cmpI_zero.1 h1
    by_cases h2 : cmpI x2 y2 = 0
    · rw [if_neg (by simpa using h2)]
      have e2 := cmpI_zero.1 h2
      by_cases h3 : cmpI x3 y3 = 0
      · rw [h3]
        exact CompareG_3 _ _ _ _ _ _ e1 e2 (cmpI_zero.1 h3) w
      · exact CompareG_2 _ _ _ _ _ _ e1 e2 h3 w
    · rw [if_pos h2]
      exact CompareG_1 _ _ _ _ _ _ e1 h2 w
  · rw [if_pos h1]; exact CompareG_0 _ _ _ _ _ _ h1 w
/-- The order of vectors. -/
def c3 (a b : T3) : Int := vC a.1 a.2.1 a.2.2 b.1 b.2.1 b.2.2
theorem c3_lt (a b : T3) : ltOf c3 a b = true ↔ a.1 < b.1 ∨ a.1 = b.1 ∧ (a.2.1 < b.2.1 ∨ a.2.1 = b.2.1 ∧ a.2.2 < b.2.2) := by
  unfold ltOf c3 vC cmpI
  simp only [decide_eq_true_eq]
  repeat' split
  all_goals omega
theorem swo3 : SWO (ltOf c3) where
  irrefl x := by rw [← Bool.not_eq_true, c3_lt]; omega
  trans x y z h1 h2 := by rw [c3_lt] at *; omega
  ntrans x y z h1 h2 := by rw [← Bool.not_eq_true, c3_lt] at *; omega
theorem tot3 (x y : T3) (h1 : ltOf c3 x y = false) (h2 : ltOf c3 y x = false) : x = y := by
  rw [← Bool.not_eq_true, c3_lt] at h1 h2
  obtain ⟨a, b, c⟩ := x
  obtain ⟨d, e, f⟩ := y
  simp only [Prod.mk.injEq] at *
  omega
/-- The list in order. -/
def ms (L : List T3) : List T3 := L.mergeSort fun x y => !(ltOf c3) y x
theorem ms_length (L : List T3) : (ms L).length = L.length := List.length_mergeSort _
theorem sort_any {w : World} {B g n cap : Nat} {L : List T3} (h : RowV w B (.slice (some ⟨g, 0, none⟩) n cap) L) (hl : L.length ≤ 1000000) :
    Calls Try.prog 58 #[.slice (some ⟨g, 0, none⟩) n cap, .func (.func 59) #[] #[]] w fun e w' =>
      e = .returned (.tuple #[]) ∧ RowV w' B (.slice (some ⟨g, 0, none⟩) n cap) (ms L) ∧ w.grownBy w' (some g) := by
  have eg : ∀ args w, (callFunc 59 args).run Try.prog w = .ok (.enter 59 args) w := enters_of Try.func59 (by kernel_rfl) rfl
  have hcmp : CmpLays Try.prog 59 #[] e3 3 c3 g 0 L.toArray.size w := by
    intro m os dk _ x y
    refine (CompareG_any x.1 x.2.1 x.2.2 y.1 y.2.1 y.2.2 _).mono ?_
    rintro e w' ⟨rfl, os', rfl⟩
    exact ⟨rfl, 0, os', rfl⟩
  obtain ⟨cur, rfl, -, hg, -⟩ := h.form
  have hcon := AnyQ.slices_SortFunc_total Try.sortVec 3 Try.isAgg24 Try.sizeOf24 e3 (fun _ => rfl) e3_one c3 swo3 59 #[] g 0 cap L.toArray w eg hcmp h.holds (lt_of_block hg) (by simp; omega) tot3
  change Calls Try.prog 58 #[.slice (some ⟨g, 0, none⟩) L.length cap, _] _ _ at hcon
  refine hcon.mono ?_
  rintro e w' ⟨rfl, m, os, rfl⟩
  exact ⟨rfl, h.put (M := ms L) (ms_length L) m os⟩
theorem reverse_any {w : World} {B g n cap : Nat} {L : List T3} (h : RowV w B (.slice (some ⟨g, 0, none⟩) n cap) L) (hl : L.length ≤ 1000000) :
    Calls Try.prog 62 #[.slice (some ⟨g, 0, none⟩) n cap] w fun e w' =>
      e = .returned (.tuple #[]) ∧ RowV w' B (.slice (some ⟨g, 0, none⟩) n cap) L.reverse ∧ w.grownBy w' (some g) := by
  obtain ⟨cur, rfl, -, hg, -⟩ := h.form
  have hcon := AnyQ.slices_Reverse Try.revVec 3 Try.isAgg24 Try.sizeOf24 e3 (fun _ => rfl) e3_one g 0 cap L.toArray w h.holds (by simp; omega)
  change Calls Try.prog 62 #[.slice (some ⟨g, 0, none⟩) L.length cap] _ _ at hcon
  refine hcon.mono ?_
  rintro e w' ⟨rfl, m, rfl⟩
  have := h.put (M := L.reverse) (by simp) m #[]
  rw [grow_empty] at this
  refine ⟨rfl, ?_⟩
  rw [List.reverse_toArray]
  exact this
end Go.Proofs.Ytpkfngfenkcjoaa

/- slices.Compact over a row of vectors of the call's own. -/
set_option linter.all false
namespace Go.Proofs.Ytpkfngfenkcjoaa
open Go.RowKit Go.Sort Go.Lib

theorem setCells_block (g : Nat) : ∀ (vs : List Value) (o : Nat) (w : World) (cur : Array Value) (e : TypeId) (fr : Nat × Nat), w.heap[g]? = some (.cells cur e fr) →
    ∃ cur', (w.setCells g o vs).heap[g]? = some (.cells cur' e fr) ∧ cur'.size = cur.size ∧ (∀ q, q ≤ o → cur'.toList.take q = cur.toList.take q) ∧ (∀ k, k ≠ g → (w.setCells g o vs).heap[k]? = w.heap[k]?) ∧ (w.setCells g o vs).heap.size = w.heap.size ∧
      (w.setCells g o vs).os = w.os ∧ (w.setCells g o vs).tape = w.tape ∧ (w.setCells g o vs).output = w.output
  | [], o, w, cur, e, fr, h => ⟨cur, h, rfl, fun _ _ => rfl, fun _ _ => rfl, rfl, rfl, rfl, rfl⟩
  | v :: vs, o, w, cur, e, fr, h => by
    have h1 : (w.setCell ⟨g, o, none⟩ v).heap[g]? = some (.cells (cur.setIfInBounds o v) e fr) := by simp [setCell_eq, mapBlock, Array.getElem?_modify, h, onCells]
    obtain ⟨c2, a1, a2, a3, a4, a5, a6, a7, a8⟩ := setCells_block g vs (o + 1) (w.setCell ⟨g, o, none⟩ v) _ e fr h1
    refine ⟨c2, a1, by rw [a2]; simp, fun q hq => ?_, fun k hk => ?_, ?_, a6, a7, a8⟩
    · rw [a3 q (by omega), Array.toList_setIfInBounds, List.take_set_of_le (by omega)]
    · show ((w.setCell ⟨g, o, none⟩ v).setCells g (o + 1) vs).heap[k]? = _
      rw [a4 k hk]
      simp [setCell_eq, mapBlock, Array.getElem?_modify, Ne.symm hk]
    · show ((w.setCell ⟨g, o, none⟩ v).setCells g (o + 1) vs).heap.size = _
      rw [a5]; simp [World.setCell]
/-- The cells behind the first ones are overwritten. -/
theorem RowV.cleared {w : World} {B g n cap k : Nat} {L : List T3} (h : RowV w B (.slice (some ⟨g, 0, none⟩) n cap) L) (hk : k ≤ n) (vs : List Value) :
    RowV (w.setCells g (k * 3) vs) B (.slice (some ⟨g, 0, none⟩) k cap) (L.take k) ∧ w.grownBy (w.setCells g (k * 3) vs) (some g) := by
  obtain ⟨cur, hn, hB, hg, h1, h2, h3, h4⟩ := (h.take hk).form
  obtain ⟨c2, a1, a2, a3, a4, a5, a6, a7, a8⟩ := setCells_block g vs (k * 3) w cur _ _ hg
  refine ⟨RowV.of hn hB a1 h1 h2 (by rw [a2, h3]) (by rw [a3 _ (Nat.le_refl _), h4]), a6, a7, a8, by rw [a5]; exact Nat.le_refl _, fun j hj hne => a4 j (fun e => hne (by rw [e]))⟩
/-- The cells of zeros. -/
def zs (n : Nat) : List Value := (Builtin.zeroCells (vv 0 0 0).cells n).toList
theorem run_clear_vec {w : World} {g o n c : Nat} (ty : TypeId) (hn : 0 < n) (hc : ∀ j, j < n * 3 → (w.cell? ⟨g, o + j, none⟩).isSome = true) (hf : ∀ j, j < n * 3 → w.frozen? ⟨g, o + j, none⟩ = false) :
    (Builtin.clear_ #[22] ty #[.slice (some ⟨g, o, none⟩) n c]).run Try.prog w = .ok (.tuple #[]) (w.setCells g o (zs n)) := by
  unfold zs
  have hz : ∀ w, (zeroValue 24).run Try.prog w = .ok (vv 0 0 0) w := fun _ => by kernel_rfl
  have hl : (Builtin.zeroCells (vv 0 0 0).cells n).toList.length = n * 3 := by simp [Builtin.zeroCells, Value.cells]
  have h1 : ∀ v ∈ (Builtin.zeroCells (vv 0 0 0).cells n).toList, v.oneCell' = true := by
    intro v hv
    simp [Builtin.zeroCells, Value.cells] at hv
    obtain ⟨a, ha, rfl⟩ := hv
    rcases (by omega : a % 3 = 0 ∨ a % 3 = 1 ∨ a % 3 = 2) with e | e | e <;> simp [e] <;> rfl
  have hst := run_storeCells_cells (P := Try.prog) g o (Builtin.zeroCells (vv 0 0 0).cells n).toList 0 w (by rw [hl]; simpa using hc) (by rw [hl]; simpa using hf) h1
  simp only [Nat.add_zero] at hst
  obtain ⟨m, rfl⟩ : ∃ m, n = m + 1 := ⟨n - 1, by omega⟩
  simp [Builtin.clear_, run_underlying Try.underlying22, hz, hst]
end Go.Proofs.Ytpkfngfenkcjoaa

/- slices.Compact over a row of vectors of the call's own: the walk. -/
set_option linter.all false
namespace Go.Proofs.Ytpkfngfenkcjoaa
open Go.RowKit Go.Sort Go.Lib

theorem RowV.at3 {w : World} {B g n cap : Nat} {L : List T3} (h : RowV w B (.slice (some ⟨g, 0, none⟩) n cap) L) {k : Nat} (hk : k < L.length) {x y z : Int} (e : L[k] = (x, y, z)) :
    (w.cell? ⟨g, k * 3, none⟩ = some (.int .i64 x) ∧ w.cell? ⟨g, k * 3 + 1, none⟩ = some (.int .i64 y) ∧ w.cell? ⟨g, k * 3 + 2, none⟩ = some (.int .i64 z)) ∧ (w.frozen? ⟨g, k * 3, none⟩ = false ∧ w.frozen? ⟨g, k * 3 + 1, none⟩ = false ∧ w.frozen? ⟨g, k * 3 + 2, none⟩ = false) := by
  obtain ⟨c1, c2, c3⟩ := cv_get L k hk
  rw [e] at c1 c2 c3
  obtain ⟨cur, rfl, -⟩ := h.form
  refine ⟨⟨?_, ?_, ?_⟩, World.ownsRow.frozenAt h _, World.ownsRow.frozenAt h _, World.ownsRow.frozenAt h _⟩
  · rw [World.ownsRow.cellAt h _ (by omega), c1]
  · rw [World.ownsRow.cellAt h _ (by omega), c2]
  · rw [World.ownsRow.cellAt h _ (by omega), c3]
theorem RowV.drewN {w : World} {B : Nat} {v : Value} {L : List T3} (h : RowV w B v L) (q : Nat) : RowV (w.drewN q) B v L := h
theorem grown_drewN (w : World) (q : Nat) (r : Option Nat) : w.grownBy (w.drewN q) r := ⟨rfl, rfl, rfl, Nat.le_refl _, fun _ _ _ => rfl⟩
theorem grown_trans {a b c : World} {r : Option Nat} (h : a.grownBy b r) (k : b.grownBy c r) : a.grownBy c r :=
  ⟨k.os.trans h.os, k.tape.trans h.tape, k.output.trans h.output, Nat.le_trans h.size k.size, fun j hj hn => (k.block j (Nat.lt_of_lt_of_le hj h.size) hn).trans (h.block j hj hn)⟩
theorem get_arr (L : List T3) (k : Nat) (h : k < L.length) : L.toArray[k]! = L[k] := by rw [getElem!_pos L.toArray k (by simpa using h)]; simp

set_option maxRecDepth 100000 in
set_option maxHeartbeats 8000000 in
theorem compact_any {w : World} {B g n cap : Nat} {L : List T3} (h : RowV w B (.slice (some ⟨g, 0, none⟩) n cap) L) (hl : L.length ≤ 1000000) :
    Calls Try.prog 60 #[.slice (some ⟨g, 0, none⟩) n cap] w fun e w' => ∃ m, e = .returned (.slice (some ⟨g, 0, none⟩) m cap) ∧ RowV w' B (.slice (some ⟨g, 0, none⟩) m cap) (compactUpTo L.toArray L.length) ∧ w.grownBy w' (some g) := by
  obtain ⟨cur, hn, -, -, hcap, hcm, -⟩ := h.form
  have same : (∀ j, j < L.length → keeps L.toArray j = true) → compactUpTo L.toArray L.length = L := by
    intro hall
    have e := compactUpTo_all L.toArray L.length hall
    rw [e]
    apply List.ext_getElem
    · simp
    · intro i h1 h2
      rw [List.getElem_map, List.getElem_range, get_arr L i h2]
  have HS := Lib.hid same
  have HR := Lib.hid h
  have hc0 : (cap : Int) ≤ 9223372036854775807 := by unfold maxLen at hcm; omega
  clear same h hcm
  by_cases h2 : n < 2
  · go_enter Try.func60, Try.ntmps60
    go_wp2
    go_ret
    exact ⟨n, rfl, by rw [HS.out (fun j hj => keeps_lt_one _ j (by omega))]; exact HR.out, grown_drewN w 0 _⟩
  · have HN := Lib.hid hn
    clear hn
    go_enter Try.func60, Try.ntmps60
    go_wp2
    go_loopg [3] n (fun gg s3 wr => ∃ k q : Nat, 1 ≤ k ∧ k ≤ n ∧ n - k ≤ gg ∧ s3 = .int .i64 k ∧ wr = w.drewN q ∧ Hid (∀ j, j < k → keeps L.toArray j = true))
    case atStart => exact ⟨1, 0, Nat.le_refl _, by omega, by omega, rfl, rfl, keeps_lt_one _⟩
    case round =>
      obtain ⟨k, q, hk1, hk, hg, rfl, hwr, hall⟩ := hrel
      have HW := Lib.hid hwr
      have hnL : n = L.length := HN.out
      by_cases hlt : k < n
      · obtain ⟨x, y, z, hx⟩ : ∃ x y z, L[k] = (x, y, z) := ⟨_, _, _, rfl⟩
        obtain ⟨u, s, t, hu⟩ : ∃ x y z, L[k - 1] = (x, y, z) := ⟨_, _, _, rfl⟩
        have HRw : Hid (RowV wr B (.slice (some ⟨g, 0, none⟩) n cap) L) := by rw [hwr]; exact HR.out.drewN q
        obtain ⟨⟨c0, c1, c2⟩, -⟩ := HRw.out.at3 (by omega) hx
        obtain ⟨⟨d0, d1, d2⟩, -⟩ := HRw.out.at3 (by omega) hu
        have hk0 : (0 : Int) ≤ (k : Int) - 1 := by omega
        have hk3 : (k : Int) - 1 < (n : Int) := by omega
        have hk4 : ((k : Int) - 1).toNat = k - 1 := by omega
        by_cases hv : vE x y z u s t = true
        · have qN : ∀ w, (binOp .eql 24 (.agg #[.int .i64 x, .int .i64 y, .int .i64 z]) (.agg #[.int .i64 u, .int .i64 s, .int .i64 t])).run Try.prog w = .ok (.bool true) w := fun w => by have := eq_vec w x y z u s t; rw [hv] at this; exact this
          have hdup : Hid (keeps L.toArray k = false) := keeps_neg (by omega) (by
            rw [get_arr L k (by omega), get_arr L (k - 1) (by omega), hx, hu]
            obtain ⟨rfl, rfl, rfl⟩ := vE_iff.1 hv
            rfl)
          clear hx hu hv hnL hwr
          go_upto_region 6 with (fail)
          go_quiet (fail)
          clear c0 c1 c2 d0 d1 d2 qN
          obtain ⟨w1, hw1⟩ : ∃ w1 : World, w1 = wr.drewN nq := ⟨_, rfl⟩
          have HR1 : Hid (RowV w1 B (.slice (some ⟨g, 0, none⟩) n cap) L) := by rw [hw1]; exact HRw.out.drewN nq
          have HG1 : Hid (w.grownBy w1 (some g)) := by rw [hw1, HW.out]; exact grown_trans (grown_drewN w q _) (grown_drewN _ nq _)
          rw [← hw1]
          clear hw1 HRw HW
          go_wp2
          go_loopg [3, 5] n (fun gg s3 s5 wr => ∃ (kk k2 : Nat) (M : List T3), s3 = .int .i64 kk ∧ s5 = .int .i64 k2 ∧ 1 ≤ k2 ∧ k + k2 ≤ n ∧ n - (k + k2) ≤ gg ∧ Hid (RowV wr B (.slice (some ⟨g, 0, none⟩) n cap) M) ∧ Hid (w.grownBy wr (some g)) ∧ Hid (CompInv L.toArray (k + k2) kk M.toArray))
          case atStart => exact ⟨k, 1, L, rfl, rfl, Nat.le_refl _, by omega, by omega, HR1, HG1, CompInv.start hall.out hdup.out⟩
          case round =>
            obtain ⟨kk, k2, M, rfl, rfl, h1, hle, hg2, hR, hG, hI⟩ := hrel
            have hkk : kk < k + k2 := hI.out.lt
            have hMl : M.length = L.length := by have := hI.out.size; simpa using this
            have hnL : n = L.length := HN.out
            by_cases hlt2 : k2 < n - k
            · obtain ⟨x5, y5, z5, hx⟩ : ∃ x y z, M[k + k2]'(by omega) = (x, y, z) := ⟨_, _, _, rfl⟩
              obtain ⟨u5, s5', t5, hu⟩ : ∃ x y z, M[k + k2 - 1]'(by omega) = (x, y, z) := ⟨_, _, _, rfl⟩
              obtain ⟨o1, o2, o3, ho⟩ : ∃ x y z, M[kk]'(by omega) = (x, y, z) := ⟨_, _, _, rfl⟩
              obtain ⟨⟨c0, c1, c2⟩, -⟩ := hR.out.at3 (by omega) hx
              obtain ⟨⟨d0, d1, d2⟩, -⟩ := hR.out.at3 (by omega) hu
              obtain ⟨⟨e0, e1, e2⟩, f0, f1, f2⟩ := hR.out.at3 (by omega) ho
              rw [show (k + k2) * 3 = k * 3 + k2 * 3 by omega] at c0 c1 c2
              rw [show (k + k2 - 1) * 3 = k * 3 + (k2 - 1) * 3 by omega] at d0 d1 d2
              have hxL : Hid (L.toArray[k + k2]! = (x5, y5, z5)) := by
                have := hI.out.high (k + k2) (by omega)
                rw [get_arr M _ (by omega), hx] at this
                exact this.symm
              have huL : Hid (L.toArray[k + k2 - 1]! = (u5, s5', t5)) := by
                have := hI.out.high (k + k2 - 1) (by omega)
                rw [get_arr M _ (by omega), hu] at this
                exact this.symm
              have hk0 : (0 : Int) ≤ (k2 : Int) - 1 := by omega
              have hk3 : (k2 : Int) - 1 < ((n - k : Nat) : Int) := by omega
              have hk4 : ((k2 : Int) - 1).toNat = k2 - 1 := by omega
              have hkn : (kk : Int) < (n : Int) := by omega
              have HkM : Hid (kk < M.length) := by show _ < _; omega
              have Hk2 : Hid (k + k2 < L.length) := by show _ < _; omega
              clear hx hu ho hnL hMl
              by_cases hv5 : vE x5 y5 z5 u5 s5' t5 = true
              · have qN : ∀ w, (binOp .neq 24 (.agg #[.int .i64 x5, .int .i64 y5, .int .i64 z5]) (.agg #[.int .i64 u5, .int .i64 s5', .int .i64 t5])).run Try.prog w = .ok (.bool false) w := fun w => by have := neq_vec w x5 y5 z5 u5 s5' t5; rw [hv5] at this; exact this
                have hI2 : Hid (CompInv L.toArray (k + (k2 + 1)) kk M.toArray) := hI.out.skip (keeps_neg (by omega) (by
                  rw [hxL.out, huL.out]
                  obtain ⟨rfl, rfl, rfl⟩ := vE_iff.1 hv5
                  rfl))
                clear hv5
                go_upto_region 11 with (fail)
                go_quiet (fail)
                go_wp2
                go_roundg (n - (k + (k2 + 1)))
                case measure => omega
                case rel => exact ⟨kk, k2 + 1, M, rfl, by go_num, by omega, by omega, Nat.le_refl _, hR.out.drewN nq, grown_trans hG.out (grown_drewN _ _ _), hI2.out⟩
              · rw [Bool.not_eq_true] at hv5
                have qN : ∀ w, (binOp .neq 24 (.agg #[.int .i64 x5, .int .i64 y5, .int .i64 z5]) (.agg #[.int .i64 u5, .int .i64 s5', .int .i64 t5])).run Try.prog w = .ok (.bool true) w := fun w => by have := neq_vec w x5 y5 z5 u5 s5' t5; rw [hv5] at this; exact this
                have hI2 : Hid (CompInv L.toArray (k + (k2 + 1)) (kk + 1) (M.set kk (x5, y5, z5)).toArray) := by
                  have := hI.out.keep (by simpa using Hk2.out) (keeps_pos (by
                    rw [hxL.out, huL.out]
                    intro e
                    cases e
                    rw [vE_refl] at hv5
                    cases hv5))
                  rw [hxL.out] at this
                  have e : M.toArray.setIfInBounds kk (x5, y5, z5) = (M.set kk (x5, y5, z5)).toArray := by simp
                  rw [e] at this
                  exact this
                clear hv5
                go_upto_region 11 with (fail)
                go_quiet (fail)
                obtain ⟨w1, hw1⟩ : ∃ w1 : World, w1 = wr.drewN nq := ⟨_, rfl⟩
                go_wp2
                go_roundg (n - (k + (k2 + 1)))
                case measure => omega
                case rel => exact ⟨kk + 1, k2 + 1, M.set kk (x5, y5, z5), by go_num, by go_num, by omega, by omega, Nat.le_refl _, ((hR.out.drewN nq).set HkM.out x5 y5 z5).1, grown_trans hG.out (grown_trans (grown_drewN _ nq _) ((hR.out.drewN nq).set HkM.out x5 y5 z5).2), hI2.out⟩
            · have hend : k + k2 = n := by omega
              have hcl : ∀ ty, (Builtin.clear_ #[22] ty #[.slice (some ⟨g, kk * 3, none⟩) (n - kk) (cap - kk)]).run Try.prog wr = .ok (.tuple #[]) (wr.setCells g (kk * 3) (zs (n - kk))) := by
                intro ty
                have each : ∀ j, j < (n - kk) * 3 → (wr.cell? ⟨g, kk * 3 + j, none⟩).isSome = true ∧ wr.frozen? ⟨g, kk * 3 + j, none⟩ = false := by
                  intro j hj
                  have hj3 : j / 3 < n - kk := by omega
                  obtain ⟨x, y, z, e⟩ : ∃ x y z, M[kk + j / 3]'(by omega) = (x, y, z) := ⟨_, _, _, rfl⟩
                  obtain ⟨⟨c0, c1, c2⟩, f0, f1, f2⟩ := hR.out.at3 (by omega) e
                  rcases (by omega : j % 3 = 0 ∨ j % 3 = 1 ∨ j % 3 = 2) with e | e | e
                  · rw [show kk * 3 + j = (kk + j / 3) * 3 by omega]; exact ⟨by rw [c0]; rfl, f0⟩
                  · rw [show kk * 3 + j = (kk + j / 3) * 3 + 1 by omega]; exact ⟨by rw [c1]; rfl, f1⟩
                  · rw [show kk * 3 + j = (kk + j / 3) * 3 + 2 by omega]; exact ⟨by rw [c2]; rfl, f2⟩
                exact run_clear_vec ty (by omega) (fun j hj => (each j hj).1) (fun j hj => (each j hj).2)
              have hkn : kk ≤ n := by omega
              have hfin : Hid (RowV (wr.setCells g (kk * 3) (zs (n - kk))) B (.slice (some ⟨g, 0, none⟩) kk cap) (compactUpTo L.toArray L.length) ∧ w.grownBy (wr.setCells g (kk * 3) (zs (n - kk))) (some g)) := by
                obtain ⟨p1, p2⟩ := hR.out.cleared hkn (zs (n - kk))
                refine ⟨?_, grown_trans hG.out p2⟩
                have e : compactUpTo L.toArray L.length = M.take kk := by
                  rw [← hnL, ← hend]
                  have hl1 := hI.out.len
                  apply List.ext_getElem?
                  intro j
                  by_cases hj : j < kk
                  · rw [hI.out.low j hj, get_arr M j (by omega), List.getElem?_take, if_pos hj, List.getElem?_eq_getElem (by omega)]
                  · rw [List.getElem?_eq_none (by omega), List.getElem?_eq_none (by rw [List.length_take]; omega)]
                rw [e]
                exact p1
              clear hI hR hG hnL hMl
              go_wp2
              go_ret
              exact ⟨kk, rfl, hfin.out.1, hfin.out.2⟩
        · rw [Bool.not_eq_true] at hv
          have qN : ∀ w, (binOp .eql 24 (.agg #[.int .i64 x, .int .i64 y, .int .i64 z]) (.agg #[.int .i64 u, .int .i64 s, .int .i64 t])).run Try.prog w = .ok (.bool false) w := fun w => by have := eq_vec w x y z u s t; rw [hv] at this; exact this
          have hkp : Hid (∀ j, j < k + 1 → keeps L.toArray j = true) := by
            intro j hj
            rcases Nat.lt_or_ge j k with g | g
            · exact hall.out j g
            · obtain rfl : j = k := by omega
              exact keeps_pos (by
                rw [get_arr L j (by omega), get_arr L (j - 1) (by omega), hx, hu]
                intro e
                cases e
                rw [vE_refl] at hv
                cases hv)
          clear hx hu hv hnL hwr
          go_upto_region 6 with (fail)
          go_quiet (fail)
          go_wp2
          go_roundg (n - (k + 1))
          case measure => omega
          case rel => exact ⟨k + 1, q + nq, by omega, by omega, Nat.le_refl _, by go_num, by rw [HW.out]; simp [World.drewN, Nat.add_assoc], hkp.out⟩
      · have hA : Hid (compactUpTo L.toArray L.length = L) := HS.out (fun j hj => hall.out j (by omega))
        clear hall hnL hwr
        go_wp2
        go_ret
        exact ⟨n, rfl, by rw [hA.out, HW.out]; exact HR.out.drewN q, by rw [HW.out]; exact grown_drewN w _ _⟩
end Go.Proofs.Ytpkfngfenkcjoaa

/- hull.leftTurns: the walk. -/
set_option linter.all false
namespace Go.Proofs.Ytpkfngfenkcjoaa
open Go.RowKit Go.Sort

/-- Those that leave the new one on their left stay; the last one is the head. -/
def popT (T : T3 → T3 → T3 → Int) (p : T3) : List T3 → List T3
  | b :: a :: r => if T a b p = 1 then b :: a :: r else popT T p (a :: r)
  | st => st
def chT (T : T3 → T3 → T3 → Int) (l : List T3) : List T3 := l.foldl (fun st p => p :: popT T p st) []
theorem chT_snoc (T : T3 → T3 → T3 → Int) (l : List T3) (p : T3) : chT T (l ++ [p]) = p :: popT T p (chT T l) := by simp [chT]
theorem popT_short (T : T3 → T3 → T3 → Int) (p : T3) {st : List T3} (h : st.length < 2) : popT T p st = st := by
  match st, h with
  | [], _ => rfl
  | [a], _ => rfl
theorem popT_stay {T : T3 → T3 → T3 → Int} {p a b : T3} {r : List T3} (h : T a b p = 1) : popT T p (b :: a :: r) = b :: a :: r := by rw [popT, if_pos h]
theorem popT_go {T : T3 → T3 → T3 → Int} {p a b : T3} {r : List T3} (h : ¬ T a b p = 1) : popT T p (b :: a :: r) = popT T p (a :: r) := by rw [popT, if_neg h]
theorem RowV.ptr {w : World} {B n c : Nat} {p : Option Addr} {F : List T3} (h : RowV w B (.slice p n c) F) (h0 : 0 < F.length) : ∃ g, p = some ⟨g, 0, none⟩ ∧ n = F.length := by
  rcases h.2 with ⟨h1, h2⟩ | ⟨g, c', cur, h1, -⟩
  · omega
  · injection h1 with h1 h2 _; exact ⟨g, h1, h2⟩
theorem rev_take (b : T3) (t : List T3) : t.reverse = ((b :: t).reverse).take (t.length + 1 - 1) := by
  rw [List.reverse_cons, Nat.add_sub_cancel, List.take_append_of_le_length (by simp), List.take_of_length_le (by simp)]
def lnO : Value → Nat
  | .slice _ n _ => n
  | _ => 0

set_option maxRecDepth 100000 in
set_option maxHeartbeats 8000000 in
theorem leftTurns_walk (L : List T3) (v : Value) (w : World) (T : T3 → T3 → T3 → Int) (h : Rv w v L) (hmx : L.length ≤ 20000)
    (hT : ∀ a ∈ L, ∀ b ∈ L, ∀ c ∈ L, ∀ w', Calls Try.prog 37 #[vv a.1 a.2.1 a.2.2, vv b.1 b.2.1 b.2.2, vv c.1 c.2.1 c.2.2] w' (Ret (.int .i64 (T a b c)) w')) :
    Calls Try.prog 61 #[v] w fun e w' => ∃ vo, e = .returned vo ∧ RowV w' w.heap.size vo (chT T L).reverse ∧ Below w.heap.size w w' := by
  obtain ⟨p, b, off, cap, rfl, h2, h3, h4, h5⟩ := h
  have H4 := Lib.hid h4
  have H5 := Lib.hid h5
  have HT := Lib.hid hT
  clear h4 h5 h2 h3 hT
  obtain ⟨n, hn⟩ : ∃ n, n = L.length := ⟨_, rfl⟩
  rw [← hn] at hmx ⊢
  have HN := Lib.hid hn
  clear hn
  go_enter Try.func61, Try.ntmps61
  go_wp2
  go_loopw [3, 5, 8] (fun ov _ iv wr => ∃ (wz : World) (k m : Nat) (po : Option Addr) (co : Nat) (st : List T3), wz = wr ∧ k ≤ n ∧ m ≤ k ∧ iv = .int .i64 (k : Int) ∧ ov = .slice po m co ∧ Hid (RowV wz w.heap.size (.slice po m co) st.reverse) ∧ Hid (st.length = m ∧ st = chT T (L.take k) ∧ ∀ a ∈ st, a ∈ L) ∧ Hid (Below w.heap.size w wz))
    (fun _ _ iv _ => n - (intOf iv).toNat)
  case atStart => exact ⟨w, 0, 0, none, 0, [], rfl, Nat.zero_le _, Nat.le_refl _, rfl, rfl, RowV.nil _ _, ⟨rfl, by simp [chT], fun a ha => by cases ha⟩, Below.refl _ _⟩
  case round =>
    obtain ⟨wz, k, m, po, co, st, rfl, hk, hm, rfl, rfl, hrow, hst, hbl⟩ := hrel
    by_cases hlt : k < n
    · have hkl : k < L.length := by have h5 : n = L.length := HN.out; omega
      obtain ⟨x, y, z, hL⟩ : ∃ x y z, L[k] = (x, y, z) := ⟨_, _, _, rfl⟩
      obtain rfl := H4.out (by omega)
      have c0 : wz.cell? ⟨b, off + k * 3, none⟩ = some (.int .i64 x) := by
        have := keep1 hbl.out (H5.out k hkl).1
        simpa [hL] using this
      have c1 : wz.cell? ⟨b, off + k * 3 + 1, none⟩ = some (.int .i64 y) := by
        have := keep1 hbl.out (H5.out k hkl).2.1
        simpa [hL] using this
      have c2 : wz.cell? ⟨b, off + k * 3 + 2, none⟩ = some (.int .i64 z) := by
        have := keep1 hbl.out (H5.out k hkl).2.2
        simpa [hL] using this
      have HP : Hid ((x, y, z) ∈ L) := by show _ ∈ _; rw [← hL]; exact List.getElem_mem hkl
      have HTK : Hid (L.take (k + 1) = L.take k ++ [(x, y, z)]) := by show _ = _; rw [List.take_succ_eq_append_getElem hkl, hL]
      clear hL hkl
      go_upto_region 5 with (fail)
      obtain ⟨u0, hu⟩ : ∃ u0 : World, u0 = wz.alloc (.cells #[.int .i64 x, .int .i64 y, .int .i64 z] 24) := ⟨_, rfl⟩
      have VB : Hid (V3 u0 wz.heap.size x y z) := by rw [hu]; exact (vf_made _ _ _ _).1
      have HB : Hid (Below w.heap.size w u0) := by rw [hu]; exact hbl.out.alloc hbl.out.size _
      have HO : Hid (RowV u0 w.heap.size (.slice po m co) st.reverse) := by rw [hu]; exact hrow.out.below (below_one _ _)
      obtain ⟨gx, hg⟩ : ∃ g, g = wz.heap.size := ⟨_, rfl⟩
      rw [← hg] at VB
      rw [← hu, ← hg]
      clear hu hg c0 c1 c2 hrow hbl
      go_loopw [3] (fun ov wr => ∃ (wy : World) (m5 : Nat) (p5 : Option Addr) (co5 : Nat) (s5 : List T3), wy = wr ∧ m5 ≤ k ∧ ov = .slice p5 m5 co5 ∧ Hid (RowV wy w.heap.size (.slice p5 m5 co5) s5.reverse) ∧ Hid (s5.length = m5 ∧ popT T (x, y, z) s5 = popT T (x, y, z) st ∧ ∀ a ∈ s5, a ∈ L) ∧ Hid (V3 wy gx x y z) ∧ Hid (Below w.heap.size w wy))
        (fun ov _ => lnO ov)
      case atStart => exact ⟨_, m, po, co, st, rfl, hm, rfl, HO, ⟨hst.out.1, rfl, hst.out.2.2⟩, VB, HB⟩
      case round =>
        clear HO VB HB
        obtain ⟨wy, m5, p5, co5, s5, rfl, hm5, rfl, HO, HS5, VB, HB⟩ := hrel
        have FIN : Hid (popT T (x, y, z) s5 = s5 → ∀ v6 w6, RowV w6 w.heap.size v6 (s5.reverse ++ [(x, y, z)]) → Below w.heap.size w w6 → ∃ (wz : World) (k' m' : Nat) (po : Option Addr) (co : Nat) (st : List T3), wz = w6 ∧ k' ≤ n ∧ m' ≤ k' ∧ k' = k + 1 ∧ v6 = .slice po m' co ∧ Hid (RowV wz w.heap.size (.slice po m' co) st.reverse) ∧ Hid (st.length = m' ∧ st = chT T (L.take k') ∧ ∀ a ∈ st, a ∈ L) ∧ Hid (Below w.heap.size w wz)) := by
          intro hstop v6 w6 hr6 hb6
          obtain ⟨q1, q2, q3⟩ := HS5.out
          obtain ⟨r1, r2, r3⟩ := hst.out
          obtain ⟨p6, c6, hv6⟩ := hr6.len
          have hl6 : (s5.reverse ++ [(x, y, z)]).length = m5 + 1 := by simp [q1]
          rw [hl6] at hv6
          subst hv6
          refine ⟨w6, k + 1, m5 + 1, p6, c6, (x, y, z) :: s5, rfl, by omega, by omega, rfl, rfl, by rw [List.reverse_cons]; exact hr6, ⟨by simp [q1], ?_, ?_⟩, hb6⟩
          · rw [HTK.out, chT_snoc, ← r2, ← q2, hstop]
          · intro a ha
            rcases List.mem_cons.1 ha with rfl | ha
            · exact HP.out
            · exact q3 a ha
        have HLEN : Hid (s5.reverse.length ≤ 1000000) := by show _ ≤ _; rw [List.length_reverse, HS5.out.1]; omega
        by_cases h2 : 2 ≤ m5
        · obtain ⟨b', a', r', hs5⟩ : ∃ b' a' r', s5 = b' :: a' :: r' := by
            match s5, HS5.out.1 with
            | [], h => simp at h; omega
            | [a], h => simp at h; omega
            | b' :: a' :: r', _ => exact ⟨b', a', r', rfl⟩
          obtain ⟨b0, b1, b2⟩ := b'
          obtain ⟨a0, a1, a2⟩ := a'
          obtain ⟨g2, hp5, -⟩ := HO.out.ptr (by rw [List.length_reverse, HS5.out.1]; omega)
          subst hp5
          have hml : r'.length + 2 = m5 := by have := HS5.out.1; rw [hs5] at this; simpa using this
          have HLa : Hid (∃ h : m5 - 2 < s5.reverse.length, s5.reverse[m5 - 2] = (a0, a1, a2)) := by
            refine ⟨by rw [List.length_reverse, HS5.out.1]; omega, ?_⟩
            subst hs5
            simp [← hml]
          have HLb : Hid (∃ h : m5 - 1 < s5.reverse.length, s5.reverse[m5 - 1] = (b0, b1, b2)) := by
            refine ⟨by rw [List.length_reverse, HS5.out.1]; omega, ?_⟩
            subst hs5
            simp [← hml]
          have T1 : Hid (∀ w', Calls Try.prog 37 #[vv a0 a1 a2, vv b0 b1 b2, vv x y z] w' (Ret (.int .i64 (T (a0, a1, a2) (b0, b1, b2) (x, y, z))) w')) :=
            fun w' => HT.out (a0, a1, a2) (HS5.out.2.2 _ (by rw [hs5]; simp)) (b0, b1, b2) (HS5.out.2.2 _ (by rw [hs5]; simp)) (x, y, z) HP.out w'
          obtain ⟨cc, hcn, -, -, hcap, hcm, -⟩ := HO.out.form
          have hc0 : (co5 : Int) ≤ 9223372036854775807 := by unfold maxLen at hcm; omega
          clear hcm hcn cc
          obtain ⟨q2, hq2⟩ : ∃ q, q = m5 - 2 := ⟨_, rfl⟩
          obtain ⟨q1, hq1⟩ : ∃ q, q = m5 - 1 := ⟨_, rfl⟩
          rw [← hq2] at HLa
          rw [← hq1] at HLb
          have w2 : IntKind.i64.wrap ((m5 : Int) - 2) = (q2 : Int) := by rw [show (m5 : Int) - 2 = (q2 : Int) by omega]; exact wrap_in (by omega)
          have w1 : IntKind.i64.wrap ((m5 : Int) - 1) = (q1 : Int) := by rw [show (m5 : Int) - 1 = (q1 : Int) by omega]; exact wrap_in (by omega)
          have i0 : (0 : Int) ≤ (q2 : Int) := by omega
          have i1 : (q2 : Int) < (m5 : Int) := by omega
          have i3 : (0 : Int) ≤ (q1 : Int) := by omega
          have i4 : (q1 : Int) < (m5 : Int) := by omega
          have Q1 := Lib.hid hq1
          have i6 : (2 : Int) ≤ (m5 : Int) := by omega
          have i7 : q1 ≤ co5 := by omega
          have i8 : (q1 : Int) ≤ (co5 : Int) := by omega
          clear hq1 hq2
          obtain ⟨⟨d0, d1, d2⟩, -⟩ := HO.out.at3 HLa.out.1 HLa.out.2
          obtain ⟨⟨d3, d4, d5⟩, -⟩ := HO.out.at3 HLb.out.1 HLb.out.2
          obtain ⟨e0, e1, e2⟩ := VB.out
          by_cases ht : T (a0, a1, a2) (b0, b1, b2) (x, y, z) = 1
          · have HST : Hid (popT T (x, y, z) s5 = s5) := by show _ = _; rw [hs5]; exact popT_stay ht
            rw [ht] at T1
            clear ht hs5 hml
            go_upto_region 5 with (fail)
            go_region_held3 (fun W' => W'.cell? ⟨g2, q2 * 3, none⟩ = some (.int .i64 a0) ∧ W'.cell? ⟨g2, q2 * 3 + 1, none⟩ = some (.int .i64 a1) ∧ W'.cell? ⟨g2, q2 * 3 + 2, none⟩ = some (.int .i64 a2) ∧ W'.cell? ⟨g2, q1 * 3, none⟩ = some (.int .i64 b0) ∧ W'.cell? ⟨g2, q1 * 3 + 1, none⟩ = some (.int .i64 b1) ∧ W'.cell? ⟨g2, q1 * 3 + 2, none⟩ = some (.int .i64 b2) ∧ W'.cell? ⟨gx, 0, none⟩ = some (.int .i64 x) ∧ W'.cell? ⟨gx, 1, none⟩ = some (.int .i64 y) ∧ W'.cell? ⟨gx, 2, none⟩ = some (.int .i64 z)) (go_keep)
            (first
              | (go_at_call 37; (with_reducible refine (T1.out _).mono ?_); rintro e y5 ⟨rfl, b5⟩; (try (have b5 := undrew b5)); have HO := Lib.hid (HO.out.below b5); have VB := Lib.hid (VB.out.below b5); have HB := Lib.hid (chain HB.out b5); clear b5; obtain ⟨⟨d0, d1, d2⟩, -⟩ := HO.out.at3 HLa.out.1 HLa.out.2; obtain ⟨⟨d3, d4, d5⟩, -⟩ := HO.out.at3 HLb.out.1 HLb.out.2; obtain ⟨e0, e1, e2⟩ := VB.out)
              | fail)
            refine any_world (p := fun W => Exit.then _ _ _ _ W) _ ?_
            intro W hW
            have HO : Hid (RowV W w.heap.size (.slice (some ⟨g2, 0, none⟩) m5 co5) s5.reverse) := by rw [hW]; exact HO.out
            have VB : Hid (V3 W gx x y z) := by rw [hW]; exact VB.out
            have HB : Hid (Below w.heap.size w W) := by rw [hW]; first | exact HB.out | exact HB.out.drew
            clear hW
            obtain ⟨e0, e1, e2⟩ := VB.out
            have HC6 : Hid (RowV (W.alloc (.cells #[.int .i64 x, .int .i64 y, .int .i64 z] 24)) w.heap.size (.slice (some ⟨g2, 0, none⟩) m5 co5) s5.reverse) := HO.out.below (below_one _ _)
            have EB6 : Hid (Below w.heap.size w (W.alloc (.cells #[.int .i64 x, .int .i64 y, .int .i64 z] 24))) := HB.out.alloc HB.out.size _
            have HM6 : Hid (RowV (W.alloc (.cells #[.int .i64 x, .int .i64 y, .int .i64 z] 24)) W.heap.size (.slice (some ⟨W.heap.size, 0, none⟩) 1 1) [(x, y, z)]) := RowV.made W _ x y z (Nat.le_refl _)
            clear HO HB VB
            go_wp2_with (first
              | (at_builtin; go_loud (refine wpList_append_V rfl rfl _ _ rfl rfl rfl HC6.out HM6.out.rv HLEN.out (by show 1 ≤ 1000000; decide) EB6.out.size (fun h => by cases h) ?_); intro v6 w6 hrow6 hg6; have HN6 := Lib.hid hrow6; have HE6 := Lib.hid (Below.grown_row EB6.out EB6.out.size HC6.out hg6); clear hrow6 hg6))
            obtain ⟨wq, k', m', po', co', st', rfl, z1, z2, rfl, rfl, hA, hB, hC⟩ := FIN.out HST.out _ _ HN6.out HE6.out
            go_roundw
            case rel => exact ⟨_, k + 1, m', po', co', st', rfl, z1, z2, by go_num, rfl, hA, hB, hC⟩
            case measure => simp [intOf]; omega
          · have HGO : Hid (s5.tail.length = q1 ∧ popT T (x, y, z) s5.tail = popT T (x, y, z) st ∧ ∀ a ∈ s5.tail, a ∈ L) := by
              obtain ⟨z1, z2, z3⟩ := HS5.out
              refine ⟨by have h5 : q1 = m5 - 1 := Q1.out; rw [h5]; simp [z1], ?_, fun a ha => z3 a (List.mem_of_mem_tail ha)⟩
              rw [← z2, hs5, popT_go ht]
              rfl
            have HTL : Hid (s5.tail.reverse = s5.reverse.take q1) := by
              show _ = _
              subst hs5
              rw [show q1 = m5 - 1 from Q1.out, ← hml]
              exact rev_take _ _
            generalize T (a0, a1, a2) (b0, b1, b2) (x, y, z) = r at *
            clear hs5 hml FIN
            go_upto_region 5 with (fail)
            go_region_held3 (fun W' => W'.cell? ⟨g2, q2 * 3, none⟩ = some (.int .i64 a0) ∧ W'.cell? ⟨g2, q2 * 3 + 1, none⟩ = some (.int .i64 a1) ∧ W'.cell? ⟨g2, q2 * 3 + 2, none⟩ = some (.int .i64 a2) ∧ W'.cell? ⟨g2, q1 * 3, none⟩ = some (.int .i64 b0) ∧ W'.cell? ⟨g2, q1 * 3 + 1, none⟩ = some (.int .i64 b1) ∧ W'.cell? ⟨g2, q1 * 3 + 2, none⟩ = some (.int .i64 b2) ∧ W'.cell? ⟨gx, 0, none⟩ = some (.int .i64 x) ∧ W'.cell? ⟨gx, 1, none⟩ = some (.int .i64 y) ∧ W'.cell? ⟨gx, 2, none⟩ = some (.int .i64 z)) (go_keep)
            (first
              | (go_at_call 37; (with_reducible refine (T1.out _).mono ?_); rintro e y5 ⟨rfl, b5⟩; (try (have b5 := undrew b5)); have HO := Lib.hid (HO.out.below b5); have VB := Lib.hid (VB.out.below b5); have HB := Lib.hid (chain HB.out b5); clear b5; obtain ⟨⟨d0, d1, d2⟩, -⟩ := HO.out.at3 HLa.out.1 HLa.out.2; obtain ⟨⟨d3, d4, d5⟩, -⟩ := HO.out.at3 HLb.out.1 HLb.out.2; obtain ⟨e0, e1, e2⟩ := VB.out)
              | fail)
            go_wp2
            go_roundw
            case rel => exact ⟨_, q1, _, co5, s5.tail, rfl, by have h5 : q1 = m5 - 1 := Q1.out; omega, rfl, by rw [HTL.out]; exact (by first | exact HO.out.take (by have h5 : q1 = m5 - 1 := Q1.out; omega) | exact (RowV.take (w := _) HO.out (by omega))), HGO.out, by first | exact VB.out | exact VB.out, by first | exact HB.out | exact HB.out.drew⟩
            case measure => have h5 : q1 = m5 - 1 := Q1.out; simp [lnO]; omega
        · have i6 : ¬ (2 : Int) ≤ (m5 : Int) := by omega
          have HST : Hid (popT T (x, y, z) s5 = s5) := popT_short T _ (by rw [HS5.out.1]; omega)
          obtain ⟨e0, e1, e2⟩ := VB.out
          go_upto_region 5 with (fail)
          go_quiet (fail)
          have HO := Lib.hid (HO.out.below (below_drewN (Below.refl _ _) nq))
          have VB := Lib.hid (VB.out.below (below_drewN (Below.refl _ _) nq))
          have HB := Lib.hid (chain HB.out (below_drewN (Below.refl _ _) nq))
          obtain ⟨e0, e1, e2⟩ := VB.out
          refine any_world (p := fun W => Exit.then _ _ _ _ W) _ ?_
          intro W hW
          have HO : Hid (RowV W w.heap.size (.slice p5 m5 co5) s5.reverse) := by rw [hW]; exact HO.out
          have VB : Hid (V3 W gx x y z) := by rw [hW]; exact VB.out
          have HB : Hid (Below w.heap.size w W) := by rw [hW]; first | exact HB.out | exact HB.out.drew
          clear hW
          obtain ⟨e0, e1, e2⟩ := VB.out
          have HC6 : Hid (RowV (W.alloc (.cells #[.int .i64 x, .int .i64 y, .int .i64 z] 24)) w.heap.size (.slice p5 m5 co5) s5.reverse) := HO.out.below (below_one _ _)
          have EB6 : Hid (Below w.heap.size w (W.alloc (.cells #[.int .i64 x, .int .i64 y, .int .i64 z] 24))) := HB.out.alloc HB.out.size _
          have HM6 : Hid (RowV (W.alloc (.cells #[.int .i64 x, .int .i64 y, .int .i64 z] 24)) W.heap.size (.slice (some ⟨W.heap.size, 0, none⟩) 1 1) [(x, y, z)]) := RowV.made W _ x y z (Nat.le_refl _)
          clear HO HB VB
          go_wp2_with (first
            | (at_builtin; go_loud (refine wpList_append_V rfl rfl _ _ rfl rfl rfl HC6.out HM6.out.rv HLEN.out (by show 1 ≤ 1000000; decide) EB6.out.size (fun h => by cases h) ?_); intro v6 w6 hrow6 hg6; have HN6 := Lib.hid hrow6; have HE6 := Lib.hid (Below.grown_row EB6.out EB6.out.size HC6.out hg6); clear hrow6 hg6))
          obtain ⟨wq, k', m', po', co', st', rfl, z1, z2, rfl, rfl, hA, hB, hC⟩ := FIN.out HST.out _ _ HN6.out HE6.out
          go_roundw
          case rel => exact ⟨_, k + 1, m', po', co', st', rfl, z1, z2, by go_num, rfl, hA, hB, hC⟩
          case measure => simp [intOf]; omega
    · have HA : Hid (st = chT T L) := by
        have h5 : n = L.length := HN.out
        have h6 : k = n := by omega
        have := hst.out.2.1
        rw [h6, h5, List.take_length] at this
        exact this
      have hrow2 : Hid (RowV wz w.heap.size (.slice po m co) (chT T L).reverse) := by rw [← HA.out]; exact hrow.out
      clear hst HA hrow
      go_wp2
      go_ret
      exact ⟨_, rfl, hrow2.out, hbl.out⟩
end Go.Proofs.Ytpkfngfenkcjoaa

/- hull.corners: the walk. -/
set_option linter.all false
namespace Go.Proofs.Ytpkfngfenkcjoaa
open Go.RowKit Go.Sort Go.Lib

theorem made_zeros (n : Nat) : (madeCells (vv 0 0 0).cells (n * 3)).toList = cv (List.replicate n (0, 0, 0)) := by
  apply List.ext_getElem
  · rw [cv_length]; simp [madeCells]
  · intro j h1 h2
    rw [cv_length, List.length_replicate] at h2
    obtain ⟨k, r, hr, rfl⟩ : ∃ k r, r < 3 ∧ j = k * 3 + r := ⟨j / 3, j % 3, by omega, by omega⟩
    obtain ⟨c1, c2, c3⟩ := cv_get (List.replicate n ((0 : Int), (0 : Int), (0 : Int))) k (by rw [List.length_replicate]; omega)
    simp only [List.getElem_replicate] at c1 c2 c3
    rcases (by omega : r = 0 ∨ r = 1 ∨ r = 2) with rfl | rfl | rfl
    · simp only [Nat.add_zero]; rw [(List.getElem?_eq_some_iff.1 c1).2]; simp [madeCells, Value.cells]
    · rw [(List.getElem?_eq_some_iff.1 c2).2]; simp [madeCells, Value.cells, Nat.mul_add_mod']
    · rw [(List.getElem?_eq_some_iff.1 c3).2]; simp [madeCells, Value.cells, Nat.mul_add_mod']
theorem make_vecs (w : World) (n : Nat) (hn : n ≤ 20000) : ∃ w', (Instr.makeSlice 22 (.int .i64 (n : Int)) (.int .i64 (n : Int))).run Try.prog w = .ok (.slice (some ⟨w.heap.size, 0, none⟩) n n) w' ∧
    RowV w' w.heap.size (.slice (some ⟨w.heap.size, 0, none⟩) n n) (List.replicate n (0, 0, 0)) ∧ w.grownBy w' none := by
  have hi : (Try.prog.info? 24).map (fun i => (i.zero, i.size, i.bytes)) = some (some (.agg #[.int .i64 0, .int .i64 0, .int .i64 0]), 3, 24) := by kernel_rfl
  obtain ⟨i0, hi0, hz0, hz1, hz2⟩ := info_parts hi
  obtain ⟨w', h1, h2, h3⟩ := run_makeSlice_full (P := Try.prog) (w := w) w.heap.size 22 24 i0 _ 3 Try.underlying22 hi0 hz0 hz1 .i64 .i64 n (by omega) (by rw [hz2]; omega) (by unfold maxLen; omega) (Nat.le_refl _)
  refine ⟨w', h1, ?_, h3⟩
  rw [RowV, List.length_replicate, ← made_zeros]
  exact h2
/-- A vector seen from above. -/
def dn (a : T3) : T3 := (a.1, a.2.1, 0)
theorem below_grown {w0 w w1 : World} {g : Nat} (hb : Below w0.heap.size w0 w) (hg : w.grownBy w1 (some g)) (h : w0.heap.size ≤ g) : Below w0.heap.size w0 w1 :=
  Below.grown hb hg hb.size (fun q hq => by cases hq; exact h)
theorem compact_mem {α : Type} [DecidableEq α] [Inhabited α] (d : Array α) (m : Nat) (hm : m ≤ d.size) {x : α} (h : x ∈ compactUpTo d m) : x ∈ d.toList := by
  unfold compactUpTo at h
  rw [List.mem_map] at h
  obtain ⟨j, hj, rfl⟩ := h
  have hj2 : j < m := by simpa using (List.mem_filter.1 hj).1
  rw [getElem!_pos d j (by omega)]
  simp
/-- The different points in order. -/
def FF (L : List T3) : List T3 := compactUpTo (ms (L.map dn)).toArray (ms (L.map dn)).length
theorem FF_mem {L : List T3} {a : T3} (h : a ∈ FF L) : a ∈ L.map dn := by
  have := compact_mem _ _ (by simp) h
  simpa [ms, List.mem_mergeSort] using this
/-- What corners makes. -/
def cornersT (T : T3 → T3 → T3 → Int) (L : List T3) : List T3 :=
  if (FF L).length = 1 then FF L else (chT T (FF L)).reverse.dropLast ++ (chT T (FF L).reverse).reverse.dropLast

theorem popT_len (T : T3 → T3 → T3 → Int) (p : T3) : ∀ st : List T3, (popT T p st).length ≤ st.length
  | [] => Nat.le_refl _
  | [a] => Nat.le_refl _
  | b :: a :: r => by
    rw [popT]
    split
    · exact Nat.le_refl _
    · have := popT_len T p (a :: r)
      simp at this ⊢
      omega
theorem chT_len (T : T3 → T3 → T3 → Int) (l : List T3) : (chT T l).length ≤ l.length := by
  have : ∀ (l st : List T3), (l.foldl (fun st p => p :: popT T p st) st).length ≤ st.length + l.length := by
    intro l
    induction l with
    | nil => intro st; simp
    | cons a l ih =>
      intro st
      have h1 := ih (a :: popT T a st)
      have h2 := popT_len T a st
      simp only [List.foldl_cons, List.length_cons] at h1 ⊢
      omega
  simpa [chT] using this l []
theorem chT_pos (T : T3 → T3 → T3 → Int) {l : List T3} (h : 0 < l.length) : 0 < (chT T l).length := by
  obtain ⟨m, p, rfl⟩ : ∃ m p, l = m ++ [p] := ⟨l.dropLast, l.getLast (List.length_pos_iff.1 h), (List.dropLast_concat_getLast _).symm⟩
  rw [chT_snoc]
  simp

set_option maxRecDepth 100000 in
set_option maxHeartbeats 8000000 in
theorem corners_walk (L : List T3) (v : Value) (w : World) (T : T3 → T3 → T3 → Int) (h : Rv w v L) (hmx : L.length ≤ 20000) (hpos : 0 < L.length)
    (hT : ∀ a ∈ L.map dn, ∀ b ∈ L.map dn, ∀ c ∈ L.map dn, ∀ w', Calls Try.prog 37 #[vv a.1 a.2.1 a.2.2, vv b.1 b.2.1 b.2.2, vv c.1 c.2.1 c.2.2] w' (Ret (.int .i64 (T a b c)) w')) :
    Calls Try.prog 33 #[v] w fun e w' => ∃ vo, e = .returned vo ∧ RowV w' w.heap.size vo (cornersT T L) ∧ Below w.heap.size w w' := by
  obtain ⟨p, b, off, cap, rfl, h2, h3, h4, h5⟩ := h
  have H4 := Lib.hid h4
  have H5 := Lib.hid h5
  have HT := Lib.hid hT
  clear h4 h5 h2 h3 hT
  obtain ⟨n, hn⟩ : ∃ n, n = L.length := ⟨_, rfl⟩
  rw [← hn] at hmx hpos ⊢
  have HN := Lib.hid hn
  clear hn
  obtain ⟨w1, hmk, hrow, hgr⟩ := make_vecs w n hmx
  have HR := Lib.hid hrow
  have HB : Hid (Below w.heap.size w w1) := Below.grown (Below.refl _ _) hgr (Nat.le_refl _) (fun q hq => by cases hq)
  clear hrow hgr
  obtain ⟨g, hg⟩ : ∃ g, g = w.heap.size := ⟨_, rfl⟩
  have HGW := Lib.hid hg
  rw [← hg] at hmk HR
  clear hg
  go_enter Try.func33, Try.ntmps33
  go_wp2
  clear hmk
  go_loopw [4, 5, 13] (fun _ _ iv wr => ∃ (wz : World) (k : Nat) (M : List T3), wz = wr ∧ k ≤ n ∧ iv = .int .i64 (k : Int) ∧ Hid (RowV wz g (.slice (some ⟨g, 0, none⟩) n n) M) ∧ Hid (M.length = n ∧ ∀ j (h1 : j < M.length) (h2 : j < L.length), j < k → M[j] = dn L[j]) ∧ Hid (Below w.heap.size w wz))
    (fun _ _ iv _ => n - (intOf iv).toNat)
  case atStart => exact ⟨w1, 0, _, rfl, Nat.zero_le _, rfl, HR, ⟨List.length_replicate, fun j _ _ hj => absurd hj (Nat.not_lt_zero _)⟩, HB⟩
  case round =>
    clear HR HB
    obtain ⟨wz, k, M, rfl, hk, rfl, HR, HM, hbl⟩ := hrel
    by_cases hlt : k < n
    · have hkl : k < L.length := by have h5 : n = L.length := HN.out; omega
      have hkm : k < M.length := by rw [HM.out.1]; exact hlt
      obtain ⟨x, y, z, hL⟩ : ∃ x y z, L[k] = (x, y, z) := ⟨_, _, _, rfl⟩
      obtain ⟨o1, o2, o3, hO⟩ : ∃ x y z, M[k] = (x, y, z) := ⟨_, _, _, rfl⟩
      obtain rfl := H4.out (by omega)
      have c0 : wz.cell? ⟨b, off + k * 3, none⟩ = some (.int .i64 x) := by
        have := keep1 hbl.out (H5.out k hkl).1
        simpa [hL] using this
      have c1 : wz.cell? ⟨b, off + k * 3 + 1, none⟩ = some (.int .i64 y) := by
        have := keep1 hbl.out (H5.out k hkl).2.1
        simpa [hL] using this
      have c2 : wz.cell? ⟨b, off + k * 3 + 2, none⟩ = some (.int .i64 z) := by
        have := keep1 hbl.out (H5.out k hkl).2.2
        simpa [hL] using this
      have HM2 : Hid ((M.set k (x, y, 0)).length = n ∧ ∀ j (h1 : j < (M.set k (x, y, 0)).length) (h2 : j < L.length), j < k + 1 → (M.set k (x, y, 0))[j] = dn L[j]) := by
        refine ⟨by rw [List.length_set]; exact HM.out.1, fun j h1 h2 hj => ?_⟩
        rw [List.getElem_set]
        split
        · next e => subst e; rw [hL]; rfl
        · exact HM.out.2 j _ h2 (by omega)
      have HO := Lib.hid (And.intro hkm hO)
      have hO2 : Hid (∃ h : k < M.length, M[k] = (o1, o2, o3)) := ⟨hkm, hO⟩
      have HKM := Lib.hid hkm
      clear hL hO HO hkl hkm
      go_upto_region 5 with (fail)
      obtain ⟨u0, hu⟩ : ∃ u0 : World, u0 = wz.alloc (.cells #[.int .i64 x, .int .i64 y, .int .i64 z] 24) := ⟨_, rfl⟩
      have VB : Hid (V3 u0 wz.heap.size x y z) := by rw [hu]; exact (vf_made _ _ _ _).1
      have HB : Hid (Below w.heap.size w u0) := by rw [hu]; exact hbl.out.alloc hbl.out.size _
      have HR : Hid (RowV u0 g (.slice (some ⟨g, 0, none⟩) n n) M) := by rw [hu]; exact HR.out.below (below_one _ _)
      obtain ⟨gx, hgx⟩ : ∃ g, g = wz.heap.size := ⟨_, rfl⟩
      rw [← hgx] at VB
      rw [← hu, ← hgx]
      clear hu hgx c0 c1 c2 hbl
      obtain ⟨e0, e1, e2⟩ := VB.out
      go_wp2_with fail
      refine (flat_any x y z _).mono ?_
      rintro e y5 ⟨rfl, b5⟩
      have HR := Lib.hid (HR.out.below b5)
      have HB := Lib.hid (chain HB.out b5)
      clear b5 e0 e1 e2
      obtain ⟨h7, h8⟩ := hO2.out
      obtain ⟨⟨c0, c1, c2⟩, f0, f1, f2⟩ := HR.out.at3 h7 h8
      clear h7 h8
      go_wp2
      go_roundw
      case rel => exact ⟨_, k + 1, M.set k (x, y, 0), rfl, by omega, by go_num, (HR.out.set HKM.out x y 0).1, HM2.out, below_grown HB.out (HR.out.set HKM.out x y 0).2 (Nat.le_of_eq HGW.out.symm)⟩
      case measure => simp [intOf]; omega
    · have HMeq : Hid (M = L.map dn) := by
        have h5 : n = L.length := HN.out
        refine List.ext_getElem (by rw [HM.out.1, List.length_map, h5]) fun j h1 h2 => ?_
        rw [List.getElem_map]
        exact HM.out.2 j h1 (by simpa using h2) (by rw [HM.out.1] at h1; omega)
      have HR : Hid (RowV wz g (.slice (some ⟨g, 0, none⟩) n n) (L.map dn)) := by rw [← HMeq.out]; exact HR.out
      clear HM HMeq
      have hlm : Hid ((L.map dn).length ≤ 1000000) := by show _ ≤ _; rw [List.length_map]; have h5 : n = L.length := HN.out; omega
      go_wp2_with fail
      refine (sort_any HR.out hlm.out).mono ?_
      rintro e y1 ⟨rfl, hr1, hg1⟩
      have HR1 := Lib.hid hr1
      have HB1 := Lib.hid (below_grown hbl.out hg1 (Nat.le_of_eq HGW.out.symm))
      have hlm2 : Hid ((ms (L.map dn)).length ≤ 1000000) := by show _ ≤ _; rw [ms_length]; exact hlm.out
      clear hr1 hg1 HR hbl
      go_wp2_with fail
      refine (compact_any HR1.out hlm2.out).mono ?_
      rintro e y2 ⟨m, rfl, hr2, hg2⟩
      have HR2 : Hid (RowV y2 g (.slice (some ⟨g, 0, none⟩) m n) (FF L)) := hr2
      have HB2 := Lib.hid (below_grown HB1.out hg2 (Nat.le_of_eq HGW.out.symm))
      have hm : m = (FF L).length := by obtain ⟨_, h, -⟩ := HR2.out.form; exact h
      have HM := Lib.hid hm
      have hmn : m ≤ n := by obtain ⟨_, _, _, _, h, -⟩ := HR2.out.form; exact h
      have hm0 : 0 < m := by
        rw [hm]
        have e1 : ms (L.map dn) ≠ [] := by
          intro e
          have := ms_length (L.map dn)
          rw [e] at this
          have h5 : n = L.length := HN.out
          simp at this
          omega
        have e2 : 0 < (ms (L.map dn)).length := List.length_pos_iff.2 e1
        unfold FF
        obtain ⟨q, hq⟩ : ∃ q, (ms (L.map dn)).length = q + 1 := ⟨(ms (L.map dn)).length - 1, by omega⟩
        rw [hq]
        have k0 : keeps (ms (L.map dn)).toArray 0 = true := by simp [keeps]
        have : (ms (L.map dn)).toArray[0]! ∈ compactUpTo (ms (L.map dn)).toArray (q + 1) := by
          unfold compactUpTo
          exact List.mem_map.2 ⟨0, List.mem_filter.2 ⟨by simp, k0⟩, rfl⟩
        exact List.length_pos_iff.2 (List.ne_nil_of_mem this)
      clear hr2 hg2 HR1 HB1 hm hlm hlm2
      by_cases hm1 : m = 1
      · have HE : Hid (cornersT T L = FF L) := by show _ = _; rw [cornersT, if_pos (by rw [← HM.out]; exact hm1)]
        subst hm1
        go_wp2
        go_ret
        exact ⟨_, rfl, by rw [HE.out, ← HGW.out]; exact HR2.out, HB2.out⟩
      · have HE : Hid (cornersT T L = (chT T (FF L)).reverse.dropLast ++ (chT T (FF L).reverse).reverse.dropLast) := by show _ = _; rw [cornersT, if_neg (by rw [← HM.out]; exact hm1)]
        have hmi : ¬ (m : Int) = 1 := by omega
        have HL1 : Hid ((FF L).length ≤ 20000) := by show _ ≤ _; rw [← HM.out]; omega
        have HL2 : Hid ((FF L).reverse.length ≤ 20000) := by show _ ≤ _; rw [List.length_reverse]; exact HL1.out
        have HT2 : Hid (∀ a ∈ FF L, ∀ b ∈ FF L, ∀ c ∈ FF L, ∀ w', Calls Try.prog 37 #[vv a.1 a.2.1 a.2.2, vv b.1 b.2.1 b.2.2, vv c.1 c.2.1 c.2.2] w' (Ret (.int .i64 (T a b c)) w')) :=
          fun a ha b hb c hc => HT.out a (FF_mem ha) b (FF_mem hb) c (FF_mem hc)
        have HT3 : Hid (∀ a ∈ (FF L).reverse, ∀ b ∈ (FF L).reverse, ∀ c ∈ (FF L).reverse, ∀ w', Calls Try.prog 37 #[vv a.1 a.2.1 a.2.2, vv b.1 b.2.1 b.2.2, vv c.1 c.2.1 c.2.2] w' (Ret (.int .i64 (T a b c)) w')) :=
          fun a ha b hb c hc => HT2.out a (List.mem_reverse.1 ha) b (List.mem_reverse.1 hb) c (List.mem_reverse.1 hc)
        clear hm1
        go_wp2_with fail
        refine (leftTurns_walk (FF L) _ _ T HR2.out.rv HL1.out HT2.out).mono ?_
        rintro e y3 ⟨v1, rfl, hr3, hb3⟩
        have HA := Lib.hid hr3
        have HR3 := Lib.hid (HR2.out.below hb3)
        have HB3 := Lib.hid (chain HB2.out hb3)
        have hgy : Hid (g < y2.heap.size) := by obtain ⟨_, _, _, h, -⟩ := HR2.out.form; exact lt_of_block h
        clear hr3 hb3
        have HL3 : Hid ((FF L).length ≤ 1000000) := by show _ ≤ _; have := HL1.out; omega
        go_wp2_with fail
        refine (reverse_any HR3.out HL3.out).mono ?_
        rintro e y4 ⟨rfl, hr4, hg4⟩
        have HR4 := Lib.hid hr4
        have HB4 := Lib.hid (below_grown HB3.out hg4 (Nat.le_of_eq HGW.out.symm))
        have HA4 := Lib.hid (HA.out.grown hg4 (fun r e h => by
          cases e
          have := World.ownsRow.lt HA.out g h
          have h7 : g < y2.heap.size := hgy.out
          omega))
        clear hr4 hg4
        go_wp2_with fail
        refine (leftTurns_walk (FF L).reverse _ _ T HR4.out.rv HL2.out HT3.out).mono ?_
        rintro e y5 ⟨v2, rfl, hr5, hb5⟩
        have HZ := Lib.hid hr5
        have HA5 := Lib.hid (HA4.out.below hb5)
        have HB5 := Lib.hid (chain HB4.out hb5)
        clear hr5 hb5
        obtain ⟨p1, c1, hv1⟩ := HA5.out.len
        obtain ⟨p2, c2, hv2⟩ := HZ.out.len
        subst hv1 hv2
        have hq1 : 0 < (chT T (FF L)).reverse.length := by rw [List.length_reverse]; exact chT_pos T (by rw [← HM.out]; exact hm0)
        have hq2 : 0 < (chT T (FF L).reverse).reverse.length := by rw [List.length_reverse]; exact chT_pos T (by rw [List.length_reverse, ← HM.out]; exact hm0)
        have hl1 : (chT T (FF L)).reverse.length ≤ 20000 := by rw [List.length_reverse]; exact Nat.le_trans (chT_len T _) HL1.out
        have hl2 : (chT T (FF L).reverse).reverse.length ≤ 20000 := by rw [List.length_reverse]; exact Nat.le_trans (chT_len T _) HL2.out
        obtain ⟨g1, hp1, -⟩ := HA5.out.ptr hq1
        obtain ⟨g2, hp2, -⟩ := HZ.out.ptr hq2
        subst hp1 hp2
        have HAr : Hid ((chT T (FF L)).reverse.dropLast = (chT T (FF L)).reverse.take ((chT T (FF L)).reverse.length - 1)) := List.dropLast_eq_take
        have HZr : Hid ((chT T (FF L).reverse).reverse.dropLast = (chT T (FF L).reverse).reverse.take ((chT T (FF L).reverse).reverse.length - 1)) := List.dropLast_eq_take
        generalize (chT T (FF L)).reverse = X1 at *
        generalize (chT T (FF L).reverse).reverse = X2 at *
        obtain ⟨n1, hn1⟩ : ∃ q, q = X1.length := ⟨_, rfl⟩
        obtain ⟨n2, hn2⟩ : ∃ q, q = X2.length := ⟨_, rfl⟩
        rw [← hn1] at HA5 HAr hq1 hl1 ⊢
        rw [← hn2] at HZ HZr hq2 hl2 ⊢
        obtain ⟨_, -, -, -, hcap1, hcm1, -⟩ := HA5.out.form
        obtain ⟨_, -, -, -, hcap2, hcm2, -⟩ := HZ.out.form
        obtain ⟨q1, hw1⟩ : ∃ q, q = n1 - 1 := ⟨_, rfl⟩
        obtain ⟨q2, hw2⟩ : ∃ q, q = n2 - 1 := ⟨_, rfl⟩
        rw [← hw1] at HAr
        rw [← hw2] at HZr
        have w1' : IntKind.i64.wrap ((n1 : Int) - 1) = (q1 : Int) := by rw [show (n1 : Int) - 1 = (q1 : Int) by omega]; exact wrap_in (by omega)
        have w2' : IntKind.i64.wrap ((n2 : Int) - 1) = (q2 : Int) := by rw [show (n2 : Int) - 1 = (q2 : Int) by omega]; exact wrap_in (by omega)
        have i1 : (0 : Int) ≤ (q1 : Int) := by omega
        have i2 : (0 : Int) ≤ (q2 : Int) := by omega
        have i3 : (q1 : Int) ≤ (c1 : Int) := by omega
        have i4 : (q2 : Int) ≤ (c2 : Int) := by omega
        have i5 : q1 ≤ c1 := by omega
        have i6 : q2 ≤ c2 := by omega
        have i7 : (c1 : Int) ≤ 9223372036854775807 := by unfold maxLen at hcm1; omega
        have i8 : (c2 : Int) ≤ 9223372036854775807 := by unfold maxLen at hcm2; omega
        have hBw : Hid (w.heap.size ≤ y5.heap.size) := HB5.out.size
        have HA6 : Hid (RowV y5 w.heap.size (.slice (some ⟨g1, 0, none⟩) q1 c1) (X1.take q1)) := (HA5.out.take (by omega)).lower HB2.out.size
        have HZ6 : Hid (RowV y5 w.heap.size (.slice (some ⟨g2, 0, none⟩) q2 c2) (X2.take q2)) := (HZ.out.take (by omega)).lower HB4.out.size
        have HLA : Hid ((X1.take q1).length ≤ 1000000) := by show _ ≤ _; rw [List.length_take]; omega
        have HLZ : Hid ((X2.take q2).length ≤ 1000000) := by show _ ≤ _; rw [List.length_take]; omega
        have HNE : Hid (X2.take q2 = [] → Value.slice (some ⟨g2, 0, none⟩) q2 c2 = .slice none 0 0 ∨ ∃ ad c, Value.slice (some ⟨g2, 0, none⟩) q2 c2 = .slice (some ad) 0 c) := by
          intro e
          have h6 : (X2.take q2).length = 0 := by rw [e]; rfl
          rw [List.length_take] at h6
          have h7 : q2 = 0 := by omega
          exact .inr ⟨_, _, by rw [h7]⟩
        clear hcm1 hcm2 hcap1 hcap2 hw1 hw2 hn1 hn2 hq1 hq2 hl1 hl2
        go_upto_region 14 with (fail)
        go_region_held3 (fun _ => True) (trivial)
          (first
            | (rw [if_pos (by rfl)]; go_loud (refine wp_append_V rfl _ _ rfl rfl rfl (show RowV y5.drew w.heap.size _ _ from HA6.out) (show Rv y5.drew _ _ from HZ6.out.rv) HLA.out HLZ.out hBw.out HNE.out ?_); intro v' w9 hrow9 hg9; have HN9 := Lib.hid hrow9; have HE9 := Lib.hid (Below.grown_row HB5.out.drew hBw.out HA6.out hg9); clear hrow9 hg9)
            | fail)
        go_wp2
        go_ret
        exact ⟨_, rfl, by rw [HE.out, HAr.out, HZr.out]; exact HN9.out, HE9.out⟩
end Go.Proofs.Ytpkfngfenkcjoaa

/- hull.goesRoundOnce. -/
set_option linter.all false
namespace Go.Proofs.Ytpkfngfenkcjoaa
open Go.RowKit

set_option maxRecDepth 100000 in
set_option maxHeartbeats 8000000 in
theorem round_walk (L : List T3) (b off cap n : Nat) (w : World) (hn : n = L.length) (hmx : L.length ≤ 10000) (hpos : 0 < n) (h0 : 0 < L.length)
    (h5 : ∀ k (h : k < L.length), w.cell? ⟨b, off + k * 3, none⟩ = some (.int .i64 L[k].1) ∧ w.cell? ⟨b, off + k * 3 + 1, none⟩ = some (.int .i64 L[k].2.1) ∧ w.cell? ⟨b, off + k * 3 + 2, none⟩ = some (.int .i64 L[k].2.2))
    (r s : Nat → Int) (f g : Nat → T3) (res : Bool) (hF1 : ∀ k, k < n → r k ≠ 1 → res = false) (hF2 : ∀ k, 0 < k → k + 1 < n → s k ≠ 1 → res = false) (hT : (∀ k, k < n → r k = 1) → (∀ k, 0 < k → k + 1 < n → s k = 1) → res = true)
    (hA : ∀ k, k < n → ∀ w', Below w.heap.size w w' → Calls Try.prog 43 #[.slice (some ⟨b, off, none⟩) n cap, .int .i64 (k : Int)] w' (Ret (vv (f k).1 (f k).2.1 (f k).2.2) w'))
    (hB : ∀ k, k < n → ∀ w', Below w.heap.size w w' → Calls Try.prog 43 #[.slice (some ⟨b, off, none⟩) n cap, .int .i64 ((k : Int) + 1)] w' (Ret (vv (g k).1 (g k).2.1 (g k).2.2) w'))
    (hC : ∀ k (hk : k < L.length) w', Calls Try.prog 37 #[vv L[k].1 L[k].2.1 L[k].2.2, vv (f k).1 (f k).2.1 (f k).2.2, vv (g k).1 (g k).2.1 (g k).2.2] w' (Ret (.int .i64 (r k)) w'))
    (hD : ∀ k (hk : k + 1 < L.length) w', 0 < k → Calls Try.prog 37 #[vv (L[0]'h0).1 (L[0]'h0).2.1 (L[0]'h0).2.2, vv L[k].1 L[k].2.1 L[k].2.2, vv (f k).1 (f k).2.1 (f k).2.2] w' (Ret (.int .i64 (s k)) w')) :
    Calls Try.prog 41 #[.slice (some ⟨b, off, none⟩) n cap] w (Ret (.bool res) w) := by
  have H5 := Lib.hid h5
  have HF1 := Lib.hid hF1
  have HF2 := Lib.hid hF2
  have HT := Lib.hid hT
  have HA := Lib.hid hA
  have HB := Lib.hid hB
  have HC := Lib.hid hC
  have HD := Lib.hid hD
  clear h5 hF1 hF2 hT hA hB hC hD
  rw [← hn] at hmx
  have HN := Lib.hid hn
  have HP := Lib.hid hpos
  have hpz : (0 : Int) < (n : Int) := by omega
  clear hn
  go_enter Try.func41, Try.ntmps41
  go_wp2
  go_loopw [3, 4, 5, 8] (fun _ _ _ iv wr => ∃ (wz : World) (k : Nat), wz = wr ∧ k ≤ n ∧ iv = .int .i64 (k : Int) ∧ Hid (∀ j, j < k → r j = 1) ∧ Hid (∀ j, 0 < j → j + 1 < n → j < k → s j = 1) ∧ Hid (Below w.heap.size w wz))
    (fun _ _ _ iv _ => n - (intOf iv).toNat)
  case atStart => exact ⟨w, 0, rfl, Nat.zero_le _, rfl, fun j hj => absurd hj (Nat.not_lt_zero _), fun j _ _ hj => absurd hj (Nat.not_lt_zero _), Below.refl _ _⟩
  case round =>
    obtain ⟨wz, k, rfl, hk, rfl, hall, hal2, hbl⟩ := hrel
    by_cases hlt : k < n
    · have hkl : k < L.length := by have h5 : n = L.length := HN.out; omega
      obtain ⟨x, y, z, hL⟩ : ∃ x y z, L[k] = (x, y, z) := ⟨_, _, _, rfl⟩
      obtain ⟨a0, a1, a2, hL0⟩ : ∃ x y z, L[0]'(by omega) = (x, y, z) := ⟨_, _, _, rfl⟩
      obtain ⟨f0, f1, f2, hf⟩ : ∃ x y z, f k = (x, y, z) := ⟨_, _, _, rfl⟩
      obtain ⟨g0, g1, g2, hg⟩ : ∃ x y z, g k = (x, y, z) := ⟨_, _, _, rfl⟩
      have c0 : wz.cell? ⟨b, off + k * 3, none⟩ = some (.int .i64 x) := by
        have := keep1 hbl.out (H5.out k hkl).1
        simpa [hL] using this
      have c1 : wz.cell? ⟨b, off + k * 3 + 1, none⟩ = some (.int .i64 y) := by
        have := keep1 hbl.out (H5.out k hkl).2.1
        simpa [hL] using this
      have c2 : wz.cell? ⟨b, off + k * 3 + 2, none⟩ = some (.int .i64 z) := by
        have := keep1 hbl.out (H5.out k hkl).2.2
        simpa [hL] using this
      have K : Hid (w.cell? ⟨b, off, none⟩ = some (.int .i64 a0) ∧ w.cell? ⟨b, off + 1, none⟩ = some (.int .i64 a1) ∧ w.cell? ⟨b, off + 2, none⟩ = some (.int .i64 a2)) := by
        have := H5.out 0 (by omega)
        rw [hL0] at this
        show _ ∧ _
        simpa using this
      have A1 : Hid (∀ w', Below w.heap.size w w' → Calls Try.prog 43 #[.slice (some ⟨b, off, none⟩) n cap, .int .i64 (k : Int)] w' (Ret (vv f0 f1 f2) w')) := by
        have := HA.out k hlt
        rw [hf] at this
        exact this
      have A2 : Hid (∀ w', Below w.heap.size w w' → Calls Try.prog 43 #[.slice (some ⟨b, off, none⟩) n cap, .int .i64 ((k : Int) + 1)] w' (Ret (vv g0 g1 g2) w')) := by
        have := HB.out k hlt
        rw [hg] at this
        exact this
      have T1 : Hid (∀ w', Calls Try.prog 37 #[vv x y z, vv f0 f1 f2, vv g0 g1 g2] w' (Ret (.int .i64 (r k)) w')) := by
        intro w'
        have := HC.out k hkl w'
        rw [hL, hf, hg] at this
        exact this
      have T2 : Hid (k + 1 < n → 0 < k → ∀ w', Calls Try.prog 37 #[vv a0 a1 a2, vv x y z, vv f0 f1 f2] w' (Ret (.int .i64 (s k)) w')) := by
        intro h1 h2 w'
        have := HD.out k (by have h5 : n = L.length := HN.out; omega) w' h2
        rw [hL, hL0, hf] at this
        exact this
      clear hL hL0 hf hg hkl
      have hR : Hid (r k = 1 → ∀ j, j < k + 1 → r j = 1) := by
        intro hs j hjk
        rcases Nat.lt_or_ge j k with g | g
        · exact hall.out j g
        · obtain rfl : j = k := by omega
          exact hs
      have hR2 : Hid ((0 < k → k + 1 < n → s k = 1) → ∀ j, 0 < j → j + 1 < n → j < k + 1 → s j = 1) := by
        intro hs j h1 h2 hjk
        rcases Nat.lt_or_ge j k with g | g
        · exact hal2.out j h1 h2 g
        · obtain rfl : j = k := by omega
          exact hs h1 h2
      have F1 : Hid (r k ≠ 1 → res = false) := fun hs => HF1.out k hlt hs
      have F2 : Hid (0 < k → k + 1 < n → s k ≠ 1 → res = false) := fun h1 h2 hs => HF2.out k h1 h2 hs
      clear hall hal2
      generalize r k = rk at *
      generalize s k = sk at *
      have hk1 : IntKind.i64.wrap ((k : Int) + 1) = (k : Int) + 1 := wrap_in (by omega)
      go_upto_region 4 with (fail)
      obtain ⟨u0, hu⟩ : ∃ u0 : World, u0 = wz.alloc (.cells #[.int .i64 x, .int .i64 y, .int .i64 z] 24) := ⟨_, rfl⟩
      have VB : Hid (V3 u0 wz.heap.size x y z) := by rw [hu]; exact (vf_made _ _ _ _).1
      have HB2 : Hid (Below w.heap.size w u0) := by rw [hu]; exact hbl.out.alloc hbl.out.size _
      obtain ⟨gx, hg⟩ : ∃ g, g = wz.heap.size := ⟨_, rfl⟩
      rw [← hg] at VB
      rw [← hu, ← hg]
      clear hu hg c0 c1 c2
      go_wp2_with fail
      refine (A1.out _ HB2.out).mono ?_
      rintro e y4 ⟨rfl, b5⟩
      have HB2 := Lib.hid (chain HB2.out b5)
      have VB := Lib.hid (VB.out.below b5)
      clear b5
      go_upto_region 5 with (fail)
      obtain ⟨u1, hu⟩ : ∃ u1 : World, u1 = y4.alloc (.cells #[.int .i64 f0, .int .i64 f1, .int .i64 f2] 24) := ⟨_, rfl⟩
      have VC : Hid (V3 u1 y4.heap.size f0 f1 f2) := by rw [hu]; exact (vf_made _ _ _ _).1
      have VB : Hid (V3 u1 gx x y z) := by rw [hu]; exact VB.out.below (below_one _ _)
      have HB2 : Hid (Below w.heap.size w u1) := by rw [hu]; exact HB2.out.alloc HB2.out.size _
      obtain ⟨gy, hg⟩ : ∃ g, g = y4.heap.size := ⟨_, rfl⟩
      rw [← hg] at VC
      rw [← hu, ← hg]
      clear hu hg
      obtain ⟨e0, e1, e2⟩ := VB.out
      obtain ⟨e3, e4, e5⟩ := VC.out
      by_cases hr1 : rk = 1
      · have HR := Lib.hid (hR.out hr1)
        clear F1 hR
        subst hr1
        go_region_held3 (fun W' => W'.cell? ⟨gx, 0, none⟩ = some (.int .i64 x) ∧ W'.cell? ⟨gx, 1, none⟩ = some (.int .i64 y) ∧ W'.cell? ⟨gx, 2, none⟩ = some (.int .i64 z) ∧ W'.cell? ⟨gy, 0, none⟩ = some (.int .i64 f0) ∧ W'.cell? ⟨gy, 1, none⟩ = some (.int .i64 f1) ∧ W'.cell? ⟨gy, 2, none⟩ = some (.int .i64 f2)) (go_keep)
          (first
            | (go_at_call 43; (with_reducible refine (A2.out _ (by first | exact HB2.out | exact HB2.out.drew)).mono ?_); rintro e y5 ⟨rfl, b5⟩; (try (have b5 := undrew b5)); have HB2 := Lib.hid (chain HB2.out b5); have VB := Lib.hid (VB.out.below b5); have VC := Lib.hid (VC.out.below b5); clear b5; obtain ⟨e0, e1, e2⟩ := VB.out; obtain ⟨e3, e4, e5⟩ := VC.out)
            | (go_at_call 37; (with_reducible refine (T1.out _).mono ?_); rintro e y5 ⟨rfl, b5⟩; (try (have b5 := undrew b5)); have HB2 := Lib.hid (chain HB2.out b5); have VB := Lib.hid (VB.out.below b5); have VC := Lib.hid (VC.out.below b5); clear b5; obtain ⟨e0, e1, e2⟩ := VB.out; obtain ⟨e3, e4, e5⟩ := VC.out)
            | fail)
        clear T1
        by_cases hk0 : k = 0
        · have HR2 := Lib.hid (hR2.out (fun h => absurd h (by omega)))
          have kz : (k : Int) = 0 := by omega
          have kz2 : ¬ (0 : Int) < (k : Int) := by omega
          clear hR2 F2 T2 hk0
          go_upto_region 7 with (fail)
          go_quiet (fail)
          go_wp2
          go_roundw
          case rel => exact ⟨_, k + 1, rfl, by omega, by go_num, HR.out, HR2.out, by first | exact HB2.out | exact HB2.out.drew | exact below_drewN HB2.out _⟩
          case measure => simp [intOf]; omega
        have kp : (0 : Int) < (k : Int) := by omega
        have kpN : 0 < k := by omega
        by_cases hkn : k + 1 < n
        · have T3 := Lib.hid (T2.out hkn (by omega))
          have kn1 : (k : Int) + 1 < (n : Int) := by omega
          have d0 := keep1 HB2.out K.out.1
          have d1 := keep1 HB2.out K.out.2.1
          have d2 := keep1 HB2.out K.out.2.2
          by_cases hs1 : sk = 1
          · have HR2 := Lib.hid (hR2.out (fun _ _ => hs1))
            clear hR2 F2 T2
            subst hs1
            go_upto_region 7 with (fail)
            go_region_held3 (fun W' => W'.cell? ⟨b, off, none⟩ = some (.int .i64 a0) ∧ W'.cell? ⟨b, off + 1, none⟩ = some (.int .i64 a1) ∧ W'.cell? ⟨b, off + 2, none⟩ = some (.int .i64 a2) ∧ W'.cell? ⟨gx, 0, none⟩ = some (.int .i64 x) ∧ W'.cell? ⟨gx, 1, none⟩ = some (.int .i64 y) ∧ W'.cell? ⟨gx, 2, none⟩ = some (.int .i64 z) ∧ W'.cell? ⟨gy, 0, none⟩ = some (.int .i64 f0) ∧ W'.cell? ⟨gy, 1, none⟩ = some (.int .i64 f1) ∧ W'.cell? ⟨gy, 2, none⟩ = some (.int .i64 f2)) (go_keep)
              (first
                | (go_at_call 37; (with_reducible refine (T3.out _).mono ?_); rintro e y5 ⟨rfl, b5⟩; (try (have b5 := undrew b5)); have HB2 := Lib.hid (chain HB2.out b5); have VB := Lib.hid (VB.out.below b5); have VC := Lib.hid (VC.out.below b5); clear b5; obtain ⟨e0, e1, e2⟩ := VB.out; obtain ⟨e3, e4, e5⟩ := VC.out; have d0 := keep1 HB2.out K.out.1; have d1 := keep1 HB2.out K.out.2.1; have d2 := keep1 HB2.out K.out.2.2)
                | fail)
            go_wp2
            go_roundw
            case rel => exact ⟨_, k + 1, rfl, by omega, by go_num, HR.out, HR2.out, by first | exact HB2.out | exact HB2.out.drew | exact below_drewN HB2.out _⟩
            case measure => simp [intOf]; omega
          · have HR3 := Lib.hid (F2.out (by omega) hkn hs1)
            clear hR2 F2 T2
            go_upto_region 7 with (fail)
            go_region_held3 (fun W' => W'.cell? ⟨b, off, none⟩ = some (.int .i64 a0) ∧ W'.cell? ⟨b, off + 1, none⟩ = some (.int .i64 a1) ∧ W'.cell? ⟨b, off + 2, none⟩ = some (.int .i64 a2) ∧ W'.cell? ⟨gx, 0, none⟩ = some (.int .i64 x) ∧ W'.cell? ⟨gx, 1, none⟩ = some (.int .i64 y) ∧ W'.cell? ⟨gx, 2, none⟩ = some (.int .i64 z) ∧ W'.cell? ⟨gy, 0, none⟩ = some (.int .i64 f0) ∧ W'.cell? ⟨gy, 1, none⟩ = some (.int .i64 f1) ∧ W'.cell? ⟨gy, 2, none⟩ = some (.int .i64 f2)) (go_keep)
              (first
                | (go_at_call 37; (with_reducible refine (T3.out _).mono ?_); rintro e y5 ⟨rfl, b5⟩; (try (have b5 := undrew b5)); have HB2 := Lib.hid (chain HB2.out b5); have VB := Lib.hid (VB.out.below b5); have VC := Lib.hid (VC.out.below b5); clear b5; obtain ⟨e0, e1, e2⟩ := VB.out; obtain ⟨e3, e4, e5⟩ := VC.out; have d0 := keep1 HB2.out K.out.1; have d1 := keep1 HB2.out K.out.2.1; have d2 := keep1 HB2.out K.out.2.2)
                | fail)
            go_wp2
            go_ret
            exact ⟨by rw [HR3.out]; rfl, by first | exact HB2.out | exact HB2.out.drew⟩
        · have HR2 := Lib.hid (hR2.out (fun _ h => absurd h hkn))
          have kn1 : ¬ (k : Int) + 1 < (n : Int) := by omega
          clear hR2 F2 T2
          go_upto_region 7 with (fail)
          go_quiet (fail)
          go_wp2
          go_roundw
          case rel => exact ⟨_, k + 1, rfl, by omega, by go_num, HR.out, HR2.out, by first | exact HB2.out | exact HB2.out.drew | exact below_drewN HB2.out _⟩
          case measure => simp [intOf]; omega
      · have HR := Lib.hid (F1.out hr1)
        clear F1 F2 hR hR2 T2
        go_region_held3 (fun W' => W'.cell? ⟨gx, 0, none⟩ = some (.int .i64 x) ∧ W'.cell? ⟨gx, 1, none⟩ = some (.int .i64 y) ∧ W'.cell? ⟨gx, 2, none⟩ = some (.int .i64 z) ∧ W'.cell? ⟨gy, 0, none⟩ = some (.int .i64 f0) ∧ W'.cell? ⟨gy, 1, none⟩ = some (.int .i64 f1) ∧ W'.cell? ⟨gy, 2, none⟩ = some (.int .i64 f2)) (go_keep)
          (first
            | (go_at_call 43; (with_reducible refine (A2.out _ (by first | exact HB2.out | exact HB2.out.drew)).mono ?_); rintro e y5 ⟨rfl, b5⟩; (try (have b5 := undrew b5)); have HB2 := Lib.hid (chain HB2.out b5); have VB := Lib.hid (VB.out.below b5); have VC := Lib.hid (VC.out.below b5); clear b5; obtain ⟨e0, e1, e2⟩ := VB.out; obtain ⟨e3, e4, e5⟩ := VC.out)
            | (go_at_call 37; (with_reducible refine (T1.out _).mono ?_); rintro e y5 ⟨rfl, b5⟩; (try (have b5 := undrew b5)); have HB2 := Lib.hid (chain HB2.out b5); have VB := Lib.hid (VB.out.below b5); have VC := Lib.hid (VC.out.below b5); clear b5; obtain ⟨e0, e1, e2⟩ := VB.out; obtain ⟨e3, e4, e5⟩ := VC.out)
            | fail)
        go_wp2
        go_ret
        exact ⟨by rw [HR.out]; rfl, by first | exact HB2.out | exact HB2.out.drew⟩
    · have HA : Hid (res = true) := HT.out (fun j hj => hall.out j (by omega)) (fun j h1 h2 => hal2.out j h1 h2 (by omega))
      clear hall hal2
      go_wp2
      go_ret
      exact ⟨by rw [HA.out]; rfl, hbl.out⟩
end Go.Proofs.Ytpkfngfenkcjoaa
