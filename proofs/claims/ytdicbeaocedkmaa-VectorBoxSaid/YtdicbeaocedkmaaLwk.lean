/- A list of vectors that came in. -/
import Derived.Test.YtdicbeaocedkmaaLwo
import Derived.Test.YtdicbeaocedkmaaVc
import Derived.Deep.Slices
import Derived.Deep.Strs
set_option linter.all false
namespace Go.Proofs.Ytdicbeaocedkmaa
open Go.ChangeShapes Go.WideShapes Go.ChangeAt Go.RowKit Go.Joins Go.Deep

theorem Try.laidOut : laidOutB Try.prog = true := by kernel_rfl
theorem choose_lt6 {α : Type} [Inhabited α] {m : Nat} {P : Nat → α → Prop} (h : ∀ i, i < m → ∃ x, P i x) : ∃ f : Nat → α, ∀ i, i < m → P i (f i) :=
  ⟨fun i => if hi : i < m then (h i hi).choose else default, fun i hi => by show P i (dite _ _ _); rw [dif_pos hi]; exact (h i hi).choose_spec⟩
set_option maxRecDepth 100000 in
/-- The cells of a vector. -/
theorem vec_cells {H : Type} {enc : TypeId × Value → H} {w : World} {base : Nat} {spare : Nat → Bool} {held : Bool} {m : Nat} {cs : List Value} {x : DataW H × List MemPlace} (hf : DataW.trod enc Try.prog w base spare held m 23 cs = some x) :
    ∃ a : Int × Int × Int, cs[0]? = some (.int .i64 a.1) ∧ cs[1]? = some (.int .i64 a.2.1) ∧ cs[2]? = some (.int .i64 a.2.2) := by
  have hs := Try.underlying23
  obtain ⟨y0, y1, y2, n, -, hl, h0, h1, h2⟩ := trod_struct3 hs hf
  rw [Try.cellsVec] at hl
  match cs, hl with
  | [c0, c1, c2], _ =>
    have ci : Try.prog.cellsOf 3 = 1 := by kernel_rfl
    obtain ⟨x, e0, -, -⟩ := DataW.trod_int Try.underlying3 h0
    obtain ⟨y, e1, -, -⟩ := DataW.trod_int Try.underlying3 h1
    obtain ⟨z, e2, -, -⟩ := DataW.trod_int Try.underlying3 h2
    simp [ci] at e0 e1 e2
    subst e0 e1 e2
    exact ⟨(x, y, z), rfl, rfl, rfl⟩
set_option maxRecDepth 100000 in
theorem open_vecs {H : Type} {enc : TypeId × Value → H} {W : World} {b0 : Nat} {r : Reach} {v : Value} {d : DataW H} {p : List MemPlace}
    (hv : Value.okWide Try.prog W r b0 46 v) (h : DataW.Trod enc Try.prog W 0 (fun _ => true) true 46 v d p) :
    ∃ L : List (Int × Int × Int), Rv W v L := by
  have hu := Try.underlying46
  obtain ⟨a0, len0, cap0, rfl⟩ := okWide_slice hu hv
  obtain ⟨fuel, hf⟩ := h
  rcases open_slice hu hf with ⟨hcs, hx⟩ | ⟨a, len, cap, m, n, D, Pl, hcs, hb, hl, hm, hmm, hx, hall⟩
  · simp [Value.cells] at hcs
    obtain ⟨rfl, rfl, rfl⟩ := hcs
    exact ⟨[], none, 0, 0, 0, rfl, Nat.le_refl _, by decide, fun h => absurd h (by simp), fun k h => absurd h (by simp)⟩
  · simp [Value.cells] at hcs
    obtain ⟨rfl, rfl, rfl⟩ := hcs
    simp only [if_true] at hmm
    subst hmm
    have each : ∀ i, i < m → ∃ q : Int × Int × Int, W.cell? (a.add (i * 3)) = some (.int .i64 q.1) ∧ W.cell? ((a.add (i * 3)).add 1) = some (.int .i64 q.2.1) ∧ W.cell? ((a.add (i * 3)).add 2) = some (.int .i64 q.2.2) := by
      intro i hi
      obtain ⟨cs', h1, h2⟩ := hall i hi
      rw [Try.cellsVec] at h1
      obtain ⟨_, hlen, hcell⟩ := World.cells?_some h1
      obtain ⟨q, e0, e1, e2⟩ := vec_cells h2
      have g0 := hcell 0 (by omega)
      have g1 := hcell 1 (by omega)
      have g2 := hcell 2 (by omega)
      rw [e0] at g0
      rw [e1] at g1
      rw [e2] at g2
      refine ⟨q, ?_, g1, g2⟩
      rw [add_add, Nat.add_zero] at g0
      exact g0
    obtain ⟨f, hfq⟩ := choose_lt6 each
    rcases Nat.eq_zero_or_pos len0 with h0 | h0
    · subst h0
      exact ⟨[], some a, 0, 0, m, rfl, Nat.zero_le _, hm, fun h => absurd h (by simp), fun k h => absurd h (by simp)⟩
    · obtain ⟨ab, ao, spot⟩ := a
      have hspot : spot = none := by simpa [Addr.add] using World.cell?_spot (hfq 0 (by omega)).1
      subst hspot
      refine ⟨(List.range len0).map f, some ⟨ab, ao, none⟩, ab, ao, m, by simp, by simpa using hl, hm, fun _ => rfl, fun k hk => ?_⟩
      have hk2 : k < len0 := by simpa using hk
      obtain ⟨g0, g1, g2⟩ := hfq k (by omega)
      rw [List.getElem_map, List.getElem_range]
      rw [add_add] at g1 g2
      rw [add_plain] at g0 g1 g2
      exact ⟨g0, by simpa [Nat.add_assoc] using g1, by simpa [Nat.add_assoc] using g2⟩
end Go.Proofs.Ytdicbeaocedkmaa
