/- What the theorem leans on, part 9: Hgg, Phs, Pht, Phr, Phu, Phv, Lwo, Lwk, Phx, Pcm. -/
import Derived.Test.YtpkfngfenkcjoaaZ8
import Derived.Test.YtpkfngfenkcjoaaZ7
import Derived.Test.YtpkfngfenkcjoaaZ5
import Derived.Test.YtpkfngfenkcjoaaZ6
import Derived.Test.YtpkfngfenkcjoaaZ0
import Derived.ProofKit
import Derived.OpenShut
import Derived.ShutString
import Derived.ChangeOld
import Derived.Below
import Derived.Lib.SmallJoins
import Derived.Carry
import Derived.Deep.Slices
import Derived.Deep.Strs

/- The hull of some points in order, from its two chains. Plain facts. -/
set_option linter.all false
namespace Go.Proofs.Ytpkfngfenkcjoaa.Hl

/-- A way along corners: turns to the left, none of the points to the right. -/
structure Way (F O : List P2) (f l : P2) : Prop where
  sub : ∀ q ∈ O, q ∈ F
  len : 2 ≤ O.length
  fst : ∀ h : 0 < O.length, O[0] = f
  lst : ∀ h : O.length - 1 < O.length, O[O.length - 1] = l
  left : ∀ q ∈ F, ∀ i (h : i + 1 < O.length), 0 ≤ tn O[i] O[i + 1] q
  unc : ∀ i (h : i < O.length), 0 < i → i < O.length - 1 → ¬ cov F O[i]
  nodup : O.Nodup
theorem getElem_rev {α : Type} (l : List α) (i : Nat) (h : i < l.reverse.length) : l.reverse[i] = l[l.length - 1 - i]'(by rw [List.length_reverse] at h; omega) := List.getElem_reverse h
/-- The lower way. -/
theorem way_low {F : List P2} (hF : Srt F) (h2 : 2 ≤ F.length) : Way F (chP F).reverse F[0] F[F.length - 1] := by
  obtain ⟨h, hne, hh, hl⟩ := chP_chn _ F rfl hF
  have hF0 : F ≠ [] := by intro e; rw [e] at h2; simp at h2
  have hst : chP F ≠ [] := hne hF0
  have hpos : 0 < (chP F).length := List.length_pos_iff.2 hst
  have e0 : (chP F)[0] = F[F.length - 1] := by
    rw [List.head?_eq_getElem?, List.getLast?_eq_getElem?, List.getElem?_eq_getElem hpos, List.getElem?_eq_getElem (by omega)] at hh
    exact Option.some.inj hh
  have e1 : (chP F)[(chP F).length - 1] = F[0] := by
    rw [List.head?_eq_getElem?, List.getLast?_eq_getElem?, List.getElem?_eq_getElem (by omega), List.getElem?_eq_getElem (by omega)] at hl
    exact Option.some.inj hl
  have hlen : 2 ≤ (chP F).length := by
    apply Classical.byContradiction
    intro hn
    have e5 : (chP F).length - 1 = 0 := by omega
    simp only [e5] at e1
    rw [e0] at e1
    have := List.pairwise_iff_getElem.1 hF 0 (F.length - 1) (by omega) (by omega) (by omega)
    rw [e1] at this
    exact lt_irrefl _ this
  have left : ∀ q ∈ F, ∀ i (hi : i + 1 < (chP F).reverse.length), 0 ≤ tn (chP F).reverse[i] (chP F).reverse[i + 1] q := by
    intro q hq i hi
    rw [getElem_rev, getElem_rev]
    have hi2 : i + 1 < (chP F).length := by simpa using hi
    have := h.left q hq ((chP F).length - 1 - (i + 1)) (by omega)
    have e : (chP F).length - 1 - (i + 1) + 1 = (chP F).length - 1 - i := by omega
    simp only [e] at this
    exact this
  refine ⟨fun q hq => h.sub q (List.mem_reverse.1 hq), by simpa using hlen, fun _ => ?_, fun _ => ?_, left, fun i hi h0 h1 => ?_, ?_⟩
  · rw [getElem_rev]; simpa using e1
  · rw [getElem_rev]
    simp only [List.length_reverse]
    have e : (chP F).length - 1 - ((chP F).length - 1) = 0 := by omega
    simp only [e]
    exact e0
  · have hi2 : i < (chP F).length := by simpa using hi
    have h12 : i < (chP F).length - 1 := by simpa using h1
    obtain ⟨j, rfl⟩ : ∃ j, i = j + 1 := ⟨i - 1, by omega⟩
    have t := h.turn ((chP F).length - 1 - (j + 2)) (by omega)
    have l1 := fun q hq => left q hq j (by simp; omega)
    have l2 := fun q hq => left q hq (j + 1) (by simp; omega)
    rw [getElem_rev]
    simp only [getElem_rev] at l1 l2
    have e3 : (chP F).length - 1 - (j + 2) + 2 = (chP F).length - 1 - j := by omega
    have e4 : (chP F).length - 1 - (j + 2) + 1 = (chP F).length - 1 - (j + 1) := by omega
    simp only [e3, e4] at t
    exact vertex t l1 l2
  · rw [List.Nodup, List.pairwise_reverse]
    refine h.srt.imp ?_
    intro x y hxy e
    subst e
    exact lt_irrefl _ hxy
theorem inT_ng {a b c p : P2} (h : inT (ng a) (ng b) (ng c) (ng p)) : inT a b c p := by
  have on_ng : ∀ a b p : P2, on (ng a) (ng b) (ng p) → on a b p := by
    intro a b p ⟨h0, h1, h2, h3, h4⟩
    rw [tn_ng] at h0
    simp only [ng] at h1 h2 h3 h4
    exact ⟨h0, by omega, by omega, by omega, by omega⟩
  rcases h with h | h | h | h | h
  · exact .inl (on_ng _ _ _ h)
  · exact .inr (.inl (on_ng _ _ _ h))
  · exact .inr (.inr (.inl (on_ng _ _ _ h)))
  · rw [tn_ng, tn_ng, tn_ng] at h; exact .inr (.inr (.inr (.inl h)))
  · rw [tn_ng, tn_ng, tn_ng] at h; exact .inr (.inr (.inr (.inr h)))
theorem on_ng' {a b p : P2} (h : on a b p) : on (ng a) (ng b) (ng p) := by
  obtain ⟨h0, h1, h2, h3, h4⟩ := h
  refine ⟨by rw [tn_ng]; exact h0, ?_⟩
  simp only [ng]
  omega
theorem inT_ng' {a b c p : P2} (h : inT a b c p) : inT (ng a) (ng b) (ng c) (ng p) := by
  rcases h with h | h | h | h | h
  · exact .inl (on_ng' h)
  · exact .inr (.inl (on_ng' h))
  · exact .inr (.inr (.inl (on_ng' h)))
  · exact .inr (.inr (.inr (.inl (by rw [tn_ng, tn_ng, tn_ng]; exact h))))
  · exact .inr (.inr (.inr (.inr (by rw [tn_ng, tn_ng, tn_ng]; exact h))))
theorem cov_ng {S : List P2} {p : P2} (h : cov S p) : cov (S.map ng) (ng p) := by
  obtain ⟨a, ha, b, hb, c, hc, n1, n2, n3, h⟩ := h
  have inj : ∀ x : P2, x ≠ p → ng x ≠ ng p := fun x hx e => hx (by rw [← ng_ng x, e, ng_ng])
  exact ⟨_, List.mem_map_of_mem ha, _, List.mem_map_of_mem hb, _, List.mem_map_of_mem hc, inj _ n1, inj _ n2, inj _ n3, inT_ng' h⟩
theorem mem_ng {S : List P2} {p : P2} : ng p ∈ S.map ng ↔ p ∈ S := by
  rw [List.mem_map]
  constructor
  · rintro ⟨q, hq, e⟩
    rw [← ng_ng p, ← e, ng_ng]
    exact hq
  · exact fun h => ⟨p, h, rfl⟩
theorem srt_ng {F : List P2} (hF : Srt F) : Srt (F.reverse.map ng) := by
  rw [Srt, List.pairwise_map, List.pairwise_reverse]
  exact hF.imp fun h => (lt_ng _ _).2 h
/-- The upper way. -/
theorem way_up {F : List P2} (hF : Srt F) (h2 : 2 ≤ F.length) : Way F (chP F.reverse).reverse F[F.length - 1] F[0] := by
  have w := way_low (srt_ng hF) (by simpa using h2)
  have e : (chP (F.reverse.map ng)).reverse = (chP F.reverse).reverse.map ng := by rw [chP_ng, List.map_reverse]
  rw [e] at w
  have hm : ∀ q, ng q ∈ F.reverse.map ng ↔ q ∈ F := fun q => by rw [mem_ng, List.mem_reverse]
  obtain ⟨w1, w2, w3, w4, w5, w6, w7⟩ := w
  refine ⟨fun q hq => (hm q).1 (w1 _ (List.mem_map_of_mem hq)), by simpa using w2, fun h => ?_, fun h => ?_, fun q hq i hi => ?_, fun i hi h0 h1 => ?_, ?_⟩
  · have := w3 (by simpa using h)
    simp only [List.getElem_map, getElem_rev, List.length_map, List.length_reverse] at this ⊢
    have := congrArg ng this
    simpa [ng_ng] using this
  · have := w4 (by simp at h ⊢; omega)
    simp only [List.getElem_map, getElem_rev, List.length_map, List.length_reverse] at this ⊢
    have := congrArg ng this
    rw [ng_ng, ng_ng] at this
    have e9 : F.length - 1 - (F.length - 1) = 0 := by omega
    simp only [e9] at this
    exact this
  · have := w5 (ng q) ((hm q).2 hq) i (by simpa using hi)
    simp only [List.getElem_map] at this
    rwa [tn_ng] at this
  · have := w6 i (by simpa using hi) h0 (by simpa using h1)
    simp only [List.getElem_map] at this
    intro hc
    refine this ?_
    have h9 := cov_ng hc
    have : ∀ p, cov (F.map ng) p → cov (F.reverse.map ng) p := by
      intro p hp
      exact (cov_iff (fun q => by simp) p).2 hp
    exact this _ h9
  · rw [List.Nodup, List.pairwise_map] at w7
    exact w7.imp fun h e => h (by rw [e])
/-- An inner corner of a way is to the right of the line between its ends. -/
theorem Way.side {F O : List P2} {f l : P2} (hF : Srt F) (h2 : 2 ≤ F.length) (hO : O = (chP F).reverse) (i : Nat) (hi : i < O.length) (h0 : 0 < i) (h1 : i < O.length - 1) : 0 < tn F[0] O[i] F[F.length - 1] := by
  have w := way_low hF h2
  rw [← hO] at w
  obtain ⟨h, -⟩ := chP_chn _ F rfl hF
  have srt : O.Pairwise lt := by rw [hO, List.pairwise_reverse]; exact h.srt
  have sp := List.pairwise_iff_getElem.1 srt
  have fst := w.fst (by omega)
  have lst := w.lst (by omega)
  have m0 := w.sub _ (List.getElem_mem (show 0 < O.length by omega))
  have ml := w.sub _ (List.getElem_mem (show O.length - 1 < O.length by omega))
  obtain ⟨j, rfl⟩ : ∃ j, i = j + 1 := ⟨i - 1, by omega⟩
  have t1 := w.left _ ml j hi
  have unc := w.unc (j + 1) hi h0 h1
  have hab : lt O[j] O[j + 1] := sp j (j + 1) (by omega) hi (by omega)
  have hbl : lt O[j + 1] O[O.length - 1] := sp (j + 1) (O.length - 1) hi (by omega) (by omega)
  have h0b : lt O[0] O[j + 1] := sp 0 (j + 1) (by omega) hi (by omega)
  have t2 : 0 < tn O[j] O[j + 1] O[O.length - 1] := by
    apply Classical.byContradiction
    intro hn
    refine unc (cov_mid (w.sub _ (List.getElem_mem (show j < O.length by omega))) ml hab hbl ?_)
    rw [tn_swap2]
    omega
  have t3 := behind hab hbl h0b t2 (w.left _ m0 j hi)
  rw [tn_rot] at t3
  rw [← fst, ← lst]
  apply Classical.byContradiction
  intro hn
  refine unc (cov_mid m0 ml h0b hbl ?_)
  rw [tn_swap2]
  omega
/-- The hull. -/
theorem isH_chains {F : List P2} (hF : Srt F) (h2 : 2 ≤ F.length) : IsH F ((chP F).reverse.dropLast ++ (chP F.reverse).reverse.dropLast) := by
  have w1 := way_low hF h2
  have w2 := way_up hF h2
  have s1 : ∀ i (hi : i < (chP F).reverse.length), 0 < i → i < (chP F).reverse.length - 1 → 0 < tn F[0] (chP F).reverse[i] F[F.length - 1] := fun i hi h0 h1 => Way.side (f := F[0]) (l := F[0]) hF h2 rfl i hi h0 h1
  have s2 : ∀ i (hi : i < (chP F.reverse).reverse.length), 0 < i → i < (chP F.reverse).reverse.length - 1 → 0 < tn F[F.length - 1] (chP F.reverse).reverse[i] F[0] := by
    intro i hi h0 h1
    have e : (chP (F.reverse.map ng)).reverse = (chP F.reverse).reverse.map ng := by rw [chP_ng, List.map_reverse]
    have := Way.side (f := F[0]) (l := F[0]) (srt_ng hF) (by simpa using h2) e.symm i (by simpa using hi) h0 (by simpa using h1)
    simp only [List.getElem_map, getElem_rev, List.length_map, List.length_reverse] at this ⊢
    rw [tn_ng] at this
    have e9 : F.length - 1 - (F.length - 1) = 0 := by omega
    simp only [e9, Nat.sub_zero] at this
    exact this
  generalize (chP F).reverse = A at *
  generalize (chP F.reverse).reverse = B at *
  obtain ⟨f, hf⟩ : ∃ f, f = F[0] := ⟨_, rfl⟩
  obtain ⟨l, hl⟩ : ∃ l, l = F[F.length - 1] := ⟨_, rfl⟩
  rw [← hf, ← hl] at w1 w2
  have s1 : ∀ i (hi : i < A.length), 0 < i → i < A.length - 1 → 0 < tn f A[i] l := fun i hi h0 h1 => by rw [hf, hl]; exact s1 i hi h0 h1
  have s2 : ∀ i (hi : i < B.length), 0 < i → i < B.length - 1 → 0 < tn l B[i] f := fun i hi h0 h1 => by rw [hf, hl]; exact s2 i hi h0 h1
  obtain ⟨a1, a2, a3, a4, a5, a6, a7⟩ := w1
  obtain ⟨b1, b2, b3, b4, b5, b6, b7⟩ := w2
  have sp := List.pairwise_iff_getElem.1 hF
  have hfl : f ≠ l := by
    intro e
    have := sp 0 (F.length - 1) (by omega) (by omega) (by omega)
    rw [← hf, ← hl, e] at this
    exact lt_irrefl _ this
  have hmin : ∀ p ∈ F, p = f ∨ lt f p := by
    intro p hp
    obtain ⟨i, hi, rfl⟩ := List.mem_iff_getElem.1 hp
    rcases Nat.eq_zero_or_pos i with rfl | h0
    · exact .inl hf.symm
    · exact .inr (by rw [hf]; exact sp 0 i (by omega) hi h0)
  have hmax : ∀ p ∈ F, p = l ∨ lt p l := by
    intro p hp
    obtain ⟨i, hi, rfl⟩ := List.mem_iff_getElem.1 hp
    by_cases h0 : i = F.length - 1
    · subst h0; exact .inl hl.symm
    · exact .inr (by rw [hl]; exact sp i (F.length - 1) hi (by omega) (by omega))
  have len : (A.dropLast ++ B.dropLast).length = (A.length - 1) + (B.length - 1) := by simp
  have getA : ∀ i (h : i < A.length - 1) (h' : i < (A.dropLast ++ B.dropLast).length), (A.dropLast ++ B.dropLast)[i] = A[i] := by
    intro i h h'
    rw [List.getElem_append_left (by simpa using h), List.getElem_dropLast]
  have getB : ∀ j (h : j < B.length - 1) (h' : A.length - 1 + j < (A.dropLast ++ B.dropLast).length), (A.dropLast ++ B.dropLast)[A.length - 1 + j] = B[j] := by
    intro j h h'
    rw [List.getElem_append_right (by simp), List.getElem_dropLast]
    simp
  have a4' := a4 (by omega)
  have b4' := b4 (by omega)
  have a3' := a3 (by omega)
  have b3' := b3 (by omega)
  have an := List.pairwise_iff_getElem.1 a7
  have bn := List.pairwise_iff_getElem.1 b7
  refine isH_of (f := f) (l := l) (fun q hq => ?_) (by rw [len]; omega) (by rw [getA 0 (by omega)]; exact a3') hmin hmax ?_ (fun p hp i hi => ?_) (fun p hp => ?_) (fun q hq n1 n2 => ?_) (fun e => ?_)
  · rcases List.mem_append.1 hq with hq | hq
    · exact a1 q ((List.dropLast_sublist _).subset hq)
    · exact b1 q ((List.dropLast_sublist _).subset hq)
  · rw [List.nodup_append]
    refine ⟨a7.sublist (List.dropLast_sublist _), b7.sublist (List.dropLast_sublist _), fun x hx y hy e => ?_⟩
    subst e
    obtain ⟨i, hi, rfl⟩ := List.mem_iff_getElem.1 hx
    obtain ⟨j, hj, e⟩ := List.mem_iff_getElem.1 hy
    rw [List.getElem_dropLast, List.getElem_dropLast] at e
    have hi2 : i < A.length - 1 := by simpa using hi
    have hj2 : j < B.length - 1 := by simpa using hj
    rcases Nat.eq_zero_or_pos i with rfl | i0
    · rw [a3'] at e
      exact bn j (B.length - 1) (by omega) (by omega) (by omega) (e.trans b4'.symm)
    · rcases Nat.eq_zero_or_pos j with rfl | j0
      · rw [b3'] at e
        exact an i (A.length - 1) (by omega) (by omega) (by omega) (e.symm.trans a4'.symm)
      · have k1 := s1 i (by omega) i0 hi2
        have k2 := s2 j (by omega) j0 hj2
        rw [e] at k2
        have : tn l A[i] f = -tn f A[i] l := by
          rw [← tn_rot, tn_swap, ← tn_rot]
        omega
  · rw [len] at hi
    by_cases h1 : i + 1 < A.length - 1
    · rw [getA i (by omega), getA (i + 1) h1]
      exact a5 p hp i (by omega)
    · by_cases h3 : i + 1 = A.length - 1
      · have e1 : (A.dropLast ++ B.dropLast)[i + 1]'(by rw [len]; omega) = A[i + 1]'(by omega) := by
          have := getB 0 (by omega) (by rw [len]; omega)
          simp only [Nat.add_zero, ← h3] at this
          rw [this, b3']
          have e5 : A.length - 1 = i + 1 := h3.symm
          simp only [e5] at a4'
          exact a4'.symm
        rw [getA i (by omega), e1]
        exact a5 p hp i (by omega)
      · obtain ⟨j, rfl⟩ : ∃ j, i = A.length - 1 + j := ⟨i - (A.length - 1), by omega⟩
        rw [getB j (by omega)]
        have := getB (j + 1) (by omega) (by rw [len]; omega)
        simp only [← Nat.add_assoc] at this
        rw [this]
        exact b5 p hp j (by omega)
  · have e1 : (A.dropLast ++ B.dropLast)[(A.dropLast ++ B.dropLast).length - 1]'(by rw [len]; omega) = B[B.length - 2]'(by omega) := by
      have := getB (B.length - 2) (by omega) (by rw [len]; omega)
      have e2 : A.length - 1 + (B.length - 2) = (A.dropLast ++ B.dropLast).length - 1 := by rw [len]; omega
      simp only [e2] at this
      exact this
    rw [e1, getA 0 (by omega), a3', ← b4']
    have := b5 p hp (B.length - 2) (by omega)
    have e2 : B.length - 2 + 1 = B.length - 1 := by omega
    simp only [e2] at this
    exact this
  · rcases List.mem_append.1 hq with hq | hq
    · obtain ⟨i, hi, rfl⟩ := List.mem_iff_getElem.1 hq
      rw [List.getElem_dropLast] at n1 n2 ⊢
      have hi2 : i < A.length - 1 := by simpa using hi
      rcases Nat.eq_zero_or_pos i with rfl | i0
      · exact absurd a3' n1
      · exact a6 i (by omega) i0 hi2
    · obtain ⟨i, hi, rfl⟩ := List.mem_iff_getElem.1 hq
      rw [List.getElem_dropLast] at n1 n2 ⊢
      have hi2 : i < B.length - 1 := by simpa using hi
      rcases Nat.eq_zero_or_pos i with rfl | i0
      · exact absurd b3' n2
      · exact b6 i (by omega) i0 hi2
  · have hA : A.length - 1 = 1 := by rw [len] at e; omega
    have := getB 0 (by omega) (by rw [len]; omega)
    simp only [Nat.add_zero, hA] at this
    rw [this, b3']
end Go.Proofs.Ytpkfngfenkcjoaa.Hl

/- What corners makes is the hull. Plain facts. -/
set_option linter.all false
namespace Go.Proofs.Ytpkfngfenkcjoaa
open Go.RowKit Go.Sort Go.Lib

/-- The order of vectors. -/
def L3 (a b : T3) : Prop := a.1 < b.1 ∨ a.1 = b.1 ∧ (a.2.1 < b.2.1 ∨ a.2.1 = b.2.1 ∧ a.2.2 < b.2.2)
theorem t3_ext {a b : T3} (h1 : a.1 = b.1) (h2 : a.2.1 = b.2.1) (h3 : a.2.2 = b.2.2) : a = b := Prod.ext h1 (Prod.ext h2 h3)
theorem L3_tri {a b : T3} (h : ¬ L3 b a) (hn : a ≠ b) : L3 a b := by
  unfold L3 at *
  by_cases h1 : a.1 = b.1
  · by_cases h2 : a.2.1 = b.2.1
    · by_cases h3 : a.2.2 = b.2.2
      · exact absurd (t3_ext h1 h2 h3) hn
      · omega
    · omega
  · omega
theorem ms_le (L : List T3) : (ms L).Pairwise (fun x y => ¬ L3 y x) := by
  have := List.pairwise_mergeSort (le := fun x y => !(ltOf c3) y x) (fun a b c h1 h2 => by
    simp only [Bool.not_eq_true'] at *
    exact swo3.ntrans _ _ _ h2 h1) (fun a b => by
    have h : ltOf c3 a b = true → ltOf c3 b a = true → False := fun k1 k2 => Bool.eq_false_iff.1 (swo3.irrefl a) (swo3.trans a b a k1 k2)
    cases e1 : ltOf c3 b a <;> cases e2 : ltOf c3 a b <;> first | rfl | exact (h e2 e1).elim) L
  refine this.imp ?_
  intro a b h k
  simp only [Bool.not_eq_true'] at h
  have := (c3_lt b a).2 k
  rw [h] at this
  cases this
theorem compact_srt {M : List T3} (hM : M.Pairwise (fun x y => ¬ L3 y x)) : ∀ m, m ≤ M.length → (compactUpTo M.toArray m).Pairwise L3 ∧ ∀ x, x ∈ compactUpTo M.toArray m ↔ ∃ j, ∃ h : j < M.length, j < m ∧ M[j] = x := by
  intro m
  induction m with
  | zero => intro _; simp [compactUpTo]
  | succ m ih =>
    intro hm
    obtain ⟨i1, i2⟩ := ih (by omega)
    have hg : M.toArray[m]! = M[m] := by rw [getElem!_pos _ _ (by simp; omega)]; simp
    rw [compactUpTo_succ]
    by_cases hk : keeps M.toArray m = true
    · rw [if_pos hk, hg]
      constructor
      · rw [List.pairwise_append]
        refine ⟨i1, by simp, ?_⟩
        intro a ha b hb
        rw [List.mem_singleton] at hb
        subst hb
        obtain ⟨j, hj, hjm, rfl⟩ := (i2 a).1 ha
        have hle := List.pairwise_iff_getElem.1 hM j m hj (by omega) hjm
        refine L3_tri hle ?_
        intro e
        have hm0 : m - 1 < M.length := by omega
        have hne : M[m] ≠ M[m - 1] := by
          have h0 : m ≠ 0 := by omega
          unfold keeps at hk
          rw [decide_eq_true_eq] at hk
          rcases hk with hk | hk
          · exact absurd hk h0
          · rw [hg, getElem!_pos _ _ (by simp; omega)] at hk
            simpa using hk
        have h1 := List.pairwise_iff_getElem.1 hM (m - 1) m hm0 (by omega) (by omega)
        rcases Nat.lt_or_ge j (m - 1) with g | g
        · have h2 := List.pairwise_iff_getElem.1 hM j (m - 1) hj hm0 g
          rw [e] at h2
          exact h2 (L3_tri h1 (Ne.symm hne))
        · have : j = m - 1 := by omega
          subst this
          exact hne e.symm
      · intro x
        rw [List.mem_append, List.mem_singleton, i2]
        constructor
        · rintro (⟨j, h, hj, rfl⟩ | rfl)
          · exact ⟨j, h, by omega, rfl⟩
          · exact ⟨m, by omega, by omega, rfl⟩
        · rintro ⟨j, h, hj, rfl⟩
          rcases Nat.lt_or_ge j m with g | g
          · exact .inl ⟨j, h, g, rfl⟩
          · right
            have : j = m := by omega
            subst this
            rfl
    · rw [if_neg hk, List.append_nil]
      refine ⟨i1, fun x => ?_⟩
      rw [i2]
      constructor
      · rintro ⟨j, h, hj, rfl⟩
        exact ⟨j, h, by omega, rfl⟩
      · rintro ⟨j, h, hj, rfl⟩
        rcases Nat.lt_or_ge j m with g | g
        · exact ⟨j, h, g, rfl⟩
        · have : j = m := by omega
          subst this
          have h0 : j ≠ 0 ∧ M[j] = M[j - 1] := by
            unfold keeps at hk
            rw [decide_eq_true_eq] at hk
            have h0 : j ≠ 0 := fun e => hk (.inl e)
            refine ⟨h0, Classical.byContradiction fun hn => hk (.inr ?_)⟩
            rw [hg, getElem!_pos _ _ (by simp; omega)]
            simpa using hn
          exact ⟨j - 1, by omega, by omega, h0.2.symm⟩
/-- A vector's place on the plane. -/
def pl (a : T3) : Hl.P2 := (a.1, a.2.1)
/-- The different points in order, on the plane. -/
def F2 (L : List T3) : List Hl.P2 := (FF L).map pl
theorem FF_fl (L : List T3) : FF L = fl (F2 L) := by
  unfold F2 fl
  rw [List.map_map]
  refine ((List.map_id _).symm.trans (List.map_congr_left ?_))
  intro a ha
  obtain ⟨b, _, rfl⟩ := List.mem_map.1 (FF_mem ha)
  rfl
theorem FF_all (L : List T3) : (FF L).Pairwise L3 ∧ ∀ x, x ∈ FF L ↔ x ∈ L.map dn := by
  obtain ⟨h1, h2⟩ := compact_srt (ms_le (L.map dn)) (ms (L.map dn)).length (Nat.le_refl _)
  refine ⟨h1, fun x => ?_⟩
  show x ∈ compactUpTo _ _ ↔ _
  rw [h2]
  constructor
  · rintro ⟨j, h, _, rfl⟩
    have := List.getElem_mem h
    unfold ms at this
    exact List.mem_mergeSort.1 this
  · intro hx
    have : x ∈ ms (L.map dn) := by simpa [ms, List.mem_mergeSort] using hx
    obtain ⟨j, h, rfl⟩ := List.mem_iff_getElem.1 this
    exact ⟨j, h, h, rfl⟩
theorem F2_srt (L : List T3) : Hl.Srt (F2 L) := by
  unfold F2
  rw [Hl.Srt, List.pairwise_map]
  refine (FF_all L).1.imp_of_mem ?_
  intro a b ha hb h
  obtain ⟨a', _, rfl⟩ := List.mem_map.1 (FF_mem ha)
  obtain ⟨b', _, rfl⟩ := List.mem_map.1 (FF_mem hb)
  unfold L3 dn at h
  unfold Hl.lt pl dn
  simp only at *
  omega
theorem F2_mem (L : List T3) (q : Hl.P2) : q ∈ F2 L ↔ q ∈ L.map pl := by
  unfold F2
  constructor
  · intro h
    obtain ⟨a, ha, rfl⟩ := List.mem_map.1 h
    obtain ⟨b, hb, rfl⟩ := List.mem_map.1 (FF_mem ha)
    exact List.mem_map.2 ⟨b, hb, rfl⟩
  · intro h
    obtain ⟨b, hb, rfl⟩ := List.mem_map.1 h
    exact List.mem_map.2 ⟨dn b, ((FF_all L).2 _).2 (List.mem_map_of_mem hb), rfl⟩
theorem t3_pos (a b c : Hl.P2) : t3 (a.1, a.2, 0) (b.1, b.2, 0) (c.1, c.2, 0) = 1 ↔ 0 < Hl.tn a b c := by
  show cmpI (Hl.tn a b c) 0 = 1 ↔ _
  unfold cmpI
  split <;> (try split) <;> omega
theorem popT_fl (p : Hl.P2) : ∀ st : List Hl.P2, popT t3 (p.1, p.2, 0) (fl st) = fl (Hl.popP p st)
  | [] => rfl
  | [a] => rfl
  | b :: a :: r => by
    have ih := popT_fl p (a :: r)
    show popT t3 _ ((b.1, b.2, 0) :: (a.1, a.2, 0) :: fl r) = _
    rw [popT, Hl.popP]
    by_cases h : 0 < Hl.tn a b p
    · rw [if_pos h, if_pos ((t3_pos a b p).2 h)]; rfl
    · rw [if_neg h, if_neg (fun k => h ((t3_pos a b p).1 k))]; exact ih
theorem chT_fl (l : List Hl.P2) : chT t3 (fl l) = fl (Hl.chP l) := by
  suffices ∀ st : List Hl.P2, (fl l).foldl (fun st p => p :: popT t3 p st) (fl st) = fl (l.foldl (fun st p => p :: Hl.popP p st) st) from this []
  induction l with
  | nil => intro st; rfl
  | cons a l ih =>
    intro st
    show (fl l).foldl _ ((a.1, a.2, 0) :: popT t3 (a.1, a.2, 0) (fl st)) = _
    rw [popT_fl]
    exact ih (a :: Hl.popP a st)
theorem fl_rev (l : List Hl.P2) : (fl l).reverse = fl l.reverse := by simp [fl]
theorem fl_drop (l : List Hl.P2) : (fl l).dropLast = fl l.dropLast := by simp [fl]
theorem fl_app (l m : List Hl.P2) : fl l ++ fl m = fl (l ++ m) := by simp [fl]
theorem cov_congr {S F : List Hl.P2} (h : ∀ q, q ∈ F ↔ q ∈ S) : ∀ q, q ∈ F → q ∈ S := fun q => (h q).1
theorem IsH.congr {S F h : List Hl.P2} (H : Hl.IsH F h) (e : ∀ q, q ∈ F ↔ q ∈ S) : Hl.IsH S h where
  sub := fun p hp => (e p).1 (H.sub p hp)
  pos := H.pos
  first := fun p hp => H.first p ((e p).2 hp)
  one := fun k p hp => H.one k p ((e p).2 hp)
  two := fun k p hp => H.two k p ((e p).2 hp)
  ne2 := H.ne2
  left := fun k p hp => H.left k p ((e p).2 hp)
  last := fun k p hp => H.last k p ((e p).2 hp)
  turn := H.turn
  turn0 := H.turn0
/-- What corners makes is the hull. -/
theorem corners_hull (L : List T3) (hp : 0 < L.length) : ∃ H, cornersT t3 L = fl H ∧ Hl.IsH (L.map pl) H := by
  have hF := F2_srt L
  have hm := F2_mem L
  have hlen : (FF L).length = (F2 L).length := by unfold F2; simp
  have hpos : 0 < (F2 L).length := by
    obtain ⟨a, l, rfl⟩ : ∃ a l, L = a :: l := by cases L with
      | nil => simp at hp
      | cons a l => exact ⟨a, l, rfl⟩
    have : pl a ∈ F2 (a :: l) := (hm _).2 (by simp)
    exact List.length_pos_of_mem this
  unfold cornersT
  rw [hlen, FF_fl]
  split
  · next h1 =>
    obtain ⟨f, hf⟩ := List.length_eq_one_iff.1 h1
    refine ⟨F2 L, rfl, IsH.congr (F := F2 L) ?_ hm⟩
    rw [hf]
    refine ⟨fun p hp => hp, by simp, fun p hp => .inl (by simpa using hp), fun _ p hp => by simpa using hp, fun e => by simp at e, fun e => by simp at e, fun e => by simp at e, fun e => by simp at e, fun e => by simp at e, fun e => by simp at e⟩
  · next h1 =>
    refine ⟨_, ?_, IsH.congr (Hl.isH_chains hF (by omega)) hm⟩
    rw [fl_rev, chT_fl, chT_fl, fl_rev, fl_rev, fl_drop, fl_drop, fl_app]
end Go.Proofs.Ytpkfngfenkcjoaa

/- The hull's functions, in plain words. -/
set_option linter.all false
namespace Go.Proofs.Ytpkfngfenkcjoaa
open Go.RowKit

theorem valid_points {L : List T3} (hv : inL 1048576 L = true) : ∀ a ∈ L.map dn, inV 16777216 a.1 a.2.1 a.2.2 = true := by
  intro a ha
  obtain ⟨b, hb, rfl⟩ := List.mem_map.1 ha
  have := inV_iff.1 (inL_mem hv b hb)
  exact inV_iff.2 ⟨by show _ ≤ b.1 ∧ b.1 ≤ _; omega, by show _ ≤ b.2.1 ∧ b.2.1 ≤ _; omega, by show _ ≤ (0 : Int) ∧ (0 : Int) ≤ _; omega⟩
theorem corners_any (L : List T3) (v : Value) (w : World) (h : Rv w v L) (hmx : L.length ≤ 20000) (hpos : 0 < L.length) (hv : inL 1048576 L = true) :
    Calls Try.prog 33 #[v] w fun e w' => ∃ vo, e = .returned vo ∧ RowV w' w.heap.size vo (cornersT t3 L) ∧ Below w.heap.size w w' :=
  corners_walk L v w t3 h hmx hpos (fun a ha b hb c hc w' => turn3_any (valid_points hv a ha) (valid_points hv b hb) (valid_points hv c hc) w')
theorem Hull_bad (L : List T3) (v : Value) (w : World) (h : Rv w v L) (hv : (decide (L.length ≤ 10000) && inL 1048576 L) = false) :
    Calls Try.prog 15 #[v] w (Ret (.tuple #[.slice none 0 0, .int .i64 2]) w) := by
  obtain ⟨p, b, off, cap, rfl, -⟩ := id h
  exact hull_bad p L.length cap w (fun w' hb => by have := allPoints_any L _ w' (h.below hb); rwa [hv] at this)
theorem Hull_none (L : List T3) (v : Value) (w : World) (h : Rv w v L) (h0 : L.length = 0) :
    Calls Try.prog 15 #[v] w (Ret (.tuple #[.slice none 0 0, .int .i64 9]) w) := by
  obtain ⟨p, b, off, cap, rfl, -⟩ := id h
  refine hull_none p L.length cap w (by omega) (fun w' hb => ?_)
  have := allPoints_any L _ w' (h.below hb)
  have e : (decide (L.length ≤ 10000) && inL 1048576 L) = true := by
    obtain rfl := List.length_eq_zero_iff.1 h0
    rfl
  rwa [e] at this
theorem Hull_ok (L : List T3) (v : Value) (w : World) (h : Rv w v L) (hp : 0 < L.length) (hl : L.length ≤ 10000) (hv : inL 1048576 L = true) :
    Calls Try.prog 15 #[v] w fun e w' => ∃ vo, e = .returned (.tuple #[vo, .int .i64 0]) ∧ RowV w' w.heap.size vo (cornersT t3 L) ∧ Below w.heap.size w w' := by
  obtain ⟨p, b, off, cap, rfl, -⟩ := id h
  refine hull_way p L.length cap w _ (by omega) (fun w' hb => ?_) (fun w' hb => corners_any L _ w' (h.below hb) (by omega) hp hv)
  have := allPoints_any L _ w' (h.below hb)
  rwa [decide_eq_true hl, hv] at this
theorem inL_app {m : Int} {L M : List T3} (h1 : inL m L = true) (h2 : inL m M = true) : inL m (L ++ M) = true := by
  unfold inL at *
  rw [List.all_append, h1, h2]; rfl
theorem Merge_bad (L M : List T3) (v u : Value) (w : World) (h : Rv w v L) (k : Rv w u M) (hv : ¬ (VH L ∧ VH M)) :
    Calls Try.prog 18 #[v, u] w (Ret (.tuple #[.slice none 0 0, .int .i64 2]) w) := by
  obtain ⟨p, b, off, cap, rfl, -⟩ := id h
  obtain ⟨p', b', off', cap', rfl, -⟩ := id k
  by_cases h1 : VH L
  · exact merge_bad2 p p' _ _ cap cap' w (fun w' hb => valid_yes L _ w' (h.below hb) h1) (fun w' hb => valid_no M _ w' (k.below hb) (fun h2 => hv ⟨h1, h2⟩))
  · exact merge_bad1 p p' _ _ cap cap' w (fun w' hb => valid_no L _ w' (h.below hb) h1)
theorem Merge_ok (L M : List T3) (v u : Value) (w : World) (h : Rv w v L) (k : Rv w u M) (h1 : VH L) (h2 : VH M) :
    Calls Try.prog 18 #[v, u] w fun e w' => ∃ vo, e = .returned (.tuple #[vo, .int .i64 0]) ∧ RowV w' w.heap.size vo (cornersT t3 (L ++ M)) ∧ Below w.heap.size w w' := by
  obtain ⟨p, b, off, cap, rfl, -⟩ := id h
  obtain ⟨p', b', off', cap', rfl, -⟩ := id k
  have e1 : L ≠ [] := fun e => by have := h1.1; rw [e] at this; simp at this
  have e2 : M ≠ [] := fun e => by have := h2.1; rw [e] at this; simp at this
  refine merge_way p p' _ _ cap cap' w (L ++ M) _ (fun w' hb => valid_yes L _ w' (h.below hb) h1) (fun w' hb => valid_yes M _ w' (k.below hb) h2)
    (fun g w' hb k0 k1 => concat_any L M _ _ g w' (h.below hb) (k.below hb) h1.2.1 h2.2.1 e1 e2 k0 k1)
    (fun v w' B hr => corners_any (L ++ M) v w' hr.rv (by have := h1.2.1; have := h2.2.1; rw [List.length_append]; omega) (by have := h1.1; rw [List.length_append]; omega) (inL_app h1.2.2.1 h2.2.2.1))

/-- A corner, counted round. -/
def gA (L : List T3) (k : Nat) : T3 := L.getD (k % L.length) (0, 0, 0)
theorem gA_nx {L : List T3} {k : Nat} (h : k % L.length < L.length) : L[k % L.length] = gA L k := by
  unfold gA
  rw [List.getD_eq_getElem?_getD, List.getElem?_eq_getElem h]; rfl
theorem gA_at {L : List T3} {k : Nat} (h : k < L.length) : L[k] = gA L k := by
  have : k % L.length < L.length := Nat.mod_lt _ (by omega)
  rw [← gA_nx this]
  congr 1
  exact (Nat.mod_eq_of_lt h).symm
theorem gA_in {L : List T3} {m : Int} (h : inL m L = true) (hp : 0 < L.length) (k : Nat) : inV m (gA L k).1 (gA L k).2.1 (gA L k).2.2 = true := by
  have := Nat.mod_lt k hp
  rw [← gA_nx this]
  exact inL_mem h _ (List.getElem_mem this)
theorem encE_gA (L : List T3) (i : Fin L.length) : encE L i = #[vv (gA L i.val).1 (gA L i.val).2.1 (gA L i.val).2.2, vv (gA L (i.val + 1)).1 (gA L (i.val + 1)).2.1 (gA L (i.val + 1)).2.2] := by
  unfold encE
  rw [gA_nx (nx_lt i), gA_at i.isLt]
theorem rv_at {L : List T3} {v : Value} {w : World} (h : Rv w v L) (hp : 0 < L.length) : ∃ b off cap, v = .slice (some ⟨b, off, none⟩) L.length cap ∧ b < w.heap.size := by
  obtain ⟨p, b, off, cap, rfl, h2, h3, h4, h5⟩ := h
  obtain rfl := h4 hp
  exact ⟨b, off, cap, rfl, World.block_lt_of_cell? w _ (h5 0 hp).1⟩

/-! Area2. -/
def crs (a b : T3) : Int := a.1 * b.2.1 - a.2.1 * b.1
def aS (L : List T3) : Nat → Int
  | 0 => 0
  | k + 1 => aS L k + crs (gA L k) (gA L (k + 1))
theorem crs_bd {a b : T3} (ha : inV 1048576 a.1 a.2.1 a.2.2 = true) (hb : inV 1048576 b.1 b.2.1 b.2.2 = true) : -2199023255552 ≤ crs a b ∧ crs a b ≤ 2199023255552 := by
  obtain ⟨a1, a2, a3⟩ := bv_of ha
  obtain ⟨b1, b2, b3⟩ := bv_of hb
  have c1 := mul_bd a1 b2
  have c2 := mul_bd a2 b1
  unfold crs
  omega
theorem aS_bd {L : List T3} (hv : inL 1048576 L = true) (hp : 0 < L.length) : ∀ k : Nat, -(2199023255552 * (k : Int)) ≤ aS L k ∧ aS L k ≤ 2199023255552 * (k : Int)
  | 0 => by simp [aS]
  | k + 1 => by
    have h1 := aS_bd hv hp k
    have h2 := crs_bd (gA_in hv hp k) (gA_in hv hp (k + 1))
    rw [aS]
    omega
theorem Area2_bad (L : List T3) (v : Value) (w : World) (h : Rv w v L) (hv : ¬ VH L) :
    Calls Try.prog 6 #[v] w (Ret (.tuple #[.int .i64 0, .int .i64 2]) w) := by
  obtain ⟨p, b, off, cap, rfl, -⟩ := id h
  exact area_bad p _ cap w (fun w' hb => valid_no L _ w' (h.below hb) hv)
theorem Area2_ok (L : List T3) (v : Value) (w : World) (h : Rv w v L) (hv : VH L) :
    Calls Try.prog 6 #[v] w (Ret (.tuple #[.int .i64 (aS L L.length), .int .i64 0]) w) := by
  obtain ⟨b, off, cap, rfl, hb⟩ := rv_at h hv.1
  have hl := hv.2.2.1
  refine area_walk L b off _ cap w rfl hv.2.1 h hb (fun i => crs (gA L i.val) (gA L (i.val + 1))) (aS L) rfl (fun i => ?_) (fun w' hb => valid_yes L _ w' (h.below hb) hv) (fun i w' => ?_)
  · have h1 := aS_bd hl hv.1 (i.val + 1)
    have h2 : (i.val : Int) + 1 ≤ 10000 := by have := i.isLt; have := hv.2.1; omega
    rw [aS]
    refine wrap_in ?_
    rw [aS] at h1
    omega
  · rw [encE_gA]
    exact area2_way _ _ _ _ _ _ _ _ _ (fun w => Cross_any (inV_up (gA_in hl hv.1 _)) (inV_up (gA_in hl hv.1 _)) w) w'

/-! Side. -/
def solV (a b p : T3) : Int := if t3 a b p ≠ 0 then -1 else if ¬ c3 a p ≤ 0 then -1 else if ¬ c3 p b ≤ 0 then -1 else 0
theorem sol_any {a b p : T3} (ha : inV 16777216 a.1 a.2.1 a.2.2 = true) (hb : inV 16777216 b.1 b.2.1 b.2.2 = true) (hc : inV 16777216 p.1 p.2.1 p.2.2 = true) (w : World) :
    Calls Try.prog 36 #[vv a.1 a.2.1 a.2.2, vv b.1 b.2.1 b.2.2, vv p.1 p.2.1 p.2.2] w (Ret (.int .i64 (solV a b p)) w) := by
  unfold solV
  split
  · next h => exact sol_0 _ _ _ _ _ _ _ _ _ _ 0 0 h (fun w => turn3_any ha hb hc w) w
  · next h =>
    have h := Classical.not_not.1 h
    split
    · next h1 => exact sol_1 _ _ _ _ _ _ _ _ _ _ _ 0 h h1 (fun w => turn3_any ha hb hc w) (fun w => Compare_any w) w
    · next h1 =>
      have h1 := Classical.not_not.1 h1
      split
      · next h2 => exact sol_2 _ _ _ _ _ _ _ _ _ _ _ _ h h1 h2 (fun w => turn3_any ha hb hc w) (fun w => Compare_any w) (fun w => Compare_any w) w
      · next h2 => exact sol_3 _ _ _ _ _ _ _ _ _ _ _ _ h h1 (Classical.not_not.1 h2) (fun w => turn3_any ha hb hc w) (fun w => Compare_any w) (fun w => Compare_any w) w
/-- The least turn of the first k edges. -/
def sS (L : List T3) (p : T3) : Nat → Int
  | 0 => 1
  | k + 1 => min (sS L p k) (t3 (gA L k) (gA L (k + 1)) p)
def sideV (L : List T3) (p : T3) : Int := if L.length ≤ 2 then solV (gA L 0) (gA L (L.length - 1)) (p.1, p.2.1, 0) else sS L (p.1, p.2.1, 0) L.length
theorem Side_bad (L : List T3) (v : Value) (p1 p2 p3 : Int) (w : World) (h : Rv w v L) (hv : ¬ (VH L ∧ inV 1048576 p1 p2 p3 = true)) :
    Calls Try.prog 17 #[v, vv p1 p2 p3] w (Ret (.tuple #[.int .i64 0, .int .i64 2]) w) := by
  obtain ⟨p, b, off, cap, rfl, -⟩ := id h
  by_cases h1 : VH L
  · refine side_bad2 p _ cap _ _ _ w (fun w' hb => valid_yes L _ w' (h.below hb) h1) (fun w' => ?_)
    have := Point_any p1 p2 p3 w'
    rwa [Bool.eq_false_iff.2 (fun e => hv ⟨h1, e⟩)] at this
  · exact side_bad1 p _ cap _ _ _ w (fun w' hb => valid_no L _ w' (h.below hb) h1)
theorem Side_ok (L : List T3) (v : Value) (p1 p2 p3 : Int) (w : World) (h : Rv w v L) (hv : VH L) (hq : inV 1048576 p1 p2 p3 = true) :
    Calls Try.prog 17 #[v, vv p1 p2 p3] w (Ret (.tuple #[.int .i64 (sideV L (p1, p2, p3)), .int .i64 0]) w) := by
  obtain ⟨b, off, cap, e, hb⟩ := rv_at h hv.1
  subst e
  have hl := hv.2.2.1
  have hY : ∀ w', Below w.heap.size w w' → Calls Try.prog 19 #[.slice (some ⟨b, off, none⟩) L.length cap] w' (Ret (.bool true) w') := fun w' hb => valid_yes L _ w' (h.below hb) hv
  have hP : ∀ w', Calls Try.prog 34 #[vv p1 p2 p3] w' (Ret (.bool true) w') := fun w' => by
    have := Point_any p1 p2 p3 w'
    rwa [hq] at this
  have hz : inV 16777216 p1 p2 0 = true := by
    have := inV_iff.1 hq
    exact inV_iff.2 ⟨by omega, by omega, by omega⟩
  unfold sideV
  split
  · next h2 =>
    have hp := hv.1
    obtain ⟨p', b', off', cap', e, q2, q3, q4, q5⟩ := id h
    cases e
    cases q4 hp
    have k0 := q5 0 hp
    have k1 := q5 (L.length - 1) (by omega)
    rw [gA_at hp] at k0
    rw [gA_at (show L.length - 1 < L.length by omega)] at k1
    simp only [Nat.zero_mul, Nat.add_zero] at k0
    exact side_line b off L.length cap (L.length - 1) p1 p2 p3 _ _ _ _ _ _ _ w (by omega) h2 ⟨k0.1, k0.2.1, k0.2.2, k1.1, k1.2.1, k1.2.2⟩ hY hP (fun w' => sol_any (p := (p1, p2, 0)) (inV_up (gA_in hl hp _)) (inV_up (gA_in hl hp _)) hz w')
  · next h2 =>
    refine side_walk L b off _ cap p1 p2 p3 w rfl (by omega) hv.2.1 h hb (fun i => t3 (gA L i.val) (gA L (i.val + 1)) (p1, p2, 0)) (sS L (p1, p2, 0)) rfl (fun i => rfl) hY hP (fun i w' => ?_)
    rw [encE_gA]
    exact turn3_any (c := (p1, p2, 0)) (inV_up (gA_in hl hv.1 _)) (inV_up (gA_in hl hv.1 _)) hz w'

/-! Extent. -/
def eD (p a : T3) : Int := dt p.1 p.2.1 p.2.2 a.1 a.2.1 a.2.2
def eLo (L : List T3) (p : T3) : Nat → Int
  | 0 => 9223372036854775807
  | k + 1 => min (eLo L p k) (eD p (gA L k))
def eHi (L : List T3) (p : T3) : Nat → Int
  | 0 => -9223372036854775808
  | k + 1 => max (eHi L p k) (eD p (gA L k))
theorem Extent_bad (L : List T3) (v : Value) (p1 p2 p3 : Int) (w : World) (h : Rv w v L) (hv : ¬ (VH L ∧ inV 16777216 p1 p2 p3 = true)) :
    Calls Try.prog 8 #[v, vv p1 p2 p3] w (Ret (.tuple #[.int .i64 0, .int .i64 0, .int .i64 2]) w) := by
  obtain ⟨p, b, off, cap, rfl, -⟩ := id h
  by_cases h1 : VH L
  · refine ext_bad2 p _ cap _ _ _ w (fun w' hb => valid_yes L _ w' (h.below hb) h1) (fun w' => ?_)
    have := Valid_any p1 p2 p3 w'
    rwa [Bool.eq_false_iff.2 (fun e => hv ⟨h1, e⟩)] at this
  · exact ext_bad1 p _ cap _ _ _ w (fun w' hb => valid_no L _ w' (h.below hb) h1)
theorem Extent_ok (L : List T3) (v : Value) (p1 p2 p3 : Int) (w : World) (h : Rv w v L) (hv : VH L) (hq : inV 16777216 p1 p2 p3 = true) :
    Calls Try.prog 8 #[v, vv p1 p2 p3] w (Ret (.tuple #[.int .i64 (eLo L (p1, p2, p3) L.length), .int .i64 (eHi L (p1, p2, p3) L.length), .int .i64 0]) w) := by
  refine ext_walk L v p1 p2 p3 w h hv.2.1 (fun k _ => eD (p1, p2, p3) (gA L k)) (eLo L (p1, p2, p3)) (eHi L (p1, p2, p3)) rfl rfl (fun k hk => rfl) (fun k hk => rfl) (fun w' hb => valid_yes L _ w' (h.below hb) hv) (fun w' => ?_) (fun k hk w' => ?_)
  · have := Valid_any p1 p2 p3 w'
    rwa [hq] at this
  · rw [gA_at hk]
    exact dot_way _ _ _ _ _ _ _ (fun w => Dot_any hq (inV_up (gA_in hv.2.2.1 hv.1 _)) w) w'

/-! Diameter2. -/
def wyA (L : List T3) (k : Nat) : T3 := ((gA L (k + 1)).1 - (gA L k).1, (gA L (k + 1)).2.1 - (gA L k).2.1, (gA L (k + 1)).2.2 - (gA L k).2.2)
def ctA (L : List T3) (i j : Nat) : Bool := decide (t3 (0, 0, 0) (wyA L i) (wyA L j) = 1)
def d2 (a b : T3) : Int := dt (a.1 - b.1) (a.2.1 - b.2.1) (a.2.2 - b.2.2) (a.1 - b.1) (a.2.1 - b.2.1) (a.2.2 - b.2.2)
def dsA (L : List T3) (i j : Nat) : Int := d2 (gA L i) (gA L j)
theorem wyA_in {L : List T3} (hv : inL 1048576 L = true) (hp : 0 < L.length) (k : Nat) : inV 16777216 (wyA L k).1 (wyA L k).2.1 (wyA L k).2.2 = true := by
  obtain ⟨a1, a2, a3⟩ := bv_of (gA_in hv hp k)
  obtain ⟨b1, b2, b3⟩ := bv_of (gA_in hv hp (k + 1))
  exact inV_iff.2 ⟨by show _ ≤ _ - _ ∧ _ - _ ≤ _; omega, by show _ ≤ _ - _ ∧ _ - _ ≤ _; omega, by show _ ≤ _ - _ ∧ _ - _ ≤ _; omega⟩
theorem Diameter2_bad (L : List T3) (v : Value) (w : World) (h : Rv w v L) (hv : ¬ VH L) :
    Calls Try.prog 7 #[v] w (Ret (.tuple #[.int .i64 0, .int .i64 0, .int .i64 0, .int .i64 2]) w) := by
  obtain ⟨p, b, off, cap, rfl, -⟩ := id h
  exact diam_bad p _ cap w (fun w' hb => valid_no L _ w' (h.below hb) hv)
theorem Diameter2_ok (L : List T3) (v : Value) (w : World) (h : Rv w v L) (hv : VH L) (N : Nat)
    (hN : ∀ k, k < N → (stp (ctA L) k).1 < (stp (ctA L) k).2 ∧ (stp (ctA L) k).2 < L.length) (hE : ¬ ((stp (ctA L) N).1 < (stp (ctA L) N).2 ∧ (stp (ctA L) N).2 < L.length)) :
    Calls Try.prog 7 #[v] w (Ret (.tuple #[.int .i64 (dD (ctA L) (dsA L) N).1, .int .i64 (dD (ctA L) (dsA L) N).2.1, .int .i64 (dD (ctA L) (dsA L) N).2.2, .int .i64 0]) w) := by
  obtain ⟨b, off, cap, rfl, hb⟩ := rv_at h hv.1
  have hl := hv.2.2.1
  have hp := hv.1
  refine diam_walk L b off _ cap N w rfl hv.2.1 h hb (wyA L) (fun i j => t3 (0, 0, 0) (wyA L i) (wyA L j)) (ctA L) (dsA L) (fun i j => rfl) (fun i hi w' hr => ?_) (fun i j hi hj w' => ?_) (fun i j w' => ?_) hN hE (fun w' hb => valid_yes L _ w' (h.below hb) hv)
  · have := way_any L _ i w' hr hi (by have := hv.2.1; omega) (inL_mem hl)
    rw [gA_nx (Nat.mod_lt _ hp), gA_at hi] at this
    exact this
  · exact turn3_any (a := (0, 0, 0)) (by rfl) (wyA_in hl hp _) (wyA_in hl hp _) w'
  · rw [gA_at i.isLt, gA_at j.isLt]
    exact distance2_way _ _ _ _ _ _ _ (fun w => Distance2_any (inV_up (gA_in hl hp _)) (inV_up (gA_in hl hp _)) w) w'
end Go.Proofs.Ytpkfngfenkcjoaa

/- skylanternlaw07.points: the walk. -/
set_option linter.all false
namespace Go.Proofs.Ytpkfngfenkcjoaa
open Go.RowKit

/-- Points without heights, X and Y by turns. -/
def prV : List Int → List T3
  | x :: y :: r => (x, y, 0) :: prV r
  | _ => []
theorem prV_get : ∀ (zs : List Int) (k : Nat) (h : 2 * k + 1 < zs.length), (prV zs)[k]? = some (zs[2 * k], zs[2 * k + 1], 0)
  | x :: y :: r, 0, h => rfl
  | x :: y :: r, k + 1, h => by
    have := prV_get r k (by simp at h; omega)
    show (prV r)[k]? = _
    rw [this]
    have e1 : 2 * (k + 1) = 2 * k + 1 + 1 := by omega
    simp only [e1, List.getElem_cons_succ]
  | [x], k, h => by simp at h
  | [], k, h => by simp at h
theorem prV_length : ∀ (zs : List Int) (m : Nat), zs.length = 2 * m → (prV zs).length = m
  | [], m, h => by simp at h; simp [prV]; omega
  | [x], m, h => by simp at h; omega
  | x :: y :: r, m, h => by
    have := prV_length r (m - 1) (by simp at h; omega)
    simp only [prV, List.length_cons]
    simp at h
    omega
theorem prV_take (zs : List Int) (k : Nat) (h : 2 * k + 1 < zs.length) : (prV zs).take (k + 1) = (prV zs).take k ++ [(zs[2 * k], zs[2 * k + 1], 0)] := by
  have := prV_get zs k h
  obtain ⟨h1, h2⟩ := List.getElem?_eq_some_iff.1 this
  rw [List.take_succ_eq_append_getElem h1, h2]

set_option maxRecDepth 100000 in
set_option maxHeartbeats 8000000 in
theorem points_any (zs : List Int) (g cap m : Nat) (w : World) (h : ∀ j (hj : j < zs.length), w.cell? ⟨g, j, none⟩ = some (.int .i64 zs[j])) (hm : zs.length = 2 * m) (hmx : m ≤ 100) (n : Nat) (hn : n = zs.length) :
    Calls Try.prog 14 #[.slice (some ⟨g, 0, none⟩) n cap] w fun e w' => ∃ vo, e = .returned vo ∧ RowV w' w.heap.size vo (prV zs) ∧ Below w.heap.size w w' := by
  have H := Lib.hid h
  have HM := Lib.hid hm
  have HN := Lib.hid hn
  have hn2 : n ≤ 200 := by omega
  clear h hm hn
  go_enter Try.func14, Try.ntmps14
  go_wp2
  go_loopw [3, 4] (fun ov iv wr => ∃ (wz : World) (k : Nat) (i : Nat), wz = wr ∧ k ≤ m ∧ i ≤ n ∧ Hid (i = 2 * k) ∧ iv = .int .i64 (i : Int) ∧ Hid (RowV wz w.heap.size ov ((prV zs).take k)) ∧ Hid (Below w.heap.size w wz))
    (fun _ iv _ => n - (intOf iv).toNat)
  case atStart => exact ⟨w, 0, 0, rfl, Nat.zero_le _, Nat.zero_le _, rfl, rfl, RowV.nil _ _, Below.refl _ _⟩
  case round =>
    obtain ⟨wz, k, i, rfl, hk, hi, HI, rfl, HO, hbl⟩ := hrel
    by_cases hlt : i + 1 < n
    · have hk2 : 2 * k + 1 < zs.length := by have h5 : i = 2 * k := HI.out; have h6 : n = zs.length := HN.out; omega
      have hkm : k < m := by have h6 : zs.length = 2 * m := HM.out; omega
      obtain ⟨x, hx⟩ : ∃ x, x = zs[2 * k] := ⟨_, rfl⟩
      obtain ⟨y, hy⟩ : ∃ y, y = zs[2 * k + 1] := ⟨_, rfl⟩
      have HTK : Hid ((prV zs).take (k + 1) = (prV zs).take k ++ [(x, y, 0)]) := by show _ = _; rw [prV_take zs k hk2, hx, hy]
      have e0 : i = 2 * k := HI.out
      have KK : Hid (w.cell? ⟨g, i, none⟩ = some (.int .i64 x) ∧ w.cell? ⟨g, i + 1, none⟩ = some (.int .i64 y)) := by
        subst e0
        rw [hx, hy]
        exact ⟨H.out _ _, H.out _ _⟩
      have c0 := keep1 hbl.out KK.out.1
      have c1 := keep1 hbl.out KK.out.2
      obtain ⟨j, hj⟩ : ∃ j, j = i + 1 := ⟨_, rfl⟩
      rw [← hj] at c1 hlt
      have KJ : Hid (w.cell? ⟨g, i, none⟩ = some (.int .i64 x) ∧ w.cell? ⟨g, j, none⟩ = some (.int .i64 y)) := by rw [hj]; exact KK.out
      clear KK
      have w1 : IntKind.i64.wrap ((i : Int) + 1) = (j : Int) := by rw [show (i : Int) + 1 = (j : Int) by omega]; exact wrap_in (by omega)
      obtain ⟨j2, hj2⟩ : ∃ j, j = i + 2 := ⟨_, rfl⟩
      have w2 : IntKind.i64.wrap ((i : Int) + 2) = (j2 : Int) := by rw [show (i : Int) + 2 = (j2 : Int) by omega]; exact wrap_in (by omega)
      have HJ2 := Lib.hid hj2
      have i0 : (0 : Int) ≤ (i : Int) := by omega
      have i1 : (i : Int) < (n : Int) := by omega
      have i2 : (0 : Int) ≤ (j : Int) := by omega
      have i3 : (j : Int) < (n : Int) := by omega
      have i4 : i < n := by omega
      have HLC : Hid (((prV zs).take k).length ≤ 1000000) := by show _ ≤ _; rw [List.length_take]; omega
      have HA : Hid (RowV ((wz.alloc (.cells #[.int .i64 x, .int .i64 y, .int .i64 0] 24)).drew) w.heap.size _ ((prV zs).take k)) := HO.out.below (below_one _ _).drew
      have EA : Hid (Below w.heap.size w ((wz.alloc (.cells #[.int .i64 x, .int .i64 y, .int .i64 0] 24)).drew)) := (hbl.out.alloc hbl.out.size _).drew
      have MA : Hid (RowV ((wz.alloc (.cells #[.int .i64 x, .int .i64 y, .int .i64 0] 24)).drew) wz.heap.size (.slice (some ⟨wz.heap.size, 0, none⟩) 1 1) [(x, y, 0)]) := RowV.made wz _ x y 0 (Nat.le_refl _)
      have hij : Hid (j2 = i + 2 ∧ j2 ≤ n ∧ k + 1 ≤ m ∧ j2 = 2 * (k + 1)) := by
        show _ ∧ _
        have h6 : n = zs.length := HN.out
        have h7 : zs.length = 2 * m := HM.out
        omega
      clear hx hy hk2 e0 hj hj2 hkm
      go_upto_region 5 with (fail)
      go_region_held3 (fun W' => W'.cell? ⟨g, i, none⟩ = some (.int .i64 x) ∧ W'.cell? ⟨g, j, none⟩ = some (.int .i64 y)) (go_keep)
        (first
          | (rw [if_pos (by rfl)]; go_loud (refine wp_append_V rfl _ _ rfl rfl rfl HA.out MA.out.rv HLC.out (by show 1 ≤ 1000000; decide) EA.out.size (fun h => by cases h) ?_); intro v' w9 hrow9 hg9; have HN9 := Lib.hid hrow9; have HE9 := Lib.hid (Below.grown_row EA.out EA.out.size HA.out hg9); clear hrow9 hg9; have d0 := keep1 HE9.out KJ.out.1; have d1 := keep1 HE9.out KJ.out.2)
          | fail)
      go_wp2
      go_roundw
      case rel => exact ⟨_, k + 1, j2, rfl, hij.out.2.2.1, hij.out.2.1, hij.out.2.2.2, rfl, by rw [HTK.out]; exact HN9.out, HE9.out⟩
      case measure => have := hij.out; simp [intOf]; omega
    · have hkm : k = m := by have h5 : i = 2 * k := HI.out; have h6 : n = zs.length := HN.out; have h7 : zs.length = 2 * m := HM.out; omega
      have HO1 := HO.out
      rw [hkm, List.take_of_length_le (by rw [prV_length zs m HM.out]; exact Nat.le_refl _)] at HO1
      have HO2 := Lib.hid HO1
      clear HO1
      obtain ⟨j, hj⟩ : ∃ j, j = i + 1 := ⟨_, rfl⟩
      have w1 : IntKind.i64.wrap ((i : Int) + 1) = (j : Int) := by rw [show (i : Int) + 1 = (j : Int) by omega]; exact wrap_in (by omega)
      have i3 : ¬ (j : Int) < (n : Int) := by omega
      clear HO hkm hj hlt
      go_wp2
      go_ret
      exact ⟨_, rfl, HO2.out, hbl.out⟩
end Go.Proofs.Ytpkfngfenkcjoaa

/- skylanternlaw07.known: what it needs. -/
set_option linter.all false
namespace Go.Proofs.Ytpkfngfenkcjoaa
open Go.RowKit

instance : DecidableRel Hl.lt := fun a b => by unfold Hl.lt; exact inferInstance
theorem srt_unique : ∀ {A B : List Hl.P2}, Hl.Srt A → Hl.Srt B → (∀ q, q ∈ A ↔ q ∈ B) → A = B
  | [], [], _, _, _ => rfl
  | [], b :: B, _, _, h => absurd ((h b).2 (by simp)) (by simp)
  | a :: A, [], _, _, h => absurd ((h a).1 (by simp)) (by simp)
  | a :: A, b :: B, hA, hB, h => by
    obtain ⟨a1, a2⟩ := List.pairwise_cons.1 hA
    obtain ⟨b1, b2⟩ := List.pairwise_cons.1 hB
    have e : a = b := by
      have h1 := (h a).1 (by simp)
      have h2 := (h b).2 (by simp)
      rw [List.mem_cons] at h1 h2
      rcases h1 with h1 | h1
      · exact h1
      · rcases h2 with h2 | h2
        · exact h2.symm
        · exact absurd (Hl.lt_trans (a1 _ h2) (b1 _ h1)) (Hl.lt_irrefl _)
    subst e
    rw [srt_unique a2 b2 (fun q => ?_)]
    have := h q
    rw [List.mem_cons, List.mem_cons] at this
    constructor
    · intro hq
      rcases this.1 (.inr hq) with e | e
      · subst e; exact absurd (a1 _ hq) (Hl.lt_irrefl _)
      · exact e
    · intro hq
      rcases this.2 (.inr hq) with e | e
      · subst e; exact absurd (b1 _ hq) (Hl.lt_irrefl _)
      · exact e
theorem corners_of (L : List T3) (F : List Hl.P2) (hF : Hl.Srt F) (h1 : ∀ q ∈ F, q ∈ L.map pl) (h2 : ∀ q ∈ L.map pl, q ∈ F) :
    cornersT t3 L = if (fl F).length = 1 then fl F else (chT t3 (fl F)).reverse.dropLast ++ (chT t3 (fl F).reverse).reverse.dropLast := by
  have e : F2 L = F := srt_unique (F2_srt L) hF (fun q => (F2_mem L q).trans ⟨h2 q, h1 q⟩)
  unfold cornersT
  rw [FF_fl, e]
theorem Same_yes (L : List T3) (v1 v2 : Value) (w : World) (g1 : Rv w v1 L) (g2 : Rv w v2 L) :
    Calls Try.prog 16 #[v1, v2] w (Ret (.bool true) w) := by
  have := Same_any L L v1 v2 w g1 g2
  rwa [decide_eq_true rfl] at this
/-- The rows that are kept. -/
def Rws (w : World) (l : List (Value × List T3)) : Prop := ∀ p ∈ l, Rv w p.1 p.2
theorem Rws.below {w w' : World} {l : List (Value × List T3)} (h : Rws w l) (b : Below w.heap.size w w') : Rws w' l := fun p hp => (h p hp).below b
theorem Rws.step {w w' : World} {l : List (Value × List T3)} {v : Value} {L : List T3} (h : Rws w l) (b : Below w.heap.size w w') (k : Rv w' v L) : Rws w' ((v, L) :: l) := by
  intro p hp
  rcases List.mem_cons.1 hp with rfl | hp
  · exact k
  · exact (h p hp).below b
theorem points_made (zs : List Int) (m : Nat) (hm : zs.length = 2 * m) (hmx : m ≤ 100) (L : List T3) (hL : prV zs = L) (w : World) :
    Calls Try.prog 14 #[.slice (some ⟨w.heap.size, 0, none⟩) zs.length zs.length] (w.alloc (.cells (zs.map (Value.int .i64)).toArray 3)) fun e w' => ∃ vo, e = .returned vo ∧ Rv w' vo L ∧ Below w.heap.size w w' := by
  refine (points_any zs w.heap.size zs.length m _ (fun j hj => ?_) hm hmx zs.length rfl).mono ?_
  · simp [go_sem, hj]
  · rintro e w' ⟨vo, rfl, hr, b⟩
    exact ⟨vo, rfl, hL ▸ hr.rv, chain (below_one w _) b⟩
theorem Hull_kn (L C : List T3) (hp : 0 < L.length) (hl : L.length ≤ 10000) (hv : inL 1048576 L = true) (hC : cornersT t3 L = C) (v : Value) (w : World) (h : Rv w v L) :
    Calls Try.prog 15 #[v] w fun e w' => ∃ vo, e = .returned (.tuple #[vo, .int .i64 0]) ∧ Rv w' vo C ∧ Below w.heap.size w w' := by
  refine (Hull_ok L v w h hp hl hv).mono ?_
  rintro e w' ⟨vo, rfl, hr, b⟩
  exact ⟨vo, rfl, hC ▸ hr.rv, b⟩
def squ : List T3 := [(0, 0, 0), (2, 0, 0), (2, 2, 0), (0, 2, 0)]
def lin : List T3 := [(1, 1, 0), (3, 3, 0)]
def kn0 : List T3 := [(0, 0, 0), (2, 0, 0), (1, 1, 0), (2, 2, 0), (0, 2, 0), (1, 0, 0)]
def kn1 : List T3 := [(3, 3, 0), (1, 1, 0), (2, 2, 0)]
def kn2 : List T3 := [(5, 5, 0), (5, 5, 0)]
def kn3 : List T3 := [(0, 0, 0), (0, 2, 0), (2, 2, 0)]
theorem kn0_hull : cornersT t3 kn0 = squ := by
  rw [corners_of kn0 [(0, 0), (0, 2), (1, 0), (1, 1), (2, 0), (2, 2)] (by decide) (by decide) (by decide)]; decide
theorem kn1_hull : cornersT t3 kn1 = lin := by
  rw [corners_of kn1 [(1, 1), (2, 2), (3, 3)] (by decide) (by decide) (by decide)]; decide
theorem kn2_hull : cornersT t3 kn2 = [(5, 5, 0)] := by
  rw [corners_of kn2 [(5, 5)] (by decide) (by decide) (by decide)]; decide
theorem merge_hull : cornersT t3 (squ ++ lin) = [(0, 0, 0), (2, 0, 0), (3, 3, 0), (0, 2, 0)] := by
  rw [corners_of (squ ++ lin) [(0, 0), (0, 2), (1, 1), (2, 0), (2, 2), (3, 3)] (by decide) (by decide) (by decide)]; decide
theorem squ_vh : VH squ := ⟨by decide, by decide, by decide, by decide, by decide, .inr ⟨by decide, fun k h h0 => by
  have h4 : k + 1 < 4 := h
  rcases (by omega : k = 1 ∨ k = 2) with rfl | rfl <;> rfl⟩⟩
theorem lin_vh : VH lin := ⟨by decide, by decide, by decide, by decide, by decide, .inl (by decide)⟩
theorem kn3_no : ¬ VH kn3 := fun h => by
  rcases h.2.2.2.2.2 with h | h
  · exact absurd h (by decide)
  · exact absurd (h.1 0 (by decide)) (by decide)
theorem squ_area : aS squ squ.length = 8 := by decide
theorem squ_ext : eLo squ (1, 1, 0) squ.length = 0 ∧ eHi squ (1, 1, 0) squ.length = 4 := by decide
theorem lin_side : sideV lin (2, 2, 0) = 0 := by decide
theorem squ_side : sideV squ (1, 1, 0) = 1 ∧ sideV squ (2, 1, 0) = 0 ∧ sideV squ (3, 1, 0) = -1 := by decide
theorem squ_diam : (∀ k, k < 5 → (stp (ctA squ) k).1 < (stp (ctA squ) k).2 ∧ (stp (ctA squ) k).2 < squ.length) ∧ ¬ ((stp (ctA squ) 5).1 < (stp (ctA squ) 5).2 ∧ (stp (ctA squ) 5).2 < squ.length) ∧ dD (ctA squ) (dsA squ) 5 = (0, 2, 8) := by decide
end Go.Proofs.Ytpkfngfenkcjoaa

/- skylanternlaw07.known: the walk. -/
set_option linter.all false
namespace Go.Proofs.Ytpkfngfenkcjoaa
open Go.RowKit

theorem points_at (zs : List Int) (m : Nat) (hm : zs.length = 2 * m) (hmx : m ≤ 100) (L : List T3) (hL : prV zs = L) (w : World) (g : Nat) (hg : g = w.heap.size) :
    Calls Try.prog 14 #[.slice (some ⟨g, 0, none⟩) zs.length zs.length] (w.alloc (.cells (zs.map (Value.int .i64)).toArray 3)) fun e w' => ∃ vo, e = .returned vo ∧ Rv w' vo L ∧ Below w.heap.size w w' := by
  subst hg; exact points_made zs m hm hmx L hL w
def pp : List T3 := [(1, 1, 0), (2, 1, 0), (3, 1, 0)]
def Wn (w : World) (g : Nat) : Prop := w.cell? ⟨g, 0, none⟩ = some (.int .i64 1) ∧ w.cell? ⟨g, 1, none⟩ = some (.int .i64 0) ∧ w.cell? ⟨g, 2, none⟩ = some (.int .i64 (-1))
theorem Wn.below {w w' : World} {g : Nat} (h : Wn w g) (b : Below w.heap.size w w') : Wn w' g := ⟨keep1 b h.1, keep1 b h.2.1, keep1 b h.2.2⟩
theorem Rws.sub {w : World} {l m : List (Value × List T3)} (h : Rws w l) (k : ∀ p ∈ m, p ∈ l) : Rws w m := fun p hp => h p (k p hp)
theorem round_facts {w : World} {b off cap g k : Nat} (hk : k < 3) (h : Rv w (.slice (some ⟨b, off, none⟩) 3 cap) pp) (hw : Wn w g) :
    ∃ x y W : Int, w.cell? ⟨b, off + k * 3, none⟩ = some (.int .i64 x) ∧ w.cell? ⟨b, off + k * 3 + 1, none⟩ = some (.int .i64 y) ∧ w.cell? ⟨b, off + k * 3 + 2, none⟩ = some (.int .i64 0) ∧ w.cell? ⟨g, k, none⟩ = some (.int .i64 W) ∧ sideV squ (x, y, 0) = W ∧ inV 1048576 x y 0 = true := by
  obtain ⟨p', b', off', cap', e, q2, q3, q4, q5⟩ := h
  cases e
  cases q4 (by decide)
  obtain ⟨h1, h2, h3⟩ := q5 k hk
  obtain ⟨s1, s2, s3⟩ := squ_side
  obtain ⟨w1, w2, w3⟩ := hw
  rcases (by omega : k = 0 ∨ k = 1 ∨ k = 2) with rfl | rfl | rfl
  · exact ⟨1, 1, 1, h1, h2, h3, w1, s1, by decide⟩
  · exact ⟨2, 1, 0, h1, h2, h3, w2, s2, by decide⟩
  · exact ⟨3, 1, -1, h1, h2, h3, w3, s3, by decide⟩

theorem Side_kn (L : List T3) (v : Value) (p1 p2 p3 W : Int) (w : World) (h : Rv w v L) (hv : VH L) (hq : inV 1048576 p1 p2 p3 = true) (hs : sideV L (p1, p2, p3) = W) :
    Calls Try.prog 17 #[v, vv p1 p2 p3] w (Ret (.tuple #[.int .i64 W, .int .i64 0]) w) := by
  have := Side_ok L v p1 p2 p3 w h hv hq
  rwa [hs] at this
theorem Area2_kn (L : List T3) (v : Value) (W : Int) (w : World) (h : Rv w v L) (hv : VH L) (hs : aS L L.length = W) :
    Calls Try.prog 6 #[v] w (Ret (.tuple #[.int .i64 W, .int .i64 0]) w) := by
  have := Area2_ok L v w h hv
  rwa [hs] at this
theorem Diameter2_kn (v : Value) (w : World) (h : Rv w v squ) :
    Calls Try.prog 7 #[v] w (Ret (.tuple #[.int .i64 0, .int .i64 2, .int .i64 8, .int .i64 0]) w) := by
  have := Diameter2_ok squ v w h squ_vh 5 squ_diam.1 squ_diam.2.1
  rwa [squ_diam.2.2] at this
theorem Extent_kn (v : Value) (w : World) (h : Rv w v squ) :
    Calls Try.prog 8 #[v, vv 1 1 0] w (Ret (.tuple #[.int .i64 0, .int .i64 4, .int .i64 0]) w) := by
  have := Extent_ok squ v 1 1 0 w h squ_vh (by decide)
  rwa [squ_ext.1, squ_ext.2] at this
def mrg : List T3 := [(0, 0, 0), (2, 0, 0), (3, 3, 0), (0, 2, 0)]
theorem Merge_kn (v u : Value) (w : World) (h : Rv w v squ) (k : Rv w u lin) :
    Calls Try.prog 18 #[v, u] w fun e w' => ∃ vo, e = .returned (.tuple #[vo, .int .i64 0]) ∧ Rv w' vo mrg ∧ Below w.heap.size w w' := by
  refine (Merge_ok squ lin v u w h k squ_vh lin_vh).mono ?_
  rintro e w' ⟨vo, rfl, hr, b⟩
  have hr2 := hr.rv
  rw [merge_hull] at hr2
  exact ⟨vo, rfl, hr2, b⟩
theorem one_cells {w : World} {b off n cap : Nat} {a : T3} (h : Rv w (.slice (some ⟨b, off, none⟩) n cap) [a]) :
    w.cell? ⟨b, off, none⟩ = some (.int .i64 a.1) ∧ w.cell? ⟨b, off + 1, none⟩ = some (.int .i64 a.2.1) ∧ w.cell? ⟨b, off + 2, none⟩ = some (.int .i64 a.2.2) := by
  obtain ⟨p', b', off', cap', e, q2, q3, q4, q5⟩ := h
  cases e
  cases q4 (by simp)
  simpa using q5 0 (by simp)

set_option maxRecDepth 100000 in
set_option maxHeartbeats 8000000 in
theorem known_true (w : World) : Calls Try.prog 5 #[] w (Ret (.bool true) w) := by
  have E := Lib.hid (Below.refl w.heap.size w)
  have RW : Hid (Rws w []) := fun p hp => by cases hp
  go_enter Try.func5, Try.ntmps5
  go_wp2_with fail
  refine (points_made [0,0,2,0,2,2,0,2] 4 (by rfl) (by decide) squ (by rfl) _).mono ?_
  rintro e y1 ⟨v1, rfl, hr, b⟩
  have RW := Lib.hid (Rws.step RW.out b hr)
  have E := Lib.hid (chain E.out b)
  clear b hr
  go_wp2_with fail
  refine (points_made [1,1,3,3] 2 (by rfl) (by decide) lin (by rfl) _).mono ?_
  rintro e y2 ⟨v2, rfl, hr, b⟩
  have RW := Lib.hid (Rws.step RW.out b hr)
  have E := Lib.hid (chain E.out b)
  clear b hr
  go_wp2_with fail
  refine (points_made [0,0,2,0,1,1,2,2,0,2,1,0] 6 (by rfl) (by decide) kn0 (by rfl) _).mono ?_
  rintro e y3 ⟨v3, rfl, hr, b⟩
  have RW := Lib.hid (Rws.step RW.out b hr)
  have E := Lib.hid (chain E.out b)
  clear b hr
  go_wp2_with fail
  refine (Hull_kn kn0 squ (by decide) (by decide) (by decide) kn0_hull _ _ (RW.out _ List.mem_cons_self)).mono ?_
  rintro e y4 ⟨v4, rfl, hr, b⟩
  have RW := Lib.hid (Rws.step RW.out b hr)
  have E := Lib.hid (chain E.out b)
  clear b hr
  go_wp2_with fail
  refine (points_made [3,3,1,1,2,2] 3 (by rfl) (by decide) kn1 (by rfl) _).mono ?_
  rintro e y5 ⟨v5, rfl, hr, b⟩
  have RW := Lib.hid (Rws.step RW.out b hr)
  have E := Lib.hid (chain E.out b)
  clear b hr
  go_wp2_with fail
  refine (Hull_kn kn1 lin (by decide) (by decide) (by decide) kn1_hull _ _ (RW.out _ List.mem_cons_self)).mono ?_
  rintro e y6 ⟨v6, rfl, hr, b⟩
  have RW := Lib.hid (Rws.step RW.out b hr)
  have E := Lib.hid (chain E.out b)
  clear b hr
  go_wp2_with fail
  refine (points_made [5,5,5,5] 2 (by rfl) (by decide) kn2 (by rfl) _).mono ?_
  rintro e y7 ⟨v7, rfl, hr, b⟩
  have RW := Lib.hid (Rws.step RW.out b hr)
  have E := Lib.hid (chain E.out b)
  clear b hr
  go_wp2_with fail
  refine (Hull_kn kn2 [(5,5,0)] (by decide) (by decide) (by decide) kn2_hull _ _ (RW.out _ List.mem_cons_self)).mono ?_
  rintro e y8 ⟨v8, rfl, hr, b⟩
  have RW := Lib.hid (Rws.step RW.out b hr)
  have E := Lib.hid (chain E.out b)
  clear b hr
  go_wp2_with fail
  refine (Same_yes squ _ _ _ (RW.out (v4, squ) (by simp)) (RW.out (v1, squ) (by simp))).mono ?_
  rintro e y9 ⟨rfl, b⟩
  have RW := Lib.hid (RW.out.below b)
  have E := Lib.hid (chain E.out b)
  clear b
  go_wp2_with fail
  refine (Same_yes lin _ _ _ (RW.out (v6, lin) (by simp)) (RW.out (v2, lin) (by simp))).mono ?_
  rintro e y10 ⟨rfl, b⟩
  have RW := Lib.hid (RW.out.below b)
  have E := Lib.hid (chain E.out b)
  clear b
  go_wp2_with fail
  refine (points_made [5,5] 1 (by rfl) (by decide) [(5,5,0)] (by rfl) _).mono ?_
  rintro e y11 ⟨v9, rfl, hr, b⟩
  have RW := Lib.hid (Rws.step RW.out b hr)
  have E := Lib.hid (chain E.out b)
  clear b hr
  go_wp2_with fail
  refine (Same_yes [(5,5,0)] _ _ _ (RW.out (v8, [(5,5,0)]) (by simp)) (RW.out (v9, [(5,5,0)]) (by simp))).mono ?_
  rintro e y12 ⟨rfl, b⟩
  have RW := Lib.hid (RW.out.below b)
  have E := Lib.hid (chain E.out b)
  clear b
  go_wp2_with fail
  obtain ⟨gw, hgw⟩ : ∃ gw, gw = y12.heap.size := ⟨_, rfl⟩
  have WN : Hid (Wn (y12.alloc (.cells #[.int .i64 1, .int .i64 0, .int .i64 (-1)] 3)) gw) := by subst hgw; exact ⟨by simp [go_sem], by simp [go_sem], by simp [go_sem]⟩
  refine (points_at [1,1,2,1,3,1] 3 (by rfl) (by decide) pp (by rfl) (y12.alloc (.cells #[.int .i64 1, .int .i64 0, .int .i64 (-1)] 3)) _ (by simp)).mono ?_
  rintro e y13 ⟨v10, rfl, hr, b⟩
  have WN := Lib.hid (WN.out.below b)
  have E := Lib.hid (chain (E.out.alloc E.out.size _) b)
  have RW := Lib.hid (Rws.step (RW.out.below (below_one _ _)) b hr)
  rw [← hgw]
  clear b hr hgw
  obtain ⟨b, off, cap, e10, hb⟩ := rv_at (RW.out (v10, pp) List.mem_cons_self) (show 0 < pp.length by decide)
  have e10 : v10 = .slice (some ⟨b, off, none⟩) 3 cap := e10
  subst e10
  clear hb
  go_wp2
  go_loopw [79] (fun iv wr => ∃ (wz : World) (k : Nat), wz = wr ∧ k ≤ 3 ∧ iv = .int .i64 (k : Int) ∧ Hid (Rws wz [(.slice (some ⟨b, off, none⟩) 3 cap, pp), (v2, lin), (v1, squ)]) ∧ Hid (Wn wz gw) ∧ Hid (Below w.heap.size w wz))
    (fun iv _ => 3 - (intOf iv).toNat)
  case atStart => exact ⟨_, 0, rfl, by omega, rfl, RW.out.sub (by simp), WN, E⟩
  case round =>
    clear RW WN E
    obtain ⟨wz, k, rfl, hk, rfl, RW, WN, E⟩ := hrel
    by_cases hlt : k < 3
    · obtain ⟨x, y, W, c0, c1, c2, cw, hs, hv⟩ := round_facts hlt (RW.out (_, pp) List.mem_cons_self) WN.out
      have HS := Lib.hid hs
      have HV := Lib.hid hv
      have CW := Lib.hid cw
      clear hs hv cw
      have i0 : (0 : Int) ≤ (k : Int) := by omega
      have i1 : (k : Int) < 3 := by omega
      have w1 : IntKind.i64.wrap ((k : Int) + 1) = ((k + 1 : Nat) : Int) := by rw [show (k : Int) + 1 = ((k + 1 : Nat) : Int) by omega]; exact wrap_in (by omega)
      go_wp2_with fail
      refine (Side_kn squ v1 x y 0 W _ ((RW.out (v1, squ) (by simp)).below (below_one _ _)) squ_vh HV.out HS.out).mono ?_
      rintro e y14 ⟨rfl, b14⟩
      have b14 := chain (below_one wz _) b14
      have cw := keep1 b14 CW.out
      have RW2 := Lib.hid (RW.out.below b14)
      have WN2 := Lib.hid (WN.out.below b14)
      have E2 := Lib.hid (chain E.out b14)
      clear b14
      go_wp2
      go_roundw
      case rel => exact ⟨_, k + 1, rfl, by omega, rfl, RW2.out, WN2.out, E2.out⟩
      case measure => simp [intOf]; omega
    · obtain rfl : k = 3 := by omega
      clear WN hlt hk
      go_wp2_with fail
      refine (points_made [2,2] 1 (by rfl) (by decide) [(2,2,0)] (by rfl) _).mono ?_
      rintro e y13 ⟨v11, rfl, hr, b⟩
      have RW := Lib.hid (Rws.step RW.out b hr)
      have E := Lib.hid (chain E.out b)
      clear b hr
      obtain ⟨bv11, offv11, capv11, ev11, hbv11⟩ := rv_at (RW.out (v11, [(2, 2, 0)]) List.mem_cons_self) (show 0 < [((2 : Int), (2 : Int), (0 : Int))].length by decide)
      have ev11 : v11 = .slice (some ⟨bv11, offv11, none⟩) 1 capv11 := ev11
      subst ev11
      clear hbv11
      obtain ⟨c0, c1, c2⟩ := one_cells (RW.out (_, [(2, 2, 0)]) List.mem_cons_self)
      go_wp2_with fail
      refine (Side_kn lin v2 2 2 0 0 _ (RW.out (v2, lin) (by simp)) lin_vh (by decide) lin_side).mono ?_
      rintro e y14 ⟨rfl, b⟩
      have RW := Lib.hid (RW.out.below b)
      have E := Lib.hid (chain E.out b)
      clear b
      clear c0 c1 c2
      go_wp2_with fail
      refine (Area2_kn squ v1 8 _ (RW.out (v1, squ) (by simp)) squ_vh squ_area).mono ?_
      rintro e y15 ⟨rfl, b⟩
      have RW := Lib.hid (RW.out.below b)
      have E := Lib.hid (chain E.out b)
      clear b
      go_wp2_with fail
      refine (Diameter2_kn v1 _ (RW.out (v1, squ) (by simp))).mono ?_
      rintro e y16 ⟨rfl, b⟩
      have RW := Lib.hid (RW.out.below b)
      have E := Lib.hid (chain E.out b)
      clear b
      go_wp2_with fail
      refine (points_made [1,1] 1 (by rfl) (by decide) [(1,1,0)] (by rfl) _).mono ?_
      rintro e y17 ⟨v12, rfl, hr, b⟩
      have RW := Lib.hid (Rws.step RW.out b hr)
      have E := Lib.hid (chain E.out b)
      clear b hr
      obtain ⟨bv12, offv12, capv12, ev12, hbv12⟩ := rv_at (RW.out (v12, [(1, 1, 0)]) List.mem_cons_self) (show 0 < [((1 : Int), (1 : Int), (0 : Int))].length by decide)
      have ev12 : v12 = .slice (some ⟨bv12, offv12, none⟩) 1 capv12 := ev12
      subst ev12
      clear hbv12
      obtain ⟨c0, c1, c2⟩ := one_cells (RW.out (_, [(1, 1, 0)]) List.mem_cons_self)
      go_wp2_with fail
      refine (Extent_kn v1 _ (RW.out (v1, squ) (by simp))).mono ?_
      rintro e y18 ⟨rfl, b⟩
      have RW := Lib.hid (RW.out.below b)
      have E := Lib.hid (chain E.out b)
      clear b
      clear c0 c1 c2
      go_wp2_with fail
      refine (Merge_kn _ _ _ (RW.out (v1, squ) (by simp)) (RW.out (v2, lin) (by simp))).mono ?_
      rintro e y19 ⟨v13, rfl, hr, b⟩
      have RW := Lib.hid (Rws.step RW.out b hr)
      have E := Lib.hid (chain E.out b)
      clear b hr
      go_wp2_with fail
      refine (points_made [0,0,2,0,3,3,0,2] 4 (by rfl) (by decide) mrg (by rfl) _).mono ?_
      rintro e y20 ⟨v14, rfl, hr, b⟩
      have RW := Lib.hid (Rws.step RW.out b hr)
      have E := Lib.hid (chain E.out b)
      clear b hr
      go_wp2_with fail
      refine (Same_yes mrg _ _ _ (RW.out (v13, mrg) (by simp)) (RW.out (v14, mrg) (by simp))).mono ?_
      rintro e y21 ⟨rfl, b⟩
      have RW := Lib.hid (RW.out.below b)
      have E := Lib.hid (chain E.out b)
      clear b
      go_wp2_with fail
      refine (points_made [0,0,0,2,2,2] 3 (by rfl) (by decide) kn3 (by rfl) _).mono ?_
      rintro e y22 ⟨v15, rfl, hr, b⟩
      have RW := Lib.hid (Rws.step RW.out b hr)
      have E := Lib.hid (chain E.out b)
      clear b hr
      go_wp2_with fail
      refine (valid_no kn3 _ _ (RW.out (v15, kn3) List.mem_cons_self) kn3_no).mono ?_
      rintro e y23 ⟨rfl, b⟩
      have RW := Lib.hid (RW.out.below b)
      have E := Lib.hid (chain E.out b)
      clear b
      go_wp2
      go_ret
      exact ⟨rfl, E.out⟩
end Go.Proofs.Ytpkfngfenkcjoaa

/- Vectors that come in and go out. -/
set_option linter.all false
namespace Go.Proofs.Ytpkfngfenkcjoaa
open Go.ChangeShapes Go.WideShapes Go.ChangeAt Go.RowKit Go.Joins

theorem Try.own : ownKnob Try.prog.godebug = none := by kernel_rfl
theorem Try.cellsVec : Try.prog.cellsOf 24 = 3 := by kernel_rfl
def I3 (x y z : Int) : Prop := (Lit.int .i64 x).wf = true ∧ (Lit.int .i64 y).wf = true ∧ (Lit.int .i64 z).wf = true

set_option maxRecDepth 100000 in
/-- A vector that came in. -/
theorem open_vec {H : Type} {enc : TypeId × Value → H} {w : World} {base : Nat} {b0 : Nat} {spare : Nat → Bool} {held : Bool} {r : Reach} {v : Value} {d : DataW H} {p : List MemPlace}
    (hv : Value.okWide Try.prog w r b0 24 v) (h : DataW.Trod enc Try.prog w base spare held 24 v d p) :
    ∃ x y z : Int, v = vv x y z ∧ d = .agg [.lit (.int .i64 x), .lit (.int .i64 y), .lit (.int .i64 z)] ∧ p = [] ∧ I3 x y z := by
  obtain ⟨c0, c1, c2, y0, y1, y2, m, rfl, rfl, rfl, hy0, hy1, hy2⟩ := open_agg3 Try.underlying24 (by kernel_rfl) Try.cellsVec hv h
  obtain ⟨x, e0, rfl, w0⟩ := DataW.trod_int Try.underlying3 hy0
  obtain ⟨y, e1, rfl, w1⟩ := DataW.trod_int Try.underlying3 hy1
  obtain ⟨z, e2, rfl, w2⟩ := DataW.trod_int Try.underlying3 hy2
  simp at e0 e1 e2
  subst e0 e1 e2
  exact ⟨x, y, z, rfl, rfl, rfl, w0, w1, w2⟩
theorem shut_vec {H : Type} {enc : TypeId × Value → H} {w : World} {base : Nat} {spare : Nat → Bool} {held : Bool} {x y z : Int} (h : I3 x y z) :
    DataW.Trod enc Try.prog w base spare held 24 (vv x y z) (.agg [.lit (.int .i64 x), .lit (.int .i64 y), .lit (.int .i64 z)]) [] :=
  shut_agg3 (y0 := (.lit (.int .i64 x), [])) (y1 := (.lit (.int .i64 y), [])) (y2 := (.lit (.int .i64 z), [])) Try.underlying24 (by kernel_rfl) Try.cellsVec ⟨1, trod_int_mk 0 Try.underlying3 h.1⟩ ⟨1, trod_int_mk 0 Try.underlying3 h.2.1⟩ ⟨1, trod_int_mk 0 Try.underlying3 h.2.2⟩
theorem trodAll_5 {H : Type} {enc : TypeId × Value → H} {P : Program} {w : World} {base : Nat} {spare : Nat → Bool} {held : Bool} {t1 t2 t3 t4 t5 : TypeId} {args : Array Value} {ds : List (DataW H)} {ps : List MemPlace} (h : DataW.TrodAll enc P w base spare held [t1, t2, t3, t4, t5] args.toList ds ps) :
    ∃ v1 v2 v3 v4 v5 d1 d2 d3 d4 d5 p1 p2 p3 p4 p5, args = #[v1, v2, v3, v4, v5] ∧ ds = [d1, d2, d3, d4, d5] ∧ ps = p1 ++ (p2 ++ (p3 ++ (p4 ++ p5))) ∧ DataW.Trod enc P w base spare held t1 v1 d1 p1 ∧ DataW.Trod enc P w base spare held t2 v2 d2 p2 ∧ DataW.Trod enc P w base spare held t3 v3 d3 p3 ∧ DataW.Trod enc P w base spare held t4 v4 d4 p4 ∧ DataW.Trod enc P w base spare held t5 v5 d5 p5 := by
  obtain ⟨v1, vs1, d1, e1, p1, q1, hargs, rfl, rfl, h1, r1⟩ := trodAll_cons h
  obtain ⟨v2, vs2, d2, e2, p2, q2, rfl, rfl, rfl, h2, r2⟩ := trodAll_cons r1
  obtain ⟨v3, vs3, d3, e3, p3, q3, rfl, rfl, rfl, h3, r3⟩ := trodAll_cons r2
  obtain ⟨v4, vs4, d4, e4, p4, q4, rfl, rfl, rfl, h4, r4⟩ := trodAll_cons r3
  obtain ⟨v5, vs5, d5, e5, p5, q5, rfl, rfl, rfl, h5, r5⟩ := trodAll_cons r4
  obtain ⟨rfl, rfl, rfl⟩ := trodAll_nil r5
  exact ⟨v1, v2, v3, v4, v5, d1, d2, d3, d4, d5, p1, p2, p3, p4, p5, by cases args; simp_all, rfl, by simp, h1, h2, h3, h4, h5⟩
end Go.Proofs.Ytpkfngfenkcjoaa

/- A list of vectors that came in. -/
set_option linter.all false
namespace Go.Proofs.Ytpkfngfenkcjoaa
open Go.ChangeShapes Go.WideShapes Go.ChangeAt Go.RowKit Go.Joins Go.Deep

theorem Try.laidOut : laidOutB Try.prog = true := by kernel_rfl
theorem choose_lt6 {α : Type} [Inhabited α] {m : Nat} {P : Nat → α → Prop} (h : ∀ i, i < m → ∃ x, P i x) : ∃ f : Nat → α, ∀ i, i < m → P i (f i) :=
  ⟨fun i => if hi : i < m then (h i hi).choose else default, fun i hi => by show P i (dite _ _ _); rw [dif_pos hi]; exact (h i hi).choose_spec⟩
set_option maxRecDepth 100000 in
/-- The cells of a vector. -/
theorem vec_cells {H : Type} {enc : TypeId × Value → H} {w : World} {base : Nat} {spare : Nat → Bool} {held : Bool} {m : Nat} {cs : List Value} {x : DataW H × List MemPlace} (hf : DataW.trod enc Try.prog w base spare held m 24 cs = some x) :
    ∃ a : Int × Int × Int, cs[0]? = some (.int .i64 a.1) ∧ cs[1]? = some (.int .i64 a.2.1) ∧ cs[2]? = some (.int .i64 a.2.2) := by
  have hs := Try.underlying24
  obtain ⟨y0, y1, y2, n, -, hl, h0, h1, h2⟩ := trod_struct3 hs hf
  rw [Try.cellsVec] at hl
  match cs, hl with
  | [c0, c1, c2], _ =>
    have ci : Try.prog.cellsOf 3 = 1 := by kernel_rfl
    obtain ⟨x, e0, -, -⟩ := DataW.trod_int Try.underlying3 h0
    obtain ⟨y, e1, -, -⟩ := DataW.trod_int Try.underlying3 h1
    obtain ⟨z, e2, -, -⟩ := DataW.trod_int Try.underlying3 h2
    simp [ci] at e0 e1 e2
    subst e0 e1 e2
    exact ⟨(x, y, z), rfl, rfl, rfl⟩
set_option maxRecDepth 100000 in
theorem open_vecs {H : Type} {enc : TypeId × Value → H} {W : World} {b0 : Nat} {r : Reach} {v : Value} {d : DataW H} {p : List MemPlace}
    (hv : Value.okWide Try.prog W r b0 22 v) (h : DataW.Trod enc Try.prog W 0 (fun _ => true) true 22 v d p) :
    ∃ L : List (Int × Int × Int), Rv W v L := by
  have hu := Try.underlying22
  obtain ⟨a0, len0, cap0, rfl⟩ := okWide_slice hu hv
  obtain ⟨fuel, hf⟩ := h
  rcases open_slice hu hf with ⟨hcs, hx⟩ | ⟨a, len, cap, m, n, D, Pl, hcs, hb, hl, hm, hmm, hx, hall⟩
  · simp [Value.cells] at hcs
    obtain ⟨rfl, rfl, rfl⟩ := hcs
    exact ⟨[], none, 0, 0, 0, rfl, Nat.le_refl _, by decide, fun h => absurd h (by simp), fun k h => absurd h (by simp)⟩
  · simp [Value.cells] at hcs
    obtain ⟨rfl, rfl, rfl⟩ := hcs
    simp only [if_true] at hmm
    subst hmm
    have each : ∀ i, i < m → ∃ q : Int × Int × Int, W.cell? (a.add (i * 3)) = some (.int .i64 q.1) ∧ W.cell? ((a.add (i * 3)).add 1) = some (.int .i64 q.2.1) ∧ W.cell? ((a.add (i * 3)).add 2) = some (.int .i64 q.2.2) := by
      intro i hi
      obtain ⟨cs', h1, h2⟩ := hall i hi
      rw [Try.cellsVec] at h1
      obtain ⟨_, hlen, hcell⟩ := World.cells?_some h1
      obtain ⟨q, e0, e1, e2⟩ := vec_cells h2
      have g0 := hcell 0 (by omega)
      have g1 := hcell 1 (by omega)
      have g2 := hcell 2 (by omega)
      rw [e0] at g0
      rw [e1] at g1
      rw [e2] at g2
      refine ⟨q, ?_, g1, g2⟩
      rw [add_add, Nat.add_zero] at g0
      exact g0
    obtain ⟨f, hfq⟩ := choose_lt6 each
    rcases Nat.eq_zero_or_pos len0 with h0 | h0
    · subst h0
      exact ⟨[], some a, 0, 0, m, rfl, Nat.zero_le _, hm, fun h => absurd h (by simp), fun k h => absurd h (by simp)⟩
    · obtain ⟨ab, ao, spot⟩ := a
      have hspot : spot = none := by simpa [Addr.add] using World.cell?_spot (hfq 0 (by omega)).1
      subst hspot
      refine ⟨(List.range len0).map f, some ⟨ab, ao, none⟩, ab, ao, m, by simp, by simpa using hl, hm, fun _ => rfl, fun k hk => ?_⟩
      have hk2 : k < len0 := by simpa using hk
      obtain ⟨g0, g1, g2⟩ := hfq k (by omega)
      rw [List.getElem_map, List.getElem_range]
      rw [add_add] at g1 g2
      rw [add_plain] at g0 g1 g2
      exact ⟨g0, by simpa [Nat.add_assoc] using g1, by simpa [Nat.add_assoc] using g2⟩
end Go.Proofs.Ytpkfngfenkcjoaa

/- A list of vectors that came in: its shape. -/
set_option linter.all false
namespace Go.Proofs.Ytpkfngfenkcjoaa
open Go.ChangeShapes Go.WideShapes Go.ChangeAt Go.RowKit Go.Joins Go.Deep

set_option maxRecDepth 100000 in
theorem vecs_shape {H : Type} {enc : TypeId × Value → H} {W : World} {b0 : Nat} {r : Reach} {v : Value} {d : DataW H} {p : List MemPlace}
    (hv : Value.okWide Try.prog W r b0 22 v) (h : DataW.Trod enc Try.prog W 0 (fun _ => true) true 22 v d p) :
    v = .slice none 0 0 ∨ ∃ ad n c, v = .slice (some ad) n c := by
  have hu := Try.underlying22
  obtain ⟨a0, len0, cap0, rfl⟩ := okWide_slice hu hv
  obtain ⟨fuel, hf⟩ := h
  rcases open_slice hu hf with ⟨hcs, hx⟩ | ⟨a, len, cap, m, n, D, Pl, hcs, hb, hl, hm, hmm, hx, hall⟩
  · simp [Value.cells] at hcs
    obtain ⟨rfl, rfl, rfl⟩ := hcs
    exact .inl rfl
  · simp [Value.cells] at hcs
    obtain ⟨rfl, rfl, rfl⟩ := hcs
    exact .inr ⟨_, _, _, rfl⟩
theorem vecs_none {L : List (Int × Int × Int)} {w : World} {v : Value} (h : Rv w v L) (k : v = .slice none 0 0 ∨ ∃ ad n c, v = .slice (some ad) n c) : L = [] → v = .slice none 0 0 ∨ ∃ ad c, v = .slice (some ad) 0 c := by
  rintro rfl
  rcases k with k | ⟨ad, n, c, k⟩
  · exact .inl k
  · obtain ⟨p, b, off, cap, e, -⟩ := h
    rw [k] at e
    cases e
    exact .inr ⟨_, _, k⟩

end Go.Proofs.Ytpkfngfenkcjoaa

/- What all of hull's statements lean on. -/
set_option linter.all false
namespace Go.Proofs.Ytpkfngfenkcjoaa
end Go.Proofs.Ytpkfngfenkcjoaa
