/- What the theorem leans on, part 1: Psd, Hgi, Pse, Psf. -/
import Derived.Test.YtbhdejlikipahaaU0
import Derived.Test.YtbhdejlikipahaaZ9
import Derived.Laws.AppendOwn

/- The area is that of the triangles at the first corner. Plain facts. -/
set_option linter.all false
namespace Go.Proofs.Ytbhdejlikipahaa
open Go.RowKit

/-- The triangles at the first corner. -/
def rA (L : List T3) : Nat → Int
  | 0 => 0
  | k + 1 => rA L k + Hl.tn (fA L 0) (fA L (k + 1)) (fA L (k + 2))
theorem crs_flip (a b : T3) : crs a b + crs b a = 0 := by unfold crs; grind
theorem tn_crs (a b c : T3) : Hl.tn (pl a) (pl b) (pl c) = crs b c + crs c a - crs b a := by unfold crs Hl.tn pl; grind
theorem rA_step (L : List T3) : ∀ k, aS L (k + 1) + crs (gA L (k + 1)) (gA L 0) = rA L k
  | 0 => by
    have := crs_flip (gA L 0) (gA L 1)
    show 0 + crs (gA L 0) (gA L 1) + crs (gA L 1) (gA L 0) = 0
    omega
  | k + 1 => by
    have ih := rA_step L k
    have h := tn_crs (gA L 0) (gA L (k + 1)) (gA L (k + 2))
    rw [aS, rA]
    show _ + crs (gA L (k + 2)) (gA L 0) = rA L k + Hl.tn (pl (gA L 0)) (pl (gA L (k + 1))) (pl (gA L (k + 2)))
    rw [h]
    show aS L (k + 1) + crs (gA L (k + 1)) (gA L (k + 2)) + _ = _
    omega
theorem gA_round (L : List T3) : gA L L.length = gA L 0 := by rw [← gA_mod L L.length, Nat.mod_self]
/-- Twice the area. -/
theorem aS_rA {L : List T3} (hp : 0 < L.length) : aS L L.length = rA L (L.length - 2) := by
  rcases (by omega : L.length = 1 ∨ 2 ≤ L.length) with e | e
  · rw [e]
    have := crs_flip (gA L 0) (gA L 0)
    have g1 : gA L 1 = gA L 0 := by have := gA_round L; rwa [e] at this
    show 0 + crs (gA L 0) (gA L 1) = 0
    rw [g1]; omega
  · obtain ⟨m, hm⟩ : ∃ m, L.length = m + 2 := ⟨L.length - 2, by omega⟩
    have h := rA_step L m
    have g := gA_round L
    rw [hm] at g ⊢
    show aS L (m + 1) + crs (gA L (m + 1)) (gA L (m + 2)) = rA L m
    rw [g]
    exact h
theorem rA_pos {L : List T3} (hv : VH L) (h3 : 3 ≤ L.length) : ∀ k, k + 2 ≤ L.length → 0 ≤ rA L k ∧ (0 < k → 0 < rA L k)
  | 0, _ => ⟨by simp [rA], fun h => by omega⟩
  | k + 1, hk => by
    obtain ⟨h1, _⟩ := rA_pos hv h3 k (by omega)
    have e : (k + 1 + 1) % L.length = k + 2 := Nat.mod_eq_of_lt (by omega)
    have h := edge_pos hv h3 (k := k + 1) (j := 0) (by omega) (by omega) (by omega) (by omega)
    rw [rA]
    rw [← Hl.tn_rot]
    have : 0 < Hl.tn (fA L (k + 1)) (fA L (k + 2)) (fA L 0) := h
    omega
/-- There is an area just if there are three corners. -/
theorem area_pos {L : List T3} (hv : VH L) : 0 < aS L L.length ↔ 2 < L.length := by
  rw [aS_rA hv.1]
  constructor
  · intro h
    apply Classical.byContradiction
    intro hn
    rw [show L.length - 2 = 0 by omega] at h
    exact absurd h (by simp [rA])
  · intro h
    exact (rA_pos hv (by omega) (L.length - 2) (by omega)).2 (by omega)
end Go.Proofs.Ytbhdejlikipahaa

/- Hulls of parts, and of two lists together. Plain facts. -/
set_option linter.all false
namespace Go.Proofs.Ytbhdejlikipahaa.Hl

/-- The hull of fewer points that has all corners among them. -/
theorem IsH.mono {S T h : List P2} (H : IsH S h) (h1 : ∀ q ∈ T, q ∈ S) (h2 : ∀ q ∈ h, q ∈ T) : IsH T h where
  sub := h2
  pos := H.pos
  first := fun p hp => H.first p (h1 p hp)
  one := fun e p hp => H.one e p (h1 p hp)
  two := fun e p hp => H.two e p (h1 p hp)
  ne2 := H.ne2
  left := fun e p hp => H.left e p (h1 p hp)
  last := fun e p hp => H.last e p (h1 p hp)
  turn := H.turn
  turn0 := H.turn0
theorem IsH.self {S h : List P2} (H : IsH S h) : IsH h h := H.mono H.sub (fun _ h => h)
/-- What is nowhere negative at the corners is nowhere negative. -/
theorem IsH.nonneg {S h : List P2} (H : IsH S h) {f : P2 → Int} (hf : Aff f) (h0 : ∀ q ∈ h, 0 ≤ f q) : ∀ p ∈ S, 0 ≤ f p := by
  intro p hp
  by_cases hm : p ∈ h
  · exact h0 p hm
  · have G : IsH (p :: h) h := H.mono (fun q hq => by rcases List.mem_cons.1 hq with rfl | k; exact hp; exact H.sub q k) (fun q hq => List.mem_cons_of_mem _ hq)
    obtain ⟨a, ha, b, hb, c, hc, n1, n2, n3, ht⟩ := G.other List.mem_cons_self hm
    have ha := (List.mem_cons.1 ha).resolve_left n1
    have hb := (List.mem_cons.1 hb).resolve_left n2
    have hc := (List.mem_cons.1 hc).resolve_left n3
    apply Classical.byContradiction
    intro hn
    obtain ⟨A, B, C, hA⟩ := hf
    have e0 := hA p
    have e1 := hA a
    have e2 := hA b
    have e3 := hA c
    have k1 := h0 a ha
    have k2 := h0 b hb
    have k3 := h0 c hc
    exact aff_in (A := A) (B := B) (C := C - f p) (by omega) (by omega) (by omega) (by omega) ht
theorem aff_neg {f : P2 → Int} (h : Aff f) : Aff (fun p => - f p) := by
  obtain ⟨A, B, C, hA⟩ := h
  exact ⟨-A, -B, -C, fun p => by show -f p = _; rw [hA]; grind⟩
theorem aff_fst (c : Int) : Aff (fun p => p.1 - c) := ⟨1, 0, -c, fun p => by simp; omega⟩
theorem aff_snd (c : Int) : Aff (fun p => p.2 - c) := ⟨0, 1, -c, fun p => by simp; omega⟩
theorem IsH.zero {S h : List P2} (H : IsH S h) {f : P2 → Int} (hf : Aff f) (h0 : ∀ q ∈ h, f q = 0) : ∀ p ∈ S, f p = 0 := by
  intro p hp
  have h1 := H.nonneg hf (fun q hq => by rw [h0 q hq]; omega) p hp
  have h2 := H.nonneg (aff_neg hf) (fun q hq => by rw [h0 q hq]; omega) p hp
  omega
theorem IsH.le1 {S h : List P2} (H : IsH S h) {c : Int} (h0 : ∀ q ∈ h, c ≤ q.1) : ∀ p ∈ S, c ≤ p.1 := fun p hp => by
  have := H.nonneg (aff_fst c) (fun q hq => by have := h0 q hq; omega) p hp; omega
theorem IsH.ge1 {S h : List P2} (H : IsH S h) {c : Int} (h0 : ∀ q ∈ h, q.1 ≤ c) : ∀ p ∈ S, p.1 ≤ c := fun p hp => by
  have := H.nonneg (aff_neg (aff_fst c)) (fun q hq => by have := h0 q hq; omega) p hp; omega
theorem IsH.le2 {S h : List P2} (H : IsH S h) {c : Int} (h0 : ∀ q ∈ h, c ≤ q.2) : ∀ p ∈ S, c ≤ p.2 := fun p hp => by
  have := H.nonneg (aff_snd c) (fun q hq => by have := h0 q hq; omega) p hp; omega
theorem IsH.ge2 {S h : List P2} (H : IsH S h) {c : Int} (h0 : ∀ q ∈ h, q.2 ≤ c) : ∀ p ∈ S, p.2 ≤ c := fun p hp => by
  have := H.nonneg (aff_neg (aff_snd c)) (fun q hq => by have := h0 q hq; omega) p hp; omega
/-- All points, not the corners alone. -/
theorem IsH.grow {S h T g : List P2} (H : IsH S h) (G : IsH T g) (hT : ∀ q ∈ h, q ∈ T) (p : P2) (hp : p ∈ S) :
    (p = g[0]'G.pos ∨ lt (g[0]'G.pos) p) ∧ (g.length = 1 → p = g[0]'G.pos) ∧ (∀ e : g.length = 2, on g[0] g[1] p) ∧ (3 ≤ g.length → ∀ i (hi : i + 1 < g.length), 0 ≤ tn g[i] g[i + 1] p) ∧ (3 ≤ g.length → 0 ≤ tn (g[g.length - 1]'(by have := G.pos; omega)) (g[0]'G.pos) p) := by
  refine ⟨?_, fun e => ?_, fun e => ?_, fun e i hi => ?_, fun e => ?_⟩
  · have k := G.first (h[0]'H.pos) (hT _ (List.getElem_mem H.pos))
    rcases H.first p hp with e | e
    · rw [e]; exact k
    · rcases k with k | k
      · rw [← k]; exact .inr e
      · exact .inr (lt_trans k e)
  · have a1 := H.zero (aff_fst (g[0]'G.pos).1) (fun q hq => by rw [G.one e q (hT q hq)]; omega) p hp
    have a2 := H.zero (aff_snd (g[0]'G.pos).2) (fun q hq => by rw [G.one e q (hT q hq)]; omega) p hp
    exact ext2 (by omega) (by omega)
  · exact ⟨H.zero (aff_tn _ _) (fun q hq => (G.two e q (hT q hq)).1) p hp, H.le1 (fun q hq => (G.two e q (hT q hq)).2.1) p hp, H.ge1 (fun q hq => (G.two e q (hT q hq)).2.2.1) p hp, H.le2 (fun q hq => (G.two e q (hT q hq)).2.2.2.1) p hp, H.ge2 (fun q hq => (G.two e q (hT q hq)).2.2.2.2) p hp⟩
  · exact H.nonneg (aff_tn _ _) (fun q hq => G.left e q (hT q hq) i hi) p hp
  · exact H.nonneg (aff_tn _ _) (fun q hq => G.last e q (hT q hq)) p hp
/-- The hull of two hulls is the hull of all points. -/
theorem IsH.union {S T h i g : List P2} (H : IsH S h) (I : IsH T i) (G : IsH (h ++ i) g) : IsH (S ++ T) g := by
  have a := fun p (hp : p ∈ S) => H.grow G (fun q hq => List.mem_append.2 (.inl hq)) p hp
  have b := fun p (hp : p ∈ T) => I.grow G (fun q hq => List.mem_append.2 (.inr hq)) p hp
  have c : ∀ p ∈ S ++ T, (p = g[0]'G.pos ∨ lt (g[0]'G.pos) p) ∧ (g.length = 1 → p = g[0]'G.pos) ∧ (∀ e : g.length = 2, on g[0] g[1] p) ∧ (3 ≤ g.length → ∀ i (hi : i + 1 < g.length), 0 ≤ tn g[i] g[i + 1] p) ∧ (3 ≤ g.length → 0 ≤ tn (g[g.length - 1]'(by have := G.pos; omega)) (g[0]'G.pos) p) := by
    intro p hp
    rcases List.mem_append.1 hp with hp | hp
    · exact a p hp
    · exact b p hp
  refine ⟨fun p hp => ?_, G.pos, fun p hp => (c p hp).1, fun e p hp => (c p hp).2.1 e, fun e p hp => (c p hp).2.2.1 e, G.ne2, fun e p hp j hj => (c p hp).2.2.2.1 e j hj, fun e p hp => (c p hp).2.2.2.2 e, G.turn, G.turn0⟩
  rcases List.mem_append.1 (G.sub p hp) with k | k
  · exact List.mem_append.2 (.inl (H.sub p k))
  · exact List.mem_append.2 (.inr (I.sub p k))
end Go.Proofs.Ytbhdejlikipahaa.Hl

/- What HullHolds asks of a hull. Plain facts. -/
set_option linter.all false
namespace Go.Proofs.Ytbhdejlikipahaa
open Go.RowKit Go.Sort Go.Lib

theorem FF_len (L : List T3) : (FF L).length ≤ L.length := by
  unfold FF compactUpTo
  rw [List.length_map]
  refine Nat.le_trans (List.length_filter_le _ _) ?_
  rw [List.length_range, ms_length, List.length_map]
  exact Nat.le_refl _
theorem corners_len (L : List T3) : (cornersT t3 L).length ≤ 2 * L.length := by
  have h := FF_len L
  unfold cornersT
  split
  · omega
  · rw [List.length_append, List.length_dropLast, List.length_dropLast, List.length_reverse, List.length_reverse]
    have h1 := chT_len t3 (FF L)
    have h2 := chT_len t3 (FF L).reverse
    rw [List.length_reverse] at h2
    omega
/-- The hull of some points: a hull. -/
theorem hull_vh {L : List T3} {H : List Hl.P2} (hC : cornersT t3 L = fl H) (hH : Hl.IsH (L.map pl) H) (hl : L.length ≤ 1000) (hv : inL 1048576 L = true) : VH (fl H) ∧ (fl H).length ≤ 2000 := by
  have hlen : (fl H).length ≤ 2000 := by rw [← hC]; have := corners_len L; omega
  refine ⟨isH_vh rfl hH.self (by omega) ?_, hlen⟩
  unfold inL
  rw [List.all_eq_true]
  intro a ha
  obtain ⟨q, hq, rfl⟩ := List.mem_map.1 ha
  obtain ⟨b, hb, e⟩ := List.mem_map.1 (hH.sub q hq)
  have := inV_iff.1 (inL_mem hv b hb)
  subst e
  exact inV_iff.2 ⟨by show _ ≤ b.1 ∧ b.1 ≤ _; omega, by show _ ≤ b.2.1 ∧ b.2.1 ≤ _; omega, by show _ ≤ (0 : Int) ∧ (0 : Int) ≤ _; omega⟩
theorem corners_is {L : List T3} {H : List Hl.P2} (hp : 0 < L.length) (hH : Hl.IsH (L.map pl) H) : cornersT t3 L = fl H := by
  obtain ⟨G, hG, hI⟩ := corners_hull L hp
  rw [hG, hI.unique hH]
theorem fl_pos {H : List Hl.P2} (h : VH (fl H)) : 0 < (fl H).length := h.1
/-- A point is nowhere outside of the hull. -/
theorem side_nonneg {L M : List T3} {H : List Hl.P2} (hM : M = fl H) (hH : Hl.IsH (L.map pl) H) (hv : VH M) {p : T3} (hp : p ∈ L) : 0 ≤ sideV M p := by
  have hpl : pl p ∈ L.map pl := List.mem_map_of_mem hp
  have hMl : M.length = H.length := by rw [hM, fl_length]
  have hat : ∀ k (hk : k < H.length), fA M k = H[k] := by
    intro k hk
    unfold fA
    rw [← gA_at (by omega : k < M.length)]
    subst hM
    rw [fl_get H k hk]
    rfl
  have ho : ∀ k, Hl.on (fA M 0) (fA M k) (pl p) → pl (p.1, p.2.1, (0 : Int)) = pl p := fun _ _ => rfl
  unfold sideV
  split
  · next h2 =>
    have hz : ∀ k, (gA M k).2.2 = 0 := by
      intro k
      have hk := Nat.mod_lt k hv.1
      rw [← gA_nx hk]
      exact hv.2.2.2.1 _ (List.getElem_mem hk)
    have h1 := hv.1
    rcases (by omega : M.length = 1 ∨ M.length = 2) with e | e
    · rw [e]
      rw [sol_on (hz 0) (hz 0) rfl (.inr rfl), if_pos]
      · omega
      · have := hH.one (by omega) _ hpl
        show Hl.on (fA M 0) (fA M 0) (pl p)
        rw [hat 0 (by omega), this]
        exact ⟨Hl.tn_aba _ _, by omega, by omega, by omega, by omega⟩
    · rw [e]
      have hlt : L3 (gA M 0) (gA M 1) := by
        have := (c3_neg _ _).1 (hv.2.2.2.2.1 1 (by omega) (by omega))
        rwa [gA_at (by omega), gA_at (by omega)] at this
      rw [sol_on (hz 0) (hz 1) rfl (.inl hlt), if_pos]
      · omega
      · have := hH.two (by omega) _ hpl
        show Hl.on (fA M 0) (fA M 1) (pl p)
        rw [hat 0 (by omega), hat 1 (by omega)]
        exact this
  · next h2 =>
    have h3 : 3 ≤ H.length := by omega
    rcases sS_mem M (p.1, p.2.1, 0) M.length with h | ⟨j, hj, h⟩
    · rw [h]; omega
    · rw [h, t3_tn]
      have hge : 0 ≤ Hl.tn (fA M j) (fA M (j + 1)) (pl p) := by
        rcases Nat.lt_or_ge (j + 1) H.length with g | g
        · rw [hat j (by omega), hat (j + 1) g]
          exact hH.left h3 _ hpl j g
        · have e : j = H.length - 1 := by omega
          have : fA M (j + 1) = fA M 0 := by unfold fA; rw [show j + 1 = M.length by omega, gA_round]
          rw [this, hat j (by omega), hat 0 (by omega)]
          have := hH.last h3 _ hpl
          simp only [e]
          exact this
      have hge2 : 0 ≤ Hl.tn (pl (gA M j)) (pl (gA M (j + 1))) (pl (p.1, p.2.1, (0 : Int))) := hge
      rcases cmpI_cases (Hl.tn (pl (gA M j)) (pl (gA M (j + 1))) (pl (p.1, p.2.1, (0 : Int)))) with ⟨a, b⟩ | ⟨a, b⟩ | ⟨a, b⟩ <;> omega
/-- Extents of opposite directions. -/
theorem eD_bd {d a : T3} (hd : inV 16777216 d.1 d.2.1 d.2.2 = true) (ha : inV 1048576 a.1 a.2.1 a.2.2 = true) : -70368744177664 ≤ eD d a ∧ eD d a ≤ 70368744177664 := by
  obtain ⟨a1, a2, a3⟩ := bv_of hd
  obtain ⟨b1, b2, b3⟩ := bv_of ha
  have c1 := mul_bd a1 b1
  have c2 := mul_bd a2 b2
  have c3 := mul_bd a3 b3
  unfold eD dt
  omega
theorem ext_opp {L : List T3} {d d' : T3} (hv : inL 1048576 L = true) (hp : 0 < L.length) (hd : inV 16777216 d.1 d.2.1 d.2.2 = true) (h1 : d'.1 = -d.1) (h2 : d'.2.1 = -d.2.1) (h3 : d'.2.2 = -d.2.2) :
    ∀ k, eLo L d (k + 1) = -eHi L d' (k + 1) ∧ eHi L d (k + 1) = -eLo L d' (k + 1) ∧ eLo L d (k + 1) ≤ eHi L d (k + 1) ∧ (-70368744177664 ≤ eLo L d (k + 1) ∧ eHi L d (k + 1) ≤ 70368744177664) := by
  have hn : ∀ k, eD d' (gA L k) = -eD d (gA L k) := by
    intro k
    unfold eD dt
    rw [h1, h2, h3]
    grind
  intro k
  induction k with
  | zero =>
    have h := hn 0
    have b := eD_bd hd (gA_in hv hp 0)
    simp only [eLo, eHi]
    omega
  | succ k ih =>
    have h := hn (k + 1)
    have b := eD_bd hd (gA_in hv hp (k + 1))
    have u1 : eLo L d (k + 1 + 1) = min (eLo L d (k + 1)) (eD d (gA L (k + 1))) := rfl
    have u2 : eHi L d (k + 1 + 1) = max (eHi L d (k + 1)) (eD d (gA L (k + 1))) := rfl
    have u3 : eLo L d' (k + 1 + 1) = min (eLo L d' (k + 1)) (eD d' (gA L (k + 1))) := rfl
    have u4 : eHi L d' (k + 1 + 1) = max (eHi L d' (k + 1)) (eD d' (gA L (k + 1))) := rfl
    rw [u1, u2, u3, u4]
    clear u1 u2 u3 u4
    generalize eLo L d (k + 1) = a1 at *
    generalize eHi L d (k + 1) = a2 at *
    generalize eLo L d' (k + 1) = a3 at *
    generalize eHi L d' (k + 1) = a4 at *
    omega
end Go.Proofs.Ytbhdejlikipahaa

/- HullHolds: the walk over what its calls give. -/
set_option linter.all false
namespace Go.Proofs.Ytbhdejlikipahaa
open Go.RowKit

theorem Points_kn (L : List T3) (v : Value) (r : Bool) (w : World) (h : Rv w v L) (hr : inL 1048576 L = r) : Calls Try.prog 12 #[v] w (Ret (.bool r) w) := by
  have := Points_any L v w h
  rwa [hr] at this
theorem rValid_kn (p1 p2 p3 : Int) (r : Bool) (w : World) (h : inV 16777216 p1 p2 p3 = r) : Calls Try.prog 24 #[vv p1 p2 p3] w (Ret (.bool r) w) := by
  have := rValid_any p1 p2 p3 w
  rwa [h] at this

set_option maxRecDepth 100000 in
set_option maxHeartbeats 8000000 in
theorem holds_0 (L M : List T3) (v u : Value) (d1 d2 d3 : Int) (w : World) (ha : Rv w v L) (hb : Rv w u M) (h0 : 20 < L.length) :
    Calls Try.prog 8 #[v, u, vv d1 d2 d3] w (Ret (.bool true) w) := by
  have RW : Hid (Rws w [(v, L), (u, M)]) := fun q hq => by simp at hq; rcases hq with rfl | rfl; exact ha; exact hb
  obtain ⟨pa, ba, offa, capa, rfl, -⟩ := id ha
  obtain ⟨pb, bb, offb, capb, rfl, -⟩ := id hb
  clear ha hb
  obtain ⟨n, hn⟩ : ∃ n, n = L.length := ⟨_, rfl⟩
  rw [← hn] at RW ⊢
  have a0 : (20 : Int) < (n : Int) := by omega
  clear hn
  obtain ⟨m, hm⟩ : ∃ m, m = M.length := ⟨_, rfl⟩
  rw [← hm] at RW ⊢
  clear hm
  clear h0
  go_enter Try.func8, Try.ntmps8
  go_upto_region 1 with (fail)
  obtain ⟨u0, hu⟩ : ∃ u0 : World, u0 = w.alloc (.cells #[.int .i64 d1, .int .i64 d2, .int .i64 d3] 31) := ⟨_, rfl⟩
  have VP : Hid (V3 u0 w.heap.size d1 d2 d3) := by rw [hu]; exact (vf_made _ _ _ _).1
  have E : Hid (Below w.heap.size w u0) := by rw [hu]; exact below_one w _
  have RW := Lib.hid (RW.out.below E.out)
  obtain ⟨gp, hg⟩ : ∃ g, g = w.heap.size := ⟨_, rfl⟩
  rw [← hg] at VP
  rw [← hu, ← hg]
  clear hu hg
  obtain ⟨e0, e1, e2⟩ := VP.out
  go_wp2_with fail
  refine (known_true _).mono ?_
  rintro e y1 ⟨rfl, b⟩
  have RW := Lib.hid (RW.out.below b)
  have VP := Lib.hid (VP.out.below b)
  have E := Lib.hid (chain E.out b)
  clear b e0 e1 e2
  obtain ⟨e0, e1, e2⟩ := VP.out
  go_wp2
  go_ret
  exact ⟨rfl, E.out⟩

set_option maxRecDepth 100000 in
set_option maxHeartbeats 8000000 in
theorem holds_1 (L M : List T3) (v u : Value) (d1 d2 d3 : Int) (w : World) (ha : Rv w v L) (hb : Rv w u M) (h0 : ¬ 20 < L.length) (h1 : 20 < M.length) :
    Calls Try.prog 8 #[v, u, vv d1 d2 d3] w (Ret (.bool true) w) := by
  have RW : Hid (Rws w [(v, L), (u, M)]) := fun q hq => by simp at hq; rcases hq with rfl | rfl; exact ha; exact hb
  obtain ⟨pa, ba, offa, capa, rfl, -⟩ := id ha
  obtain ⟨pb, bb, offb, capb, rfl, -⟩ := id hb
  clear ha hb
  obtain ⟨n, hn⟩ : ∃ n, n = L.length := ⟨_, rfl⟩
  rw [← hn] at RW ⊢
  have a0 : ¬ (20 : Int) < (n : Int) := by omega
  clear hn
  obtain ⟨m, hm⟩ : ∃ m, m = M.length := ⟨_, rfl⟩
  rw [← hm] at RW ⊢
  have a1 : (20 : Int) < (m : Int) := by omega
  clear hm
  clear h0 h1
  go_enter Try.func8, Try.ntmps8
  go_upto_region 1 with (fail)
  obtain ⟨u0, hu⟩ : ∃ u0 : World, u0 = w.alloc (.cells #[.int .i64 d1, .int .i64 d2, .int .i64 d3] 31) := ⟨_, rfl⟩
  have VP : Hid (V3 u0 w.heap.size d1 d2 d3) := by rw [hu]; exact (vf_made _ _ _ _).1
  have E : Hid (Below w.heap.size w u0) := by rw [hu]; exact below_one w _
  have RW := Lib.hid (RW.out.below E.out)
  obtain ⟨gp, hg⟩ : ∃ g, g = w.heap.size := ⟨_, rfl⟩
  rw [← hg] at VP
  rw [← hu, ← hg]
  clear hu hg
  obtain ⟨e0, e1, e2⟩ := VP.out
  go_wp2_with fail
  refine (known_true _).mono ?_
  rintro e y1 ⟨rfl, b⟩
  have RW := Lib.hid (RW.out.below b)
  have VP := Lib.hid (VP.out.below b)
  have E := Lib.hid (chain E.out b)
  clear b e0 e1 e2
  obtain ⟨e0, e1, e2⟩ := VP.out
  go_wp2
  go_ret
  exact ⟨rfl, E.out⟩

set_option maxRecDepth 100000 in
set_option maxHeartbeats 8000000 in
theorem holds_2 (L M : List T3) (v u : Value) (d1 d2 d3 : Int) (w : World) (ha : Rv w v L) (hb : Rv w u M) (h0 : ¬ 20 < L.length) (h1 : ¬ 20 < M.length) (h2 : L.length = 0) :
    Calls Try.prog 8 #[v, u, vv d1 d2 d3] w (Ret (.bool true) w) := by
  have RW : Hid (Rws w [(v, L), (u, M)]) := fun q hq => by simp at hq; rcases hq with rfl | rfl; exact ha; exact hb
  obtain rfl := List.eq_nil_of_length_eq_zero h2
  obtain ⟨pa, ba, offa, capa, rfl, -⟩ := id ha
  obtain ⟨pb, bb, offb, capb, rfl, -⟩ := id hb
  clear ha hb
  rw [show ([] : List T3).length = 0 from rfl] at RW ⊢
  obtain ⟨m, hm⟩ : ∃ m, m = M.length := ⟨_, rfl⟩
  rw [← hm] at RW ⊢
  have a1 : ¬ (20 : Int) < (m : Int) := by omega
  clear hm
  clear h0 h1
  go_enter Try.func8, Try.ntmps8
  go_upto_region 1 with (fail)
  obtain ⟨u0, hu⟩ : ∃ u0 : World, u0 = w.alloc (.cells #[.int .i64 d1, .int .i64 d2, .int .i64 d3] 31) := ⟨_, rfl⟩
  have VP : Hid (V3 u0 w.heap.size d1 d2 d3) := by rw [hu]; exact (vf_made _ _ _ _).1
  have E : Hid (Below w.heap.size w u0) := by rw [hu]; exact below_one w _
  have RW := Lib.hid (RW.out.below E.out)
  obtain ⟨gp, hg⟩ : ∃ g, g = w.heap.size := ⟨_, rfl⟩
  rw [← hg] at VP
  rw [← hu, ← hg]
  clear hu hg
  obtain ⟨e0, e1, e2⟩ := VP.out
  go_wp2_with fail
  refine (known_true _).mono ?_
  rintro e y1 ⟨rfl, b⟩
  have RW := Lib.hid (RW.out.below b)
  have VP := Lib.hid (VP.out.below b)
  have E := Lib.hid (chain E.out b)
  clear b e0 e1 e2
  obtain ⟨e0, e1, e2⟩ := VP.out
  go_wp2
  go_ret
  exact ⟨rfl, E.out⟩

set_option maxRecDepth 100000 in
set_option maxHeartbeats 8000000 in
theorem holds_3 (L M : List T3) (v u : Value) (d1 d2 d3 : Int) (w : World) (ha : Rv w v L) (hb : Rv w u M) (h0 : ¬ 20 < L.length) (h1 : ¬ 20 < M.length) (h2 : ¬ L.length = 0) (h3 : M.length = 0) :
    Calls Try.prog 8 #[v, u, vv d1 d2 d3] w (Ret (.bool true) w) := by
  have RW : Hid (Rws w [(v, L), (u, M)]) := fun q hq => by simp at hq; rcases hq with rfl | rfl; exact ha; exact hb
  obtain rfl := List.eq_nil_of_length_eq_zero h3
  obtain ⟨pa, ba, offa, capa, rfl, -⟩ := id ha
  obtain ⟨pb, bb, offb, capb, rfl, -⟩ := id hb
  clear ha hb
  obtain ⟨n, hn⟩ : ∃ n, n = L.length := ⟨_, rfl⟩
  rw [← hn] at RW ⊢
  have a0 : ¬ (20 : Int) < (n : Int) := by omega
  have a2 : ¬ (n : Int) = 0 := by omega
  clear hn
  rw [show ([] : List T3).length = 0 from rfl] at RW ⊢
  clear h0 h1 h2
  go_enter Try.func8, Try.ntmps8
  go_upto_region 1 with (fail)
  obtain ⟨u0, hu⟩ : ∃ u0 : World, u0 = w.alloc (.cells #[.int .i64 d1, .int .i64 d2, .int .i64 d3] 31) := ⟨_, rfl⟩
  have VP : Hid (V3 u0 w.heap.size d1 d2 d3) := by rw [hu]; exact (vf_made _ _ _ _).1
  have E : Hid (Below w.heap.size w u0) := by rw [hu]; exact below_one w _
  have RW := Lib.hid (RW.out.below E.out)
  obtain ⟨gp, hg⟩ : ∃ g, g = w.heap.size := ⟨_, rfl⟩
  rw [← hg] at VP
  rw [← hu, ← hg]
  clear hu hg
  obtain ⟨e0, e1, e2⟩ := VP.out
  go_wp2_with fail
  refine (known_true _).mono ?_
  rintro e y1 ⟨rfl, b⟩
  have RW := Lib.hid (RW.out.below b)
  have VP := Lib.hid (VP.out.below b)
  have E := Lib.hid (chain E.out b)
  clear b e0 e1 e2
  obtain ⟨e0, e1, e2⟩ := VP.out
  go_wp2
  go_ret
  exact ⟨rfl, E.out⟩

set_option maxRecDepth 100000 in
set_option maxHeartbeats 8000000 in
theorem holds_4 (L M : List T3) (v u : Value) (d1 d2 d3 : Int) (w : World) (ha : Rv w v L) (hb : Rv w u M) (h0 : ¬ 20 < L.length) (h1 : ¬ 20 < M.length) (h2 : ¬ L.length = 0) (h3 : ¬ M.length = 0) (h4 : inL 1048576 L = false) :
    Calls Try.prog 8 #[v, u, vv d1 d2 d3] w (Ret (.bool true) w) := by
  have RW : Hid (Rws w [(v, L), (u, M)]) := fun q hq => by simp at hq; rcases hq with rfl | rfl; exact ha; exact hb
  obtain ⟨pa, ba, offa, capa, rfl, -⟩ := id ha
  obtain ⟨pb, bb, offb, capb, rfl, -⟩ := id hb
  clear ha hb
  have H4 := Lib.hid h4
  obtain ⟨n, hn⟩ : ∃ n, n = L.length := ⟨_, rfl⟩
  rw [← hn] at RW ⊢
  have a0 : ¬ (20 : Int) < (n : Int) := by omega
  have a2 : ¬ (n : Int) = 0 := by omega
  clear hn
  obtain ⟨m, hm⟩ : ∃ m, m = M.length := ⟨_, rfl⟩
  rw [← hm] at RW ⊢
  have a1 : ¬ (20 : Int) < (m : Int) := by omega
  have a3 : ¬ (m : Int) = 0 := by omega
  clear hm
  clear h0 h1 h2 h3 h4
  go_enter Try.func8, Try.ntmps8
  go_upto_region 1 with (fail)
  obtain ⟨u0, hu⟩ : ∃ u0 : World, u0 = w.alloc (.cells #[.int .i64 d1, .int .i64 d2, .int .i64 d3] 31) := ⟨_, rfl⟩
  have VP : Hid (V3 u0 w.heap.size d1 d2 d3) := by rw [hu]; exact (vf_made _ _ _ _).1
  have E : Hid (Below w.heap.size w u0) := by rw [hu]; exact below_one w _
  have RW := Lib.hid (RW.out.below E.out)
  obtain ⟨gp, hg⟩ : ∃ g, g = w.heap.size := ⟨_, rfl⟩
  rw [← hg] at VP
  rw [← hu, ← hg]
  clear hu hg
  obtain ⟨e0, e1, e2⟩ := VP.out
  go_wp2_with fail
  refine (Points_kn L _ false _ (RW.out (_, L) List.mem_cons_self) H4.out).mono ?_
  rintro e y1 ⟨rfl, b⟩
  have RW := Lib.hid (RW.out.below b)
  have VP := Lib.hid (VP.out.below b)
  have E := Lib.hid (chain E.out b)
  clear b e0 e1 e2
  obtain ⟨e0, e1, e2⟩ := VP.out
  go_wp2_with fail
  refine (known_true _).mono ?_
  rintro e y2 ⟨rfl, b⟩
  have RW := Lib.hid (RW.out.below b)
  have VP := Lib.hid (VP.out.below b)
  have E := Lib.hid (chain E.out b)
  clear b e0 e1 e2
  obtain ⟨e0, e1, e2⟩ := VP.out
  go_wp2
  go_ret
  exact ⟨rfl, E.out⟩

set_option maxRecDepth 100000 in
set_option maxHeartbeats 8000000 in
theorem holds_5 (L M : List T3) (v u : Value) (d1 d2 d3 : Int) (w : World) (ha : Rv w v L) (hb : Rv w u M) (h0 : ¬ 20 < L.length) (h1 : ¬ 20 < M.length) (h2 : ¬ L.length = 0) (h3 : ¬ M.length = 0) (h4 : inL 1048576 L = true) (h5 : inL 1048576 M = false) :
    Calls Try.prog 8 #[v, u, vv d1 d2 d3] w (Ret (.bool true) w) := by
  have RW : Hid (Rws w [(v, L), (u, M)]) := fun q hq => by simp at hq; rcases hq with rfl | rfl; exact ha; exact hb
  obtain ⟨pa, ba, offa, capa, rfl, -⟩ := id ha
  obtain ⟨pb, bb, offb, capb, rfl, -⟩ := id hb
  clear ha hb
  have H4 := Lib.hid h4
  have H5 := Lib.hid h5
  obtain ⟨n, hn⟩ : ∃ n, n = L.length := ⟨_, rfl⟩
  rw [← hn] at RW ⊢
  have a0 : ¬ (20 : Int) < (n : Int) := by omega
  have a2 : ¬ (n : Int) = 0 := by omega
  clear hn
  obtain ⟨m, hm⟩ : ∃ m, m = M.length := ⟨_, rfl⟩
  rw [← hm] at RW ⊢
  have a1 : ¬ (20 : Int) < (m : Int) := by omega
  have a3 : ¬ (m : Int) = 0 := by omega
  clear hm
  clear h0 h1 h2 h3 h4 h5
  go_enter Try.func8, Try.ntmps8
  go_upto_region 1 with (fail)
  obtain ⟨u0, hu⟩ : ∃ u0 : World, u0 = w.alloc (.cells #[.int .i64 d1, .int .i64 d2, .int .i64 d3] 31) := ⟨_, rfl⟩
  have VP : Hid (V3 u0 w.heap.size d1 d2 d3) := by rw [hu]; exact (vf_made _ _ _ _).1
  have E : Hid (Below w.heap.size w u0) := by rw [hu]; exact below_one w _
  have RW := Lib.hid (RW.out.below E.out)
  obtain ⟨gp, hg⟩ : ∃ g, g = w.heap.size := ⟨_, rfl⟩
  rw [← hg] at VP
  rw [← hu, ← hg]
  clear hu hg
  obtain ⟨e0, e1, e2⟩ := VP.out
  go_wp2_with fail
  refine (Points_kn L _ true _ (RW.out (_, L) List.mem_cons_self) H4.out).mono ?_
  rintro e y1 ⟨rfl, b⟩
  have RW := Lib.hid (RW.out.below b)
  have VP := Lib.hid (VP.out.below b)
  have E := Lib.hid (chain E.out b)
  clear b e0 e1 e2
  obtain ⟨e0, e1, e2⟩ := VP.out
  go_wp2_with fail
  refine (Points_kn M _ false _ (RW.out (_, M) (List.mem_cons_of_mem _ List.mem_cons_self)) H5.out).mono ?_
  rintro e y2 ⟨rfl, b⟩
  have RW := Lib.hid (RW.out.below b)
  have VP := Lib.hid (VP.out.below b)
  have E := Lib.hid (chain E.out b)
  clear b e0 e1 e2
  obtain ⟨e0, e1, e2⟩ := VP.out
  go_wp2_with fail
  refine (known_true _).mono ?_
  rintro e y3 ⟨rfl, b⟩
  have RW := Lib.hid (RW.out.below b)
  have VP := Lib.hid (VP.out.below b)
  have E := Lib.hid (chain E.out b)
  clear b e0 e1 e2
  obtain ⟨e0, e1, e2⟩ := VP.out
  go_wp2
  go_ret
  exact ⟨rfl, E.out⟩

set_option maxRecDepth 100000 in
set_option maxHeartbeats 8000000 in
theorem holds_6 (L M : List T3) (v u : Value) (d1 d2 d3 : Int) (w : World) (ha : Rv w v L) (hb : Rv w u M) (h0 : ¬ 20 < L.length) (h1 : ¬ 20 < M.length) (h2 : ¬ L.length = 0) (h3 : ¬ M.length = 0) (h4 : inL 1048576 L = true) (h5 : inL 1048576 M = true) (h6 : d1 < -1000000) :
    Calls Try.prog 8 #[v, u, vv d1 d2 d3] w (Ret (.bool true) w) := by
  have RW : Hid (Rws w [(v, L), (u, M)]) := fun q hq => by simp at hq; rcases hq with rfl | rfl; exact ha; exact hb
  obtain ⟨pa, ba, offa, capa, rfl, -⟩ := id ha
  obtain ⟨pb, bb, offb, capb, rfl, -⟩ := id hb
  clear ha hb
  have H4 := Lib.hid h4
  have H5 := Lib.hid h5
  obtain ⟨n, hn⟩ : ∃ n, n = L.length := ⟨_, rfl⟩
  rw [← hn] at RW ⊢
  have a0 : ¬ (20 : Int) < (n : Int) := by omega
  have a2 : ¬ (n : Int) = 0 := by omega
  clear hn
  obtain ⟨m, hm⟩ : ∃ m, m = M.length := ⟨_, rfl⟩
  rw [← hm] at RW ⊢
  have a1 : ¬ (20 : Int) < (m : Int) := by omega
  have a3 : ¬ (m : Int) = 0 := by omega
  clear hm
  clear h0 h1 h2 h3 h4 h5
  go_enter Try.func8, Try.ntmps8
  go_upto_region 1 with (fail)
  obtain ⟨u0, hu⟩ : ∃ u0 : World, u0 = w.alloc (.cells #[.int .i64 d1, .int .i64 d2, .int .i64 d3] 31) := ⟨_, rfl⟩
  have VP : Hid (V3 u0 w.heap.size d1 d2 d3) := by rw [hu]; exact (vf_made _ _ _ _).1
  have E : Hid (Below w.heap.size w u0) := by rw [hu]; exact below_one w _
  have RW := Lib.hid (RW.out.below E.out)
  obtain ⟨gp, hg⟩ : ∃ g, g = w.heap.size := ⟨_, rfl⟩
  rw [← hg] at VP
  rw [← hu, ← hg]
  clear hu hg
  obtain ⟨e0, e1, e2⟩ := VP.out
  go_wp2_with fail
  refine (Points_kn L _ true _ (RW.out (_, L) List.mem_cons_self) H4.out).mono ?_
  rintro e y1 ⟨rfl, b⟩
  have RW := Lib.hid (RW.out.below b)
  have VP := Lib.hid (VP.out.below b)
  have E := Lib.hid (chain E.out b)
  clear b e0 e1 e2
  obtain ⟨e0, e1, e2⟩ := VP.out
  go_wp2_with fail
  refine (Points_kn M _ true _ (RW.out (_, M) (List.mem_cons_of_mem _ List.mem_cons_self)) H5.out).mono ?_
  rintro e y2 ⟨rfl, b⟩
  have RW := Lib.hid (RW.out.below b)
  have VP := Lib.hid (VP.out.below b)
  have E := Lib.hid (chain E.out b)
  clear b e0 e1 e2
  obtain ⟨e0, e1, e2⟩ := VP.out
  go_wp2_with fail
  refine (known_true _).mono ?_
  rintro e y3 ⟨rfl, b⟩
  have RW := Lib.hid (RW.out.below b)
  have VP := Lib.hid (VP.out.below b)
  have E := Lib.hid (chain E.out b)
  clear b e0 e1 e2
  obtain ⟨e0, e1, e2⟩ := VP.out
  go_wp2
  go_ret
  exact ⟨rfl, E.out⟩

set_option maxRecDepth 100000 in
set_option maxHeartbeats 8000000 in
theorem holds_7 (L M : List T3) (v u : Value) (d1 d2 d3 : Int) (w : World) (ha : Rv w v L) (hb : Rv w u M) (h0 : ¬ 20 < L.length) (h1 : ¬ 20 < M.length) (h2 : ¬ L.length = 0) (h3 : ¬ M.length = 0) (h4 : inL 1048576 L = true) (h5 : inL 1048576 M = true) (h6 : ¬ d1 < -1000000) (h7 : 1000000 < d1) :
    Calls Try.prog 8 #[v, u, vv d1 d2 d3] w (Ret (.bool true) w) := by
  have RW : Hid (Rws w [(v, L), (u, M)]) := fun q hq => by simp at hq; rcases hq with rfl | rfl; exact ha; exact hb
  obtain ⟨pa, ba, offa, capa, rfl, -⟩ := id ha
  obtain ⟨pb, bb, offb, capb, rfl, -⟩ := id hb
  clear ha hb
  have H4 := Lib.hid h4
  have H5 := Lib.hid h5
  obtain ⟨n, hn⟩ : ∃ n, n = L.length := ⟨_, rfl⟩
  rw [← hn] at RW ⊢
  have a0 : ¬ (20 : Int) < (n : Int) := by omega
  have a2 : ¬ (n : Int) = 0 := by omega
  clear hn
  obtain ⟨m, hm⟩ : ∃ m, m = M.length := ⟨_, rfl⟩
  rw [← hm] at RW ⊢
  have a1 : ¬ (20 : Int) < (m : Int) := by omega
  have a3 : ¬ (m : Int) = 0 := by omega
  clear hm
  clear h0 h1 h2 h3 h4 h5
  go_enter Try.func8, Try.ntmps8
  go_upto_region 1 with (fail)
  obtain ⟨u0, hu⟩ : ∃ u0 : World, u0 = w.alloc (.cells #[.int .i64 d1, .int .i64 d2, .int .i64 d3] 31) := ⟨_, rfl⟩
  have VP : Hid (V3 u0 w.heap.size d1 d2 d3) := by rw [hu]; exact (vf_made _ _ _ _).1
  have E : Hid (Below w.heap.size w u0) := by rw [hu]; exact below_one w _
  have RW := Lib.hid (RW.out.below E.out)
  obtain ⟨gp, hg⟩ : ∃ g, g = w.heap.size := ⟨_, rfl⟩
  rw [← hg] at VP
  rw [← hu, ← hg]
  clear hu hg
  obtain ⟨e0, e1, e2⟩ := VP.out
  go_wp2_with fail
  refine (Points_kn L _ true _ (RW.out (_, L) List.mem_cons_self) H4.out).mono ?_
  rintro e y1 ⟨rfl, b⟩
  have RW := Lib.hid (RW.out.below b)
  have VP := Lib.hid (VP.out.below b)
  have E := Lib.hid (chain E.out b)
  clear b e0 e1 e2
  obtain ⟨e0, e1, e2⟩ := VP.out
  go_wp2_with fail
  refine (Points_kn M _ true _ (RW.out (_, M) (List.mem_cons_of_mem _ List.mem_cons_self)) H5.out).mono ?_
  rintro e y2 ⟨rfl, b⟩
  have RW := Lib.hid (RW.out.below b)
  have VP := Lib.hid (VP.out.below b)
  have E := Lib.hid (chain E.out b)
  clear b e0 e1 e2
  obtain ⟨e0, e1, e2⟩ := VP.out
  go_wp2_with fail
  refine (known_true _).mono ?_
  rintro e y3 ⟨rfl, b⟩
  have RW := Lib.hid (RW.out.below b)
  have VP := Lib.hid (VP.out.below b)
  have E := Lib.hid (chain E.out b)
  clear b e0 e1 e2
  obtain ⟨e0, e1, e2⟩ := VP.out
  go_wp2
  go_ret
  exact ⟨rfl, E.out⟩

set_option maxRecDepth 100000 in
set_option maxHeartbeats 8000000 in
theorem holds_8 (L M : List T3) (v u : Value) (d1 d2 d3 : Int) (w : World) (ha : Rv w v L) (hb : Rv w u M) (h0 : ¬ 20 < L.length) (h1 : ¬ 20 < M.length) (h2 : ¬ L.length = 0) (h3 : ¬ M.length = 0) (h4 : inL 1048576 L = true) (h5 : inL 1048576 M = true) (h6 : ¬ d1 < -1000000) (h7 : ¬ 1000000 < d1) (h8 : d2 < -1000000) :
    Calls Try.prog 8 #[v, u, vv d1 d2 d3] w (Ret (.bool true) w) := by
  have RW : Hid (Rws w [(v, L), (u, M)]) := fun q hq => by simp at hq; rcases hq with rfl | rfl; exact ha; exact hb
  obtain ⟨pa, ba, offa, capa, rfl, -⟩ := id ha
  obtain ⟨pb, bb, offb, capb, rfl, -⟩ := id hb
  clear ha hb
  have H4 := Lib.hid h4
  have H5 := Lib.hid h5
  obtain ⟨n, hn⟩ : ∃ n, n = L.length := ⟨_, rfl⟩
  rw [← hn] at RW ⊢
  have a0 : ¬ (20 : Int) < (n : Int) := by omega
  have a2 : ¬ (n : Int) = 0 := by omega
  clear hn
  obtain ⟨m, hm⟩ : ∃ m, m = M.length := ⟨_, rfl⟩
  rw [← hm] at RW ⊢
  have a1 : ¬ (20 : Int) < (m : Int) := by omega
  have a3 : ¬ (m : Int) = 0 := by omega
  clear hm
  clear h0 h1 h2 h3 h4 h5
  go_enter Try.func8, Try.ntmps8
  go_upto_region 1 with (fail)
  obtain ⟨u0, hu⟩ : ∃ u0 : World, u0 = w.alloc (.cells #[.int .i64 d1, .int .i64 d2, .int .i64 d3] 31) := ⟨_, rfl⟩
  have VP : Hid (V3 u0 w.heap.size d1 d2 d3) := by rw [hu]; exact (vf_made _ _ _ _).1
  have E : Hid (Below w.heap.size w u0) := by rw [hu]; exact below_one w _
  have RW := Lib.hid (RW.out.below E.out)
  obtain ⟨gp, hg⟩ : ∃ g, g = w.heap.size := ⟨_, rfl⟩
  rw [← hg] at VP
  rw [← hu, ← hg]
  clear hu hg
  obtain ⟨e0, e1, e2⟩ := VP.out
  go_wp2_with fail
  refine (Points_kn L _ true _ (RW.out (_, L) List.mem_cons_self) H4.out).mono ?_
  rintro e y1 ⟨rfl, b⟩
  have RW := Lib.hid (RW.out.below b)
  have VP := Lib.hid (VP.out.below b)
  have E := Lib.hid (chain E.out b)
  clear b e0 e1 e2
  obtain ⟨e0, e1, e2⟩ := VP.out
  go_wp2_with fail
  refine (Points_kn M _ true _ (RW.out (_, M) (List.mem_cons_of_mem _ List.mem_cons_self)) H5.out).mono ?_
  rintro e y2 ⟨rfl, b⟩
  have RW := Lib.hid (RW.out.below b)
  have VP := Lib.hid (VP.out.below b)
  have E := Lib.hid (chain E.out b)
  clear b e0 e1 e2
  obtain ⟨e0, e1, e2⟩ := VP.out
  go_wp2_with fail
  refine (known_true _).mono ?_
  rintro e y3 ⟨rfl, b⟩
  have RW := Lib.hid (RW.out.below b)
  have VP := Lib.hid (VP.out.below b)
  have E := Lib.hid (chain E.out b)
  clear b e0 e1 e2
  obtain ⟨e0, e1, e2⟩ := VP.out
  go_wp2
  go_ret
  exact ⟨rfl, E.out⟩

set_option maxRecDepth 100000 in
set_option maxHeartbeats 8000000 in
theorem holds_9 (L M : List T3) (v u : Value) (d1 d2 d3 : Int) (w : World) (ha : Rv w v L) (hb : Rv w u M) (h0 : ¬ 20 < L.length) (h1 : ¬ 20 < M.length) (h2 : ¬ L.length = 0) (h3 : ¬ M.length = 0) (h4 : inL 1048576 L = true) (h5 : inL 1048576 M = true) (h6 : ¬ d1 < -1000000) (h7 : ¬ 1000000 < d1) (h8 : ¬ d2 < -1000000) (h9 : 1000000 < d2) :
    Calls Try.prog 8 #[v, u, vv d1 d2 d3] w (Ret (.bool true) w) := by
  have RW : Hid (Rws w [(v, L), (u, M)]) := fun q hq => by simp at hq; rcases hq with rfl | rfl; exact ha; exact hb
  obtain ⟨pa, ba, offa, capa, rfl, -⟩ := id ha
  obtain ⟨pb, bb, offb, capb, rfl, -⟩ := id hb
  clear ha hb
  have H4 := Lib.hid h4
  have H5 := Lib.hid h5
  obtain ⟨n, hn⟩ : ∃ n, n = L.length := ⟨_, rfl⟩
  rw [← hn] at RW ⊢
  have a0 : ¬ (20 : Int) < (n : Int) := by omega
  have a2 : ¬ (n : Int) = 0 := by omega
  clear hn
  obtain ⟨m, hm⟩ : ∃ m, m = M.length := ⟨_, rfl⟩
  rw [← hm] at RW ⊢
  have a1 : ¬ (20 : Int) < (m : Int) := by omega
  have a3 : ¬ (m : Int) = 0 := by omega
  clear hm
  clear h0 h1 h2 h3 h4 h5
  go_enter Try.func8, Try.ntmps8
  go_upto_region 1 with (fail)
  obtain ⟨u0, hu⟩ : ∃ u0 : World, u0 = w.alloc (.cells #[.int .i64 d1, .int .i64 d2, .int .i64 d3] 31) := ⟨_, rfl⟩
  have VP : Hid (V3 u0 w.heap.size d1 d2 d3) := by rw [hu]; exact (vf_made _ _ _ _).1
  have E : Hid (Below w.heap.size w u0) := by rw [hu]; exact below_one w _
  have RW := Lib.hid (RW.out.below E.out)
  obtain ⟨gp, hg⟩ : ∃ g, g = w.heap.size := ⟨_, rfl⟩
  rw [← hg] at VP
  rw [← hu, ← hg]
  clear hu hg
  obtain ⟨e0, e1, e2⟩ := VP.out
  go_wp2_with fail
  refine (Points_kn L _ true _ (RW.out (_, L) List.mem_cons_self) H4.out).mono ?_
  rintro e y1 ⟨rfl, b⟩
  have RW := Lib.hid (RW.out.below b)
  have VP := Lib.hid (VP.out.below b)
  have E := Lib.hid (chain E.out b)
  clear b e0 e1 e2
  obtain ⟨e0, e1, e2⟩ := VP.out
  go_wp2_with fail
  refine (Points_kn M _ true _ (RW.out (_, M) (List.mem_cons_of_mem _ List.mem_cons_self)) H5.out).mono ?_
  rintro e y2 ⟨rfl, b⟩
  have RW := Lib.hid (RW.out.below b)
  have VP := Lib.hid (VP.out.below b)
  have E := Lib.hid (chain E.out b)
  clear b e0 e1 e2
  obtain ⟨e0, e1, e2⟩ := VP.out
  go_wp2_with fail
  refine (known_true _).mono ?_
  rintro e y3 ⟨rfl, b⟩
  have RW := Lib.hid (RW.out.below b)
  have VP := Lib.hid (VP.out.below b)
  have E := Lib.hid (chain E.out b)
  clear b e0 e1 e2
  obtain ⟨e0, e1, e2⟩ := VP.out
  go_wp2
  go_ret
  exact ⟨rfl, E.out⟩

set_option maxRecDepth 100000 in
set_option maxHeartbeats 8000000 in
theorem holds_10 (L M : List T3) (v u : Value) (d1 d2 d3 : Int) (w : World) (ha : Rv w v L) (hb : Rv w u M) (h0 : ¬ 20 < L.length) (h1 : ¬ 20 < M.length) (h2 : ¬ L.length = 0) (h3 : ¬ M.length = 0) (h4 : inL 1048576 L = true) (h5 : inL 1048576 M = true) (h6 : ¬ d1 < -1000000) (h7 : ¬ 1000000 < d1) (h8 : ¬ d2 < -1000000) (h9 : ¬ 1000000 < d2) (h10 : inV 16777216 d1 d2 d3 = false) :
    Calls Try.prog 8 #[v, u, vv d1 d2 d3] w (Ret (.bool true) w) := by
  have RW : Hid (Rws w [(v, L), (u, M)]) := fun q hq => by simp at hq; rcases hq with rfl | rfl; exact ha; exact hb
  obtain ⟨pa, ba, offa, capa, rfl, -⟩ := id ha
  obtain ⟨pb, bb, offb, capb, rfl, -⟩ := id hb
  clear ha hb
  have H4 := Lib.hid h4
  have H5 := Lib.hid h5
  have H10 := Lib.hid h10
  obtain ⟨n, hn⟩ : ∃ n, n = L.length := ⟨_, rfl⟩
  rw [← hn] at RW ⊢
  have a0 : ¬ (20 : Int) < (n : Int) := by omega
  have a2 : ¬ (n : Int) = 0 := by omega
  clear hn
  obtain ⟨m, hm⟩ : ∃ m, m = M.length := ⟨_, rfl⟩
  rw [← hm] at RW ⊢
  have a1 : ¬ (20 : Int) < (m : Int) := by omega
  have a3 : ¬ (m : Int) = 0 := by omega
  clear hm
  clear h0 h1 h2 h3 h4 h5 h10
  go_enter Try.func8, Try.ntmps8
  go_upto_region 1 with (fail)
  obtain ⟨u0, hu⟩ : ∃ u0 : World, u0 = w.alloc (.cells #[.int .i64 d1, .int .i64 d2, .int .i64 d3] 31) := ⟨_, rfl⟩
  have VP : Hid (V3 u0 w.heap.size d1 d2 d3) := by rw [hu]; exact (vf_made _ _ _ _).1
  have E : Hid (Below w.heap.size w u0) := by rw [hu]; exact below_one w _
  have RW := Lib.hid (RW.out.below E.out)
  obtain ⟨gp, hg⟩ : ∃ g, g = w.heap.size := ⟨_, rfl⟩
  rw [← hg] at VP
  rw [← hu, ← hg]
  clear hu hg
  obtain ⟨e0, e1, e2⟩ := VP.out
  go_wp2_with fail
  refine (Points_kn L _ true _ (RW.out (_, L) List.mem_cons_self) H4.out).mono ?_
  rintro e y1 ⟨rfl, b⟩
  have RW := Lib.hid (RW.out.below b)
  have VP := Lib.hid (VP.out.below b)
  have E := Lib.hid (chain E.out b)
  clear b e0 e1 e2
  obtain ⟨e0, e1, e2⟩ := VP.out
  go_wp2_with fail
  refine (Points_kn M _ true _ (RW.out (_, M) (List.mem_cons_of_mem _ List.mem_cons_self)) H5.out).mono ?_
  rintro e y2 ⟨rfl, b⟩
  have RW := Lib.hid (RW.out.below b)
  have VP := Lib.hid (VP.out.below b)
  have E := Lib.hid (chain E.out b)
  clear b e0 e1 e2
  obtain ⟨e0, e1, e2⟩ := VP.out
  go_wp2_with fail
  refine (rValid_kn d1 d2 d3 false _ H10.out).mono ?_
  rintro e y3 ⟨rfl, b⟩
  have RW := Lib.hid (RW.out.below b)
  have VP := Lib.hid (VP.out.below b)
  have E := Lib.hid (chain E.out b)
  clear b e0 e1 e2
  obtain ⟨e0, e1, e2⟩ := VP.out
  go_wp2_with fail
  refine (known_true _).mono ?_
  rintro e y4 ⟨rfl, b⟩
  have RW := Lib.hid (RW.out.below b)
  have VP := Lib.hid (VP.out.below b)
  have E := Lib.hid (chain E.out b)
  clear b e0 e1 e2
  obtain ⟨e0, e1, e2⟩ := VP.out
  go_wp2
  go_ret
  exact ⟨rfl, E.out⟩
end Go.Proofs.Ytbhdejlikipahaa
