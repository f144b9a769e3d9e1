/- PolyScales gives true for all polynomials and integers (P2.3, P2.6), and leaves its arguments as they were. No condition. -/
import Derived.Test.YtepddegphdlbeaaGreatC13
import Derived.Test.YtepddegphdlbeaaGreatC9
import Derived.Deep.RegionHeld3
import Derived.Test.YtepddegphdlbeaaGreatC17
import Derived.Test.YtepddegphdlbeaaGreatC0
import Derived.ProofKit
import Derived.OpenShut
import Derived.ShutString
import Derived.ChangeOld
import Derived.Below
import Derived.Lib.SmallJoins
import Derived.Test.YtepddegphdlbeaaGreatC10
import Derived.Deep.SlicePairs
import Derived.Test.YtepddegphdlbeaaGreatRows

/- A block of the call's own that holds a polynomial of the reference. -/
namespace Go.Proofs.YtepddegphdlbeaaGreat
open Go.RowKit

/-- A block of the call's own whose cells hold these integers. -/
def Ap (w : World) (g : Nat) (p : List Int) : Prop := ∃ us : List Value, us.length = p.length ∧ w.heap[g]? = some (.cells (rv p us).toArray 52 (0, 0)) ∧ ∀ k (h : k < us.length) (h2 : k < p.length), Rz w us[k] p[k]
theorem Ap.lt {w : World} {g : Nat} {p : List Int} (h : Ap w g p) : g < w.heap.size := by obtain ⟨us, _, h, _⟩ := h; exact lt_of_block h
theorem Ap.cell {w : World} {g : Nat} {p : List Int} (h : Ap w g p) (k : Nat) (hk : k < p.length) : ∃ u, w.cell? ⟨g, k * 2, none⟩ = some (.bool (decide (p[k] < 0))) ∧ w.cell? ⟨g, k * 2 + 1, none⟩ = some u ∧ Rz w u p[k] := by
  obtain ⟨us, hl, h, hz⟩ := h
  obtain ⟨h1, h2⟩ := rv_get hl k hk
  exact ⟨us[k], by rw [cell_of_row w g _ _ _ _ h, List.getElem?_toArray]; exact h1, by rw [cell_of_row w g _ _ _ _ h, List.getElem?_toArray]; exact h2, hz k (by omega) hk⟩
theorem Ap.free {w : World} {g : Nat} {p : List Int} (h : Ap w g p) (k : Nat) : w.frozen? ⟨g, k, none⟩ = false := by obtain ⟨us, _, h, _⟩ := h; exact frozen_of_row w g k _ _ h
theorem Ap.below {w w' : World} {g : Nat} {p : List Int} (h : Ap w g p) (hb : Below w.heap.size w w') : Ap w' g p := by
  obtain ⟨us, hl, h, hz⟩ := h
  exact ⟨us, hl, (hb.block g (lt_of_block h)).trans h, fun k h1 h2 => (hz k h1 h2).below hb⟩
theorem Ap.row {w : World} {g B n : Nat} {p : List Int} (h : Ap w g p) (hB : B ≤ g) (hn : p.length = n) (hm : n ≤ maxLen) : RowP w B (.slice (some ⟨g, 0, none⟩) n n) p := by
  obtain ⟨us, hl, h, hz⟩ := h
  subst hn
  refine ⟨us, hl, ⟨rv_length hl, Or.inr ⟨g, p.length, _, rfl, hB, h, Nat.le_refl _, hm, ?_, ?_⟩⟩, hz⟩
  · simp [rv_length hl]
  · simp only [List.toList_toArray]
    rw [List.take_of_length_le (by rw [rv_length hl]; exact Nat.le_refl _)]
theorem rv_set {p : List Int} {us : List Value} (h : us.length = p.length) (k : Nat) (z : Int) (u : Value) : ((rv p us).set (k * 2) (.bool (decide (z < 0)))).set (k * 2 + 1) u = rv (p.set k z) (us.set k u) := by
  induction p generalizing us k with
  | nil => cases us with
    | nil => rfl
    | cons u us => simp at h
  | cons y p ih =>
    cases us with
    | nil => simp at h
    | cons x us =>
      cases k with
      | zero => rfl
      | succ k =>
        have h2 : us.length = p.length := by simpa using h
        rw [show (k + 1) * 2 = k * 2 + 1 + 1 by omega]
        simp only [rv, List.set_cons_succ]
        rw [ih h2]
theorem Rz.set {w : World} {v old u : Value} {z : Int} {p : Addr} (h : Rz w v z) (hp : w.cell? p = some old) (hno : ∀ n, old ≠ .int .i64 n) : Rz (w.setCell p u) v z := by
  obtain ⟨q, b, off, cap, h1, h2, h3, h4, h5, h6⟩ := h
  refine ⟨q, b, off, cap, h1, h2, h3, h4, h5.imp id (fun g => ⟨g.1, g.2.set _ _⟩), fun k hk => ?_⟩
  rw [World.cell?_setCell_other]
  · exact h6 k hk
  · intro e
    subst e
    rw [h6 k hk] at hp
    exact hno _ (Option.some.inj hp).symm
theorem Ap.set {w : World} {g : Nat} {p : List Int} {z : Int} {u : Value} (h : Ap w g p) (k : Nat) (hk : k < p.length) (hu : Rz w u z) : Ap ((w.setCell ⟨g, k * 2, none⟩ (.bool (decide (z < 0)))).setCell ⟨g, k * 2 + 1, none⟩ u) g (p.set k z) := by
  obtain ⟨u0, g0, g1, g2⟩ := h.cell k hk
  obtain ⟨us, hl, h, hz⟩ := h
  have h1 := heap_setCell_same w g (k * 2) _ _ (.bool (decide (z < 0))) h
  have h2 := heap_setCell_same _ g (k * 2 + 1) _ _ u h1
  have hs : ∀ {v' : Value} {z' : Int}, Rz w v' z' → Rz ((w.setCell ⟨g, k * 2, none⟩ (.bool (decide (z < 0)))).setCell ⟨g, k * 2 + 1, none⟩ u) v' z' := fun h' =>
    (h'.set (u := .bool (decide (z < 0))) g0 (fun _ => by simp)).set (old := u0) ((World.cell?_setCell_other w ⟨g, k * 2, none⟩ ⟨g, k * 2 + 1, none⟩ (.bool (decide (z < 0))) (by simp)).trans g1) g2.noint
  refine ⟨us.set k u, by simp [hl], h2.trans ?_, fun j h3 h4 => ?_⟩
  · rw [← rv_set hl]
    simp
  · by_cases e : j = k
    · subst e
      have e1 : (us.set j u)[j]'h3 = u := by simp
      have e2 : (p.set j z)[j]'h4 = z := by simp
      rw [e1, e2]
      exact hs hu
    · have e1 : (us.set k u)[j]'h3 = us[j]'(by simpa using h3) := by rw [List.getElem_set_ne (Ne.symm e)]
      have e2 : (p.set k z)[j]'h4 = p[j]'(by simpa using h4) := by rw [List.getElem_set_ne (Ne.symm e)]
      rw [e1, e2]
      exact hs (hz j _ _)
theorem Ap.stored {w : World} {g : Nat} {p : List Int} (h : Ap w g p) (k : Nat) (hk : k < p.length) {v : Value} {z : Int} (hv : Rz w v z) (x : Value) (u : Value) : Rz ((w.setCell ⟨g, k * 2, none⟩ x).setCell ⟨g, k * 2 + 1, none⟩ u) v z := by
  obtain ⟨u0, g0, g1, g2⟩ := h.cell k hk
  exact (hv.set (u := x) g0 (fun _ => by simp)).set (old := u0) ((World.cell?_setCell_other w ⟨g, k * 2, none⟩ ⟨g, k * 2 + 1, none⟩ x (by simp)).trans g1) g2.noint
theorem Ap.made (w : World) (n : Nat) : Ap (w.alloc (.cells (rv (List.replicate n 0) (List.replicate n (.slice none 0 0))).toArray 52)) w.heap.size (List.replicate n 0) :=
  ⟨List.replicate n (.slice none 0 0), by simp, heap_alloc_new w _, fun k h1 h2 => by
    have e1 : (List.replicate n (Value.slice none 0 0))[k]'h1 = .slice none 0 0 := by simp
    have e2 : (List.replicate n (0 : Int))[k]'h2 = 0 := by simp
    rw [e1, e2]
    exact rz_zero _⟩
end Go.Proofs.YtepddegphdlbeaaGreat

/- The reference's powers. -/
namespace Go.Proofs.YtepddegphdlbeaaGreat
open Go.RowKit

end Go.Proofs.YtepddegphdlbeaaGreat

/- The reference's Rest. -/
namespace Go.Proofs.YtepddegphdlbeaaGreat
open Go.RowKit

theorem mx_lt {n : Nat} {p : List Int} (s : Sz n p) : Pl.mx p < D9 ^ n := by
  have h : Pl.mx p ≤ D9 ^ n - 1 := Pl.mx_le fun k _ => by have := s k; omega
  have : 0 < D9 ^ n := Nat.pow_pos (by decide)
  omega
end Go.Proofs.YtepddegphdlbeaaGreat

/- PolyScales gives true for all inputs. -/
namespace Go.Proofs.YtepddegphdlbeaaGreat
open Go.RowKit

theorem cf_mul_one (p : List Int) (a : Int) (k : Nat) : Pl.cf (Pl.mul p [a]) k = a * Pl.cf p k := by
  induction p generalizing k with
  | nil => rw [Pl.mul, Pl.cf_nil, Int.mul_zero]
  | cons x p ih =>
    rw [Pl.mul, Pl.cf_add, Pl.cf_scl]
    cases k with
    | zero => rw [Pl.cf_cons_zero, Pl.cf_cons_zero, Pl.cf_cons_zero, Int.add_zero, Int.mul_comm]
    | succ k => rw [Pl.cf_cons_succ, Pl.cf_cons_succ, Pl.cf_cons_succ, Pl.cf_nil, ih, Int.mul_zero, Int.zero_add]
theorem scale_eq (p : List Int) (a : Int) : Pl.trim (Pl.mul p [a]) = Pl.trim (Pl.scl a p) :=
  Pl.nrm_ext (Pl.nrm_trim _) (Pl.nrm_trim _) fun k => by rw [Pl.cf_trim, Pl.cf_trim, cf_mul_one, Pl.cf_scl]
theorem nine_mul {x y n m : Nat} (hx : x < D9 ^ n) (hy : y < D9 ^ m) : x * y < D9 ^ (n + m) := by
  rw [Nat.pow_add]
  exact Nat.mul_lt_mul'' hx hy
theorem nat_top {x n : Nat} (h : x < D9 ^ n) (hn : n ≤ 2000) : x < Top := by
  have := top_of (z := (x : Int)) (by rw [Int.natAbs_natCast]; exact h) hn
  rwa [Int.natAbs_natCast] at this
theorem sm_nine {n : Nat} {p : List Int} (s : Sz n p) (hl : p.length ≤ 1000) : Pl.sm p < D9 ^ (1 + n) := by
  have h1 := Pl.sm_le p
  have h2 := mx_lt s
  refine Nat.lt_of_le_of_lt h1 (nine_mul (by unfold D9; omega) h2)
theorem sz_der {n : Nat} {p : List Int} (s : Sz n p) (hl : p.length ≤ 1000) : Sz (n + 1) (derL p) ∧ ∀ k, k < p.length - 1 → (Pl.cf p (k + 1) * ((k : Int) + 1)).natAbs < D9 ^ (n + 1) := by
  have key : ∀ k, k < p.length - 1 → (Pl.cf p (k + 1) * ((k : Int) + 1)).natAbs < D9 ^ (n + 1) := by
    intro k hk
    rw [Int.natAbs_mul]
    exact nine_mul (s (k + 1)) (by unfold D9; omega)
  refine ⟨fun k => ?_, key⟩
  rcases Nat.lt_or_ge k (derL p).length with g | g
  · rw [Pl.cf_lt g]
    have h2 : k < p.length - 1 := by rwa [derL_length] at g
    have := key k h2
    simpa [derL] using this
  · rw [Pl.cf_ge g]; exact Nat.pow_pos (by decide)
theorem cont_lt {n : Nat} {p : List Int} (s : Sz n p) : Pl.cont p < D9 ^ n := by
  have := cont_take_lt s p.length
  rwa [List.take_length] at this
theorem to_zz (z : Int) {n : Nat} (h : z.natAbs < D9 ^ n) (hn : n ≤ 2000) (w : World) (u : Value) (hu : Rz w u z) : Calls Tryz.prog 39 #[iV z u] w fun e w' => e = .returned (.agg #[.bool (zb z), .string (zs z)]) ∧ Below w.heap.size w w' := by
  have := rto_int z u w hu ((nine_fit h rfl).len (by omega))
  unfold ToPost at this
  rwa [wz_eq] at this

theorem psc_good (p : List Int) (v : Value) (b : Bool) (s : ByteArray) (w : World) (h : Rp w v p) (hp : VP p) (g : shP (zl p) = true) (hz : Lim (zl p)) (hl : s.size ≤ 30) :
    Calls Tryz.prog 5 #[v, .agg #[.bool b, .string s]] w (Ret (.bool true) w) := by
  have s1 := shP_sz g
  obtain ⟨N, hN⟩ : ∃ N : Nat, N = 16 := ⟨_, rfl⟩
  rw [← hN] at s1
  have l1 := shP_14 g hp.len
  have sm := zl_small hp.top
  have HS := fun w' (hb : Below w.heap.size w w') => k_short1 (h.below hb) hz true g
  have HV := fun w' (hb : Below w.heap.size w w') => k_valid1 (h.below hb) sm true hp.ok
  have HD : ∀ w', Below w.heap.size w w' → Calls Tryz.prog 32 #[v] w' (ResP (derL p) w') := by
    intro w' hb
    by_cases h0 : p = []
    · have h' := h.below hb
      subst h0
      exact Derive_zero v w' h' hp
    · exact Derive_ok p v w' (h.below hb) hp h0 (fun k hk => top_of ((sz_der s1 (by omega)).2 k hk) (by omega))
  have HC := fun w' (hb : Below w.heap.size w w') => Content_ok p v w' (h.below hb) hp
  have HP := fun w' (hb : Below w.heap.size w w') => Primitive_ok p v w' (h.below hb) hp
  have HF := fun w' (hb : Below w.heap.size w w') => rFrom2_any p v w' (h.below hb) (by omega) hp.top
  have HRD := fun w' x (hx : RP w' x p) => rDerive_any N (by omega) p x w' hx (by omega) s1
  have HRC := fun w' x (hx : RP w' x p) => rContent_any N (by omega) p x w' hx (by omega) s1
  have HRP := fun w' x (hx : RP w' x p) => rPrimitive_any N (by omega) p x w' hx (by omega) s1 hp.nrm
  have HT := fun w' u (hu : Rz w' u ((Pl.cont p : Nat) : Int)) => to_zz ((Pl.cont p : Nat) : Int) (n := N) (by rw [Int.natAbs_natCast]; exact cont_lt s1) (by omega) w' u hu
  have HED : ∀ w' v x, Rp w' v (derL p) → RP w' x (derL p) → Calls Tryz.prog 24 #[v, .int .i64 0, x] w' (BPost true w') :=
    fun w' v x hv hx => same_true2 _ v x w' hv hx (by rw [derL_length]; omega) ((sz_der s1 (by omega)).1.top (by omega)) ((sz_der s1 (by omega)).1.len9 (by omega))
  have HEP : ∀ w' v x, Rp w' v (Pl.prim p) → RP w' x (Pl.prim p) → Calls Tryz.prog 24 #[v, .int .i64 0, x] w' (BPost true w') :=
    fun w' v x hv hx => same_true2 _ v x w' hv hx (by rw [Pl.prim_length]; omega) (s1.prim.top (by omega)) (s1.prim.len9 (by omega))
  have HW := fun w' => rvalid_any b s w' (by omega)
  cases hv : vld b s with
  | false =>
    rw [hv] at HW
    refine psc_inv p [] (derL p) (Pl.prim p) _ _ _ v b s w p.length rfl h hl HS HV (fun w' hb => Scale_bad (zl p) v b s w' (h.below hb) sm (by omega) (by rw [hv]; simp)) HD HC HP HF HW HRD HRC HRP HT ?_
    rintro T (rfl | rfl)
    · exact HED
    · exact HEP
  | true =>
    rw [hv] at HW
    obtain ⟨a, ha⟩ : ∃ a, a = sg b (bv s) := ⟨_, rfl⟩
    have hzb := zb_sg hv
    rw [← ha] at hzb
    have ha9 : a.natAbs < D9 ^ 30 := by
      have h1 := bvk (k := 30) rfl hl
      have h2 : a.natAbs = bv s := by rw [ha]; unfold sg; split <;> omega
      rw [h2]
      exact Nat.lt_of_lt_of_le h1 (Nat.pow_le_pow_left (by decide) 30)
    obtain ⟨M, hM⟩ : ∃ M : Nat, M = 30 := ⟨_, rfl⟩
    rw [← hM] at ha9
    have hat := top_of ha9 (by omega)
    have s3 : Sz (M + N) (Pl.trim (Pl.scl a p)) := (s1.scl ha9).trim
    refine psc_ok p (Pl.trim (Pl.scl a p)) (derL p) (Pl.prim p) _ a _ _ v b s w p.length rfl h hl HS HV (fun w' hb => ?_) HD HC HP HF HW (fun w' => ?_) (fun w' x u hx hu => rScale_any N M (by omega) (by omega) p a x u w' hx hu (by omega) s1 ha9) HRD HRC HRP HT ?_
    · have h3 := Scale_ok p v a w' (h.below hb) hp hat (nat_top (nine_mul (sm_nine s1 (by omega)) ha9) (by omega))
      rw [scale_eq] at h3
      unfold Z at h3
      rwa [hzb.1, hzb.2] at h3
    · have h3 := rfrom_any b s w' (by omega)
      rwa [← ha] at h3
    · rintro T (rfl | rfl | rfl)
      · exact fun w' v x hv hx => same_true2 _ v x w' hv hx (Nat.le_trans (Pl.trim_length _) (by rw [Pl.scl_length]; omega)) (s3.top (by omega)) (s3.len9 (by omega))
      · exact HED
      · exact HEP

theorem psc_any (L : List (Bool × ByteArray)) (v : Value) (b : Bool) (s : ByteArray) (w : World) (h : Rw w v L) (z : Lim L) (hz : s.size ≤ 9223372036854775807) :
    Calls Tryz.prog 5 #[v, .agg #[.bool b, .string s]] w (Ret (.bool true) w) := by
  cases hs : shP L with
  | false => exact psc_long1 L v b s w h z hz hs
  | true =>
    by_cases hl : s.size ≤ 30
    · cases hv : vldP L with
      | false => exact psc_bad L v b s w h z hz hs hl hv
      | true =>
        obtain ⟨p, hp, rfl⟩ := VP.of hv
        exact psc_good p v b s w h hp hs z hl
    · exact psc_long2 L v b s w h z hz hs (by omega)
end Go.Proofs.YtepddegphdlbeaaGreat

/- What comes in and goes out: wide integers and ratios. -/
namespace Go.Proofs.YtepddegphdlbeaaGreat
open Go.ChangeShapes Go.WideShapes Go.ChangeAt Go.RowKit Go.Joins
open Go.ChangeMaps (open_string shut_string)

theorem Tryz.own : ownKnob Tryz.prog.godebug = none := by kernel_rfl
theorem Tryz.cellsWide : Tryz.prog.cellsOf 44 = 2 := by kernel_rfl

set_option maxRecDepth 100000 in
/-- A wide integer that came in. -/
theorem open_wide {H : Type} {enc : TypeId × Value → H} {w : World} {base : Nat} {b0 : Nat} {spare : Nat → Bool} {held : Bool} {r : Reach} {v : Value} {d : DataW H} {p : List MemPlace}
    (hv : Value.okWide Tryz.prog w r b0 44 v) (h : DataW.Trod enc Tryz.prog w base spare held 44 v d p) :
    ∃ (a : Bool) (s : ByteArray), v = .agg #[.bool a, .string s] ∧ d = .agg [.lit (.bool a), .lit (.string s.data.toList)] ∧ p = [] ∧ s.size ≤ maxLen := by
  obtain ⟨c0, c1, y0, y1, m, rfl, rfl, rfl, hy0, hy1⟩ := open_agg2 Tryz.underlying44 (by kernel_rfl) Tryz.cellsWide hv h
  obtain ⟨a, e0, rfl⟩ := DataW.trod_bool Tryz.underlying4 hy0
  obtain ⟨s, e1, rfl, hs⟩ := DataW.trod_string Tryz.underlying9 hy1
  simp at e0 e1
  subst e0 e1
  exact ⟨a, s, rfl, rfl, rfl, hs⟩
theorem shut_wide {H : Type} {enc : TypeId × Value → H} {w : World} {base : Nat} {spare : Nat → Bool} {held : Bool} {a : Bool} {s : ByteArray} (hs : s.size ≤ maxLen) :
    DataW.Trod enc Tryz.prog w base spare held 44 (.agg #[.bool a, .string s]) (.agg [.lit (.bool a), .lit (.string s.data.toList)]) [] :=
  shut_agg2 (y0 := (.lit (.bool a), [])) (y1 := (.lit (.string s.data.toList), [])) Tryz.underlying44 (by kernel_rfl) Tryz.cellsWide ⟨1, by simp [DataW.trod, Tryz.underlying4]⟩ ⟨1, by simp [DataW.trod, Tryz.underlying9, hs]⟩

end Go.Proofs.YtepddegphdlbeaaGreat

/- What comes in and goes out: a polynomial, a list of ints. -/
namespace Go.Proofs.YtepddegphdlbeaaGreat
open Go.ChangeShapes Go.WideShapes Go.ChangeAt Go.RowKit Go.Joins Go.Deep
open Go.ChangeMaps (open_string shut_string)

theorem choose_lt2 {α : Type} [Inhabited α] {m : Nat} {P : Nat → α → Prop} (h : ∀ i, i < m → ∃ x, P i x) : ∃ f : Nat → α, ∀ i, i < m → P i (f i) :=
  ⟨fun i => if hi : i < m then (h i hi).choose else default, fun i hi => by show P i (dite _ _ _); rw [dif_pos hi]; exact (h i hi).choose_spec⟩

set_option maxRecDepth 100000 in
/-- A polynomial that came in: it reads as a list, and so behind the call. -/
theorem open_poly {H : Type} {enc : TypeId × Value → H} {W : World} {b0 : Nat} {r : Reach} {v : Value} {d : DataW H} {p : List MemPlace}
    (hv : Value.okWide Tryz.prog W r b0 23 v) (h : DataW.Trod enc Tryz.prog W 0 (fun _ => true) true 23 v d p) :
    ∃ L : List (Bool × ByteArray), Rw W v L ∧ Lim L ∧ ∀ W', Below W.heap.size W W' → DataW.Trod enc Tryz.prog W' 0 (fun b => decide (b < W.heap.size)) true 23 v d p := by
  have hu := Tryz.underlying23
  have he := Tryz.underlying44
  have c2 : Tryz.prog.cellsOf 44 = 2 := Tryz.cellsWide
  have cb : Tryz.prog.cellsOf 4 = 1 := by kernel_rfl
  have cs : Tryz.prog.cellsOf 9 = 1 := by kernel_rfl
  obtain ⟨a0, len0, cap0, rfl⟩ := okWide_slice hu hv
  obtain ⟨fuel, hf⟩ := h
  rcases open_slice_pairs hu he c2 rfl rfl cb cs hf with ⟨hcs, hx⟩ | ⟨a, len, cap, m, n, V0, V1, D0, D1, P0, P1, hcs, hb, hl, hm, hmm, hx, hall⟩
  · simp [Value.cells] at hcs
    obtain ⟨rfl, rfl, rfl⟩ := hcs
    simp only [Prod.mk.injEq] at hx
    obtain ⟨rfl, rfl⟩ := hx
    exact ⟨[], Rw.nil W, fun x hx => (nomatch hx), fun W' _ => shut_slice_nil hu⟩
  · simp [Value.cells] at hcs
    obtain ⟨rfl, rfl, rfl⟩ := hcs
    simp only [if_true] at hmm
    subst hmm
    simp only [Prod.mk.injEq] at hx
    obtain ⟨rfl, rfl⟩ := hx
    rcases Nat.eq_zero_or_pos m with h0 | h0
    · subst h0
      have hl0 : len0 = 0 := by omega
      subst hl0
      refine ⟨[], ⟨some a, 0, 0, 0, rfl, Nat.le_refl _, hm, fun h => absurd rfl h, fun k h => absurd h (by simp)⟩, fun x hx => (nomatch hx), fun W' _ => ?_⟩
      have hno : ∀ i, i < 0 → False := fun i hi => absurd hi (Nat.not_lt_zero _)
      cases hsp : decide (a.block < W.heap.size) with
      | true =>
        obtain ⟨n, key⟩ := shut_slice_whole_cells (enc := enc) (w := W') (base := 0) (spare := fun b => decide (b < W.heap.size)) (held := true) (a := a) (len := 0) (cap := 0) hu (Nat.zero_le _) (Nat.le_refl _) hm hsp (fun i => .agg [D0 i, D1 i]) (fun i => P0 i ++ P1 i) (fun i hi => (hno i hi).elim)
        exact ⟨n, by simpa [Value.cells, MemPlace.row] using key⟩
      | false =>
        obtain ⟨n, key⟩ := shut_slice_cells (enc := enc) (w := W') (base := 0) (spare := fun b => decide (b < W.heap.size)) (held := true) (a := a) (len := 0) (cap := 0) hu (Nat.zero_le _) (Nat.le_refl _) hm hsp (fun i => .agg [D0 i, D1 i]) (fun i => P0 i ++ P1 i) (fun i hi => (hno i hi).elim)
        exact ⟨n, by simpa [Value.cells, MemPlace.row] using key⟩
    · obtain ⟨ab, ao, spot⟩ := a
      have hspot : spot = none := by simpa [Addr.add] using World.cell?_spot (hall 0 h0).1
      subst hspot
      have hboth : ∀ i, i < m → ∃ q : Bool × ByteArray, V0 i = .bool q.1 ∧ V1 i = .string q.2 ∧ D0 i = .lit (.bool q.1) ∧ D1 i = .lit (.string q.2.data.toList) ∧ P0 i = [] ∧ P1 i = [] ∧ q.2.size ≤ maxLen := fun i hi => by
        obtain ⟨x, e0, e1⟩ := DataW.trod_bool Tryz.underlying4 (hall i hi).2.2.1
        obtain ⟨s, e2, e3, hs⟩ := DataW.trod_string Tryz.underlying9 (hall i hi).2.2.2
        simp at e0 e2
        simp only [Prod.mk.injEq] at e1 e3
        exact ⟨(x, s), e0, e2, e1.1, e3.1, e1.2, e3.2, hs⟩
      obtain ⟨q, hq⟩ := choose_lt2 hboth
      have hlt : ab < W.heap.size := by
        have := World.block_lt_of_cell? W _ (hall 0 h0).1
        simpa [Addr.add] using this
      refine ⟨(List.range len0).map q, ⟨some ⟨ab, ao, none⟩, ab, ao, m, by simp, by simpa using hl, hm, fun _ => rfl, fun k hk => ?_⟩, fun x hx => ?_, fun W' hb' => ?_⟩
      · have hk' : k < len0 := by simpa using hk
        have h1 := (hall k (by omega)).1
        have h2 := (hall k (by omega)).2.1
        rw [(hq k (by omega)).1] at h1
        rw [(hq k (by omega)).2.1] at h2
        rw [add_plain] at h1 h2
        simp only [List.getElem_map, List.getElem_range]
        exact ⟨h1, by simpa [Nat.add_assoc] using h2⟩
      · obtain ⟨i, hi, rfl⟩ := List.mem_map.1 hx
        have hi' := List.mem_range.1 hi
        have := (hq i (by omega)).2.2.2.2.2.2
        unfold maxLen at this
        omega
      · have key := shut_slice_pairs_whole (enc := enc) (w := W') (base := 0) (spare := fun b => decide (b < W.heap.size)) (held := true) hu he c2 rfl rfl cb cs (b := ab) (off := ao) (len := len0) (cap := m) (Nat.zero_le _) hl hm (by simpa using hlt)
          V0 V1 D0 D1 P0 P1
          (fun i hi => by have h1 := (hall i hi).1; rw [add_plain] at h1; exact at_old hb' h1)
          (fun i hi => by have h1 := (hall i hi).2.1; rw [add_plain] at h1; exact at_old hb' (by simpa [Nat.add_assoc] using h1))
          (fun i hi => by
            obtain ⟨e1, e2, e3, e4, e5, e6, e7⟩ := hq i hi
            exact ⟨1, by rw [e1, e3, e5]; simp [DataW.trod, Tryz.underlying4]⟩)
          (fun i hi => by
            obtain ⟨e1, e2, e3, e4, e5, e6, e7⟩ := hq i hi
            exact ⟨1, by rw [e2, e4, e6]; simp [DataW.trod, Tryz.underlying9, e7]⟩)
        obtain ⟨n, key⟩ := key
        exact ⟨n, by simpa [Value.cells] using key⟩
end Go.Proofs.YtepddegphdlbeaaGreat

/- PolyScales gives true for all polynomials and integers (P2.3, P2.6), and leaves its arguments as they were. No condition. -/
namespace Go.Proofs.YtepddegphdlbeaaGreat
open Go.ChangeShapes Go.WideShapes Go.ChangeAt Go.RowKit Go.Joins
open Go.ChangeMaps (open_string shut_string)

set_option maxRecDepth 100000 in
theorem pscales_lifted (os : Os) (started : os.Started) (H : Type) (enc : TypeId × Value → H) :
    ReturnsInHanded {} Tryz.checked os 5 .any (Rows.polyScalesSpec.pre6 enc Tryz.prog Tryz.f5 Rows.polyScalesRow.domain false) (Rows.polyScalesSpec.post enc Tryz.prog Tryz.f5 false true false false) := by
  refine returnsInHanded_of_change (C := Tryz.checked) Tryz.own started (by kernel_rfl) Tryz.func5
    (ChangeSpec.witness6 (enc := enc) (C := Tryz.checked) false ⟨#[], #[.slice none 0 0, .agg #[.bool false, .string ⟨#[]⟩]], []⟩ 8 (by kernel_rfl) (by kernel_rfl) (by kernel_rfl) (by kernel_rfl)) ?_
  intro W base args ds gs before hval0 hW hcnd _
  have hval : ∀ (j : Nat) t v, Tryz.f5.params[j]? = some t → args[j]? = some v → Value.okWide Tryz.prog W .any base t v := hval0
  have hW' := hW
  obtain ⟨p, q, hA0, hV, rfl, hfz, hnd⟩ := hW
  have hA : DataW.TrodAll enc Tryz.prog W 0 (fun _ => true) true Tryz.f5.params.toList args.toList ds p := hA0
  rw [Tryz.params5] at hA hval
  obtain ⟨v0, v1, d0, d1, p0, p1, rfl, rfl, rfl, h0, h1⟩ := trodAll_two hA
  obtain ⟨rfl, rfl⟩ := trodVars_none hV
  obtain ⟨L0, r0, z0, t0⟩ := open_poly (hval 0 23 v0 rfl rfl) h0
  obtain ⟨b, s, rfl, rfl, rfl, hs⟩ := open_wide (hval 1 44 v1 rfl rfl) h1
  clear hA0 hval0
  refine (psc_any L0 v0 b s W r0 z0 (by unfold maxLen at hs; omega)).mono fun e W' ⟨he, bel⟩ => ?_
  subst he
  exact ⟨_, rfl, _, _, _, [], _, [], hW', trodAll_mk1 (shut_bool Tryz.underlying4 _), trodAll_mk2 (t0 W' bel) (shut_wide hs), rfl, bel.frame _, fun h => by cases h⟩

/-- The statement. -/
theorem pscales_holds : Rows.PolyScalesSaid :=
  OpenClaim.holds_of_wide 5 Tryz.f5 rfl rfl rfl rfl rfl rfl rfl ⟨rfl, rfl, rfl, rfl, rfl⟩ rfl rfl rfl rfl rfl (by kernel_rfl) Tryz.func5 (by kernel_rfl)
    (of_decide_eq_true (by kernel_rfl)) (by unfold Func.isWrapper; first | (rw [if_pos (by decide +kernel)]; kernel_rfl) | (rw [if_neg (by decide +kernel)]; exact ⟨rfl, rfl⟩))
    (fun os started H enc _ => pscales_lifted os started H enc)
#print axioms pscales_holds
end Go.Proofs.YtepddegphdlbeaaGreat
