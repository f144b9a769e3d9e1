/- HullHulls gives true for all lists of vectors (P7.1), and leaves its argument as it was. No condition. -/
import Derived.Test.YtbhdejlikipahaaZ9
import Derived.Laws.AppendOwn
import Derived.Test.YtbhdejlikipahaaRows

/- HullHulls: the walk over what its calls give. -/
set_option linter.all false
namespace Go.Proofs.Ytbhdejlikipahaa
open Go.RowKit

set_option maxRecDepth 100000 in
set_option maxHeartbeats 4000000 in
theorem hulls_long (L : List T3) (v : Value) (w : World) (hl : Rv w v L) (h : 12 < L.length) :
    Calls Try.prog 3 #[v] w (Ret (.bool true) w) := by
  have E := Lib.hid (Below.refl w.heap.size w)
  obtain ⟨p, b, off, cap, rfl, -⟩ := hl
  have i0 : (12 : Int) < (L.length : Int) := by omega
  go_enter Try.func3, Try.ntmps3
  go_wp2_with fail
  refine (known_true _).mono ?_
  rintro e y1 ⟨rfl, b⟩
  have E := Lib.hid (chain E.out b)
  clear b
  go_wp2
  go_ret
  exact ⟨rfl, E.out⟩

set_option maxRecDepth 100000 in
set_option maxHeartbeats 8000000 in
theorem hulls_bad (L : List T3) (v : Value) (w : World) (hl : Rv w v L) (hne : L = [] → v = .slice none 0 0 ∨ ∃ ad c, v = .slice (some ad) 0 c) (hmx : L.length ≤ 12) (hv : inL 1048576 L = false) :
    Calls Try.prog 3 #[v] w (Ret (.bool true) w) := by
  have E := Lib.hid (Below.refl w.heap.size w)
  have R := Lib.hid hl
  have HNE := Lib.hid hne
  have HV := Lib.hid hv
  clear hv
  clear hl hne
  have e0 : ([] : List T3) ++ L = L := rfl
  have HLN : Hid (L.length ≤ 1000000) := by show _ ≤ _; omega
  have i0 : ¬ (12 : Int) < (L.length : Int) := by omega
  obtain ⟨p, b, off, cap, rfl, -⟩ := id R.out
  clear e0
  obtain ⟨n, hn⟩ : ∃ n, n = L.length := ⟨_, rfl⟩
  rw [← hn] at i0
  have HN := Lib.hid hn
  rw [← hn] at R HNE
  rw [← hn]
  clear hn 
  go_enter Try.func3, Try.ntmps3
  go_wp2_with (at_builtin; refine wpList_append_V rfl rfl _ _ rfl rfl rfl (RowV.nil _ w.heap.size) R.out (by show 0 ≤ 1000000; decide) HLN.out (Nat.le_refl _) HNE.out ?_; intro vo y0 hrow hg; have RO := Lib.hid hrow.rv; have B0 := below_of_grown (show w.grownBy y0 none from hg); have E := Lib.hid (chain E.out B0); have R := Lib.hid (R.out.below B0); clear hrow hg B0)
  go_wp2_with fail
  refine (Hull_bad L _ _ RO.out (by rw [HV.out, Bool.and_false])).mono ?_
  rintro e y1 ⟨rfl, b⟩
  have R := Lib.hid (R.out.below b)
  have RO := Lib.hid (RO.out.below b)
  have E := Lib.hid (chain E.out b)
  clear b
  go_wp2_with fail
  refine (Same_yes L _ _ _ RO.out R.out).mono ?_
  rintro e y2 ⟨rfl, b⟩
  have R := Lib.hid (R.out.below b)
  have RO := Lib.hid (RO.out.below b)
  have E := Lib.hid (chain E.out b)
  clear b
  go_wp2_with fail
  refine ((show Calls Try.prog 12 _ _ (Ret (.bool false) _) from by have := Points_any L _ _ R.out; rwa [HV.out] at this)).mono ?_
  rintro e y3 ⟨rfl, b⟩
  have R := Lib.hid (R.out.below b)
  have RO := Lib.hid (RO.out.below b)
  have E := Lib.hid (chain E.out b)
  clear b
  go_wp2_with fail
  refine (known_true _).mono ?_
  rintro e y4 ⟨rfl, b⟩
  have R := Lib.hid (R.out.below b)
  have RO := Lib.hid (RO.out.below b)
  have E := Lib.hid (chain E.out b)
  clear b
  go_wp2
  go_ret
  exact ⟨rfl, E.out⟩

set_option maxRecDepth 100000 in
set_option maxHeartbeats 8000000 in
theorem hulls_none (v : Value) (w : World) (hl : Rv w v []) (hne : ([] : List T3) = [] → v = .slice none 0 0 ∨ ∃ ad c, v = .slice (some ad) 0 c) :
    Calls Try.prog 3 #[v] w (Ret (.bool true) w) := by
  have E := Lib.hid (Below.refl w.heap.size w)
  have R := Lib.hid hl
  have HNE := Lib.hid hne
  clear hl hne
  obtain ⟨p, b, off, cap, e0, -⟩ := id R.out
  have e1 : v = .slice p 0 cap := e0
  subst e1
  clear e0
  go_enter Try.func3, Try.ntmps3
  go_wp2_with (at_builtin; refine wpList_append_V rfl rfl _ _ rfl rfl rfl (RowV.nil _ w.heap.size) R.out (by show 0 ≤ 1000000; decide) (by show 0 ≤ 1000000; decide) (Nat.le_refl _) HNE.out ?_; intro vo y0 hrow hg; have RO := Lib.hid hrow.rv; have B0 := below_of_grown (show w.grownBy y0 none from hg); have E := Lib.hid (chain E.out B0); have R := Lib.hid (R.out.below B0); clear hrow hg B0)
  go_wp2_with fail
  refine (Hull_none [] _ _ RO.out rfl).mono ?_
  rintro e y1 ⟨rfl, b⟩
  have R := Lib.hid (R.out.below b)
  have RO := Lib.hid (RO.out.below b)
  have E := Lib.hid (chain E.out b)
  clear b
  go_wp2_with fail
  refine (Same_yes [] _ _ _ RO.out R.out).mono ?_
  rintro e y2 ⟨rfl, b⟩
  have R := Lib.hid (R.out.below b)
  have RO := Lib.hid (RO.out.below b)
  have E := Lib.hid (chain E.out b)
  clear b
  go_wp2_with fail
  refine ((show Calls Try.prog 12 _ _ (Ret (.bool true) _) from Points_any [] _ _ R.out)).mono ?_
  rintro e y3 ⟨rfl, b⟩
  have R := Lib.hid (R.out.below b)
  have RO := Lib.hid (RO.out.below b)
  have E := Lib.hid (chain E.out b)
  clear b
  go_wp2_with fail
  refine (known_true _).mono ?_
  rintro e y4 ⟨rfl, b⟩
  have R := Lib.hid (R.out.below b)
  have RO := Lib.hid (RO.out.below b)
  have E := Lib.hid (chain E.out b)
  clear b
  go_wp2
  go_ret
  exact ⟨rfl, E.out⟩

set_option maxRecDepth 100000 in
set_option maxHeartbeats 8000000 in
theorem hulls_ok (L : List T3) (v : Value) (w : World) (hl : Rv w v L) (hne : L = [] → v = .slice none 0 0 ∨ ∃ ad c, v = .slice (some ad) 0 c) (hmx : L.length ≤ 12) (h0 : 0 < L.length) (hv : inL 1048576 L = true) (H : List Hl.P2) (hC : cornersT t3 L = fl H) (hH : Hl.IsH (L.map pl) H) :
    Calls Try.prog 3 #[v] w (Ret (.bool true) w) := by
  have E := Lib.hid (Below.refl w.heap.size w)
  have R := Lib.hid hl
  have HNE := Lib.hid hne
  have HV : Hid (0 < L.length ∧ L.length ≤ 10000 ∧ inL 1048576 L = true) := ⟨h0, by omega, hv⟩
  have HC := Lib.hid hC
  have HH := Lib.hid hH
  have HB : Hid (∀ a ∈ L.map (fun a => (a.1, a.2.1)), inV 16777216 a.1 a.2 0 = true) := by
    intro a ha
    obtain ⟨b, hb, rfl⟩ := List.mem_map.1 ha
    have := inV_iff.1 (inL_mem hv b hb)
    exact inV_iff.2 ⟨by show _ ≤ b.1 ∧ b.1 ≤ _; omega, by show _ ≤ b.2.1 ∧ b.2.1 ≤ _; omega, by omega⟩
  clear hv hC hH
  clear hl hne
  have e0 : ([] : List T3) ++ L = L := rfl
  have HLN : Hid (L.length ≤ 1000000) := by show _ ≤ _; omega
  have i0 : ¬ (12 : Int) < (L.length : Int) := by omega
  obtain ⟨p, b, off, cap, rfl, -⟩ := id R.out
  clear e0
  obtain ⟨n, hn⟩ : ∃ n, n = L.length := ⟨_, rfl⟩
  rw [← hn] at i0 h0
  have i1 : ¬ (n : Int) = 0 := by omega
  have HN := Lib.hid hn
  rw [← hn] at R HNE
  rw [← hn]
  clear hn 
  go_enter Try.func3, Try.ntmps3
  go_wp2_with (at_builtin; refine wpList_append_V rfl rfl _ _ rfl rfl rfl (RowV.nil _ w.heap.size) R.out (by show 0 ≤ 1000000; decide) HLN.out (Nat.le_refl _) HNE.out ?_; intro vo y0 hrow hg; have RO := Lib.hid hrow.rv; have B0 := below_of_grown (show w.grownBy y0 none from hg); have E := Lib.hid (chain E.out B0); have R := Lib.hid (R.out.below B0); clear hrow hg B0)
  go_wp2_with fail
  refine (Hull_ok L _ _ RO.out HV.out.1 HV.out.2.1 HV.out.2.2).mono ?_
  rintro e y1 ⟨vh, rfl, hr, b⟩
  have R := Lib.hid (R.out.below b)
  have RO := Lib.hid (RO.out.below b)
  have RH : Hid (Rv y1 vh (fl H)) := by have h := hr.rv; rw [HC.out] at h; exact h
  have E := Lib.hid (chain E.out b)
  clear b hr
  go_wp2_with fail
  refine (Same_yes L _ _ _ RO.out R.out).mono ?_
  rintro e y2 ⟨rfl, b⟩
  have R := Lib.hid (R.out.below b)
  have RO := Lib.hid (RO.out.below b)
  have E := Lib.hid (chain E.out b)
  have RH := Lib.hid (RH.out.below b)
  clear b
  go_wp2_with fail
  refine ((show Calls Try.prog 12 _ _ (Ret (.bool true) _) from by have := Points_any L _ _ R.out; rwa [HV.out.2.2] at this)).mono ?_
  rintro e y3 ⟨rfl, b⟩
  have R := Lib.hid (R.out.below b)
  have RO := Lib.hid (RO.out.below b)
  have E := Lib.hid (chain E.out b)
  have RH := Lib.hid (RH.out.below b)
  clear b
  go_wp2_with fail
  refine (refHull_walk L _ _ _ H rfl HH.out R.out (by have := HV.out.2.1; omega) HB.out).mono ?_
  rintro e y4 ⟨vr, rfl, hr, b⟩
  have R := Lib.hid (R.out.below b)
  have RO := Lib.hid (RO.out.below b)
  have RH := Lib.hid (RH.out.below b)
  have RR := Lib.hid hr.rv
  have E := Lib.hid (chain E.out b)
  clear b hr
  go_wp2_with fail
  refine (Same_yes (fl H) _ _ _ RH.out RR.out).mono ?_
  rintro e y5 ⟨rfl, b⟩
  have R := Lib.hid (R.out.below b)
  have RO := Lib.hid (RO.out.below b)
  have E := Lib.hid (chain E.out b)
  clear b
  go_wp2_with fail
  refine (known_true _).mono ?_
  rintro e y6 ⟨rfl, b⟩
  have R := Lib.hid (R.out.below b)
  have RO := Lib.hid (RO.out.below b)
  have E := Lib.hid (chain E.out b)
  clear b
  go_wp2
  go_ret
  exact ⟨rfl, E.out⟩

/-- HullHulls gives true for every list of vectors. -/
theorem hulls_any (L : List T3) (v : Value) (w : World) (hl : Rv w v L) (hne : L = [] → v = .slice none 0 0 ∨ ∃ ad c, v = .slice (some ad) 0 c) :
    Calls Try.prog 3 #[v] w (Ret (.bool true) w) := by
  by_cases h1 : 12 < L.length
  · exact hulls_long L v w hl h1
  · by_cases h2 : inL 1048576 L = true
    · by_cases h3 : 0 < L.length
      · obtain ⟨H, hC, hH⟩ := corners_hull L h3
        exact hulls_ok L v w hl hne (by omega) h3 h2 H hC hH
      · obtain rfl := List.eq_nil_of_length_eq_zero (show L.length = 0 by omega)
        exact hulls_none v w hl hne
    · exact hulls_bad L v w hl hne (by omega) (Bool.eq_false_iff.2 h2)
end Go.Proofs.Ytbhdejlikipahaa

/- HullHulls gives true for all lists of vectors (P7.1), and leaves its argument as it was. No condition. -/
set_option linter.all false
namespace Go.Proofs.Ytbhdejlikipahaa
open Go.ChangeShapes Go.WideShapes Go.ChangeAt Go.RowKit Go.Joins Go.Deep

set_option maxRecDepth 100000 in
theorem hhulls_lifted (os : Os) (started : os.Started) (H : Type) (enc : TypeId × Value → H) :
    ReturnsInHanded {} Try.checked os 3 .any (Rows.hullHullsSpec.pre6 enc Try.prog Try.f3 Rows.hullHullsRow.domain false) (Rows.hullHullsSpec.post enc Try.prog Try.f3 false true false false) := by
  refine returnsInHanded_of_change (C := Try.checked) Try.own started (by kernel_rfl) Try.func3
    (ChangeSpec.witness6 (enc := enc) (C := Try.checked) false ⟨#[], #[.slice none 0 0], []⟩ 8 (by kernel_rfl) (by kernel_rfl) (by kernel_rfl) (by kernel_rfl)) ?_
  intro W base args ds gs before hval0 hW hcnd _
  have hval : ∀ (j : Nat) t v, Try.f3.params[j]? = some t → args[j]? = some v → Value.okWide Try.prog W .any base t v := hval0
  have hW' := hW
  obtain ⟨p, q, hA0, hV, rfl, hfz, hnd⟩ := hW
  have hA : DataW.TrodAll enc Try.prog W 0 (fun _ => true) true Try.f3.params.toList args.toList ds p := hA0
  rw [Try.params3] at hA hval
  obtain ⟨v0, d0, rfl, rfl, h0⟩ := trodAll_one hA
  obtain ⟨rfl, rfl⟩ := trodVars_none hV
  obtain ⟨L, r0⟩ := open_vecs (hval 0 22 v0 rfl rfl) h0
  have hsh := vecs_none r0 (vecs_shape (hval 0 22 v0 rfl rfl) h0)
  clear hA0 hval0
  refine (hulls_any L v0 W r0 hsh).mono fun e W' ⟨he, bel⟩ => ?_
  subst he
  exact ⟨_, rfl, _, _, _, [], _, [], hW', trodAll_mk1 (shut_bool Try.underlying4 _), trodAll_mk1 (Below.trod Try.laidOut (by kernel_rfl) (of_decide_eq_true (by kernel_rfl)) h0 bel (fun x hx => by simpa using hW'.lt x (by simpa using hx))), rfl, bel.frame _, fun h => by cases h⟩

/-- The statement. -/
theorem hhulls_holds : Rows.HullHullsSaid :=
  OpenClaim.holds_of_wide 3 Try.f3 rfl rfl rfl rfl rfl rfl rfl ⟨rfl, rfl, rfl, rfl, rfl⟩ rfl rfl rfl rfl rfl (by kernel_rfl) Try.func3 (by kernel_rfl)
    (of_decide_eq_true (by kernel_rfl)) (by unfold Func.isWrapper; first | (rw [if_pos (by decide +kernel)]; kernel_rfl) | (rw [if_neg (by decide +kernel)]; exact ⟨rfl, rfl⟩))
    (fun os started H enc _ => hhulls_lifted os started H enc)
#print axioms hhulls_holds
end Go.Proofs.Ytbhdejlikipahaa
