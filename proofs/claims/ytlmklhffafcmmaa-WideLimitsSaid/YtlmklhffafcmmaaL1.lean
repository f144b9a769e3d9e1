/- WideLimits gives true for every int and every bool (P1.1, P1.3, P1.4, P1.6, P1.8). No condition. -/
import Derived.Test.YtlmklhffafcmmaaRows
import Derived.Test.YtlmklhffafcmmaaL0

/- WideLimits gives true for every int and every bool (P1.1, P1.3, P1.4, P1.6, P1.8). No condition. -/
namespace Go.Proofs.Ytlmklhffafcmmaa
open Go.ChangeShapes Go.WideShapes Go.ChangeAt Go.RowKit Go.Joins
open Go.ChangeMaps (open_string shut_string)

set_option maxRecDepth 100000 in
set_option maxHeartbeats 1000000 in
theorem limits_out (n : Int) (a : Bool) (w : World) (h1 : -9223372036854775808 ≤ n) (h2 : n ≤ 9223372036854775807) (h : n < 1 ∨ 8191 < n) :
    Calls Try.prog 9 #[.int .i64 n, .bool a] w (Ret (.bool true) w) := by
  have H_known := Lib.hid known_true
  rcases h with h | h
  · go_enter Try.func9, Try.ntmps9
    go_wp2_with fail
    refine (H_known.out _).mono ?_
    rintro e x1 ⟨rfl, b1⟩
    have HZ := Lib.hid b1
    clear b1
    go_wp2
    go_ret
    exact ⟨rfl, HZ.out⟩
  · have h' : ¬ n < 1 := by omega
    go_enter Try.func9, Try.ntmps9
    go_wp2_with fail
    refine (H_known.out _).mono ?_
    rintro e x1 ⟨rfl, b1⟩
    have HZ := Lib.hid b1
    clear b1
    go_wp2
    go_ret
    exact ⟨rfl, HZ.out⟩
theorem limits_any (n : Int) (a : Bool) (w : World) (h1 : -9223372036854775808 ≤ n) (h2 : n ≤ 9223372036854775807) :
    Calls Try.prog 9 #[.int .i64 n, .bool a] w (Ret (.bool true) w) := by
  by_cases h : n < 1 ∨ 8191 < n
  · exact limits_out n a w h1 h2 h
  · obtain ⟨k, rfl⟩ : ∃ k : Nat, n = (k : Int) := ⟨n.toNat, by omega⟩
    obtain ⟨K, hK⟩ : ∃ K : Nat, K = 8192 := ⟨_, rfl⟩
    obtain ⟨J, hJ⟩ : ∃ J : Nat, J = 65536 := ⟨_, rfl⟩
    obtain ⟨c1, c2, c3, c4, c5, c6, c7, c8, c9, c10⟩ := limits_nums k (K - k) (K + 1 - k) K hK (by omega) (by omega) (by omega) (by omega)
    have e1 := bs_ff K
    have e8 : ff K = ff 8192 := by rw [hK]
    exact limits_good k (K - k) (K + 1 - k) _ _ _ _ a w (by omega) (by omega) (by omega) (by omega) c1 (e1.trans e8) (bs_ff _) (bs_ff _) (bs_ff _) c2 c3 c4 c5 c6 c7 c8 c9 c10 J hJ (by unfold Top; rw [TopBits_eq, hJ])

set_option maxRecDepth 100000 in
theorem limits_lifted (os : Os) (started : os.Started) (H : Type) (enc : TypeId × Value → H) :
    ReturnsInHanded {} Try.checked os 9 .any (Rows.wideLimitsSpec.pre6 enc Try.prog Try.f9 Rows.wideLimitsRow.domain false) (Rows.wideLimitsSpec.post enc Try.prog Try.f9 false true false false) := by
  refine returnsInHanded_of_change (C := Try.checked) Try.own started (by kernel_rfl) Try.func9
    (ChangeSpec.witness6 (enc := enc) (C := Try.checked) false ⟨#[], #[.int .i64 0, .bool false], []⟩ 8 (by kernel_rfl) (by kernel_rfl) (by kernel_rfl) (by kernel_rfl)) ?_
  intro W base args ds gs before hval0 hW hcnd _
  have hval : ∀ (j : Nat) t v, Try.f9.params[j]? = some t → args[j]? = some v → Value.okWide Try.prog W .any base t v := hval0
  have hW' := hW
  obtain ⟨p, q, hA0, hV, rfl, hfz, hnd⟩ := hW
  have hA : DataW.TrodAll enc Try.prog W 0 (fun _ => true) true Try.f9.params.toList args.toList ds p := hA0
  rw [Try.params9] at hA hval
  obtain ⟨v0, v1, d0, d1, p0, p1, rfl, rfl, rfl, h0, h1⟩ := trodAll_two hA
  obtain ⟨rfl, rfl⟩ := trodVars_none hV
  obtain ⟨n, rfl, rfl, rfl, wn⟩ := open_int Try.underlying3 (hval 0 3 v0 rfl rfl) h0
  obtain ⟨a, rfl, rfl, rfl⟩ := open_bool Try.underlying4 (hval 1 4 v1 rfl rfl) h1
  clear hA0 hval0
  have bn := bounds_i64 wn
  refine (limits_any n a W (by omega) (by omega)).mono fun e W' ⟨he, bel⟩ => ?_
  subst he
  exact ⟨_, rfl, _, _, _, [], _, [], hW', trodAll_mk1 (shut_bool Try.underlying4 _), trodAll_mk2 (shut_int Try.underlying3 wn) (shut_bool Try.underlying4 _), rfl, bel.frame _, fun h => by cases h⟩

/-- The statement. -/
theorem limits_holds : Rows.WideLimitsSaid :=
  OpenClaim.holds_of_wide 9 Try.f9 rfl rfl rfl rfl rfl rfl rfl ⟨rfl, rfl, rfl, rfl, rfl⟩ rfl rfl rfl rfl rfl (by kernel_rfl) Try.func9 (by kernel_rfl)
    (of_decide_eq_true (by kernel_rfl)) (by unfold Func.isWrapper; first | (rw [if_pos (by decide +kernel)]; kernel_rfl) | (rw [if_neg (by decide +kernel)]; exact ⟨rfl, rfl⟩))
    (fun os started H enc _ => limits_lifted os started H enc)
#print axioms limits_holds
end Go.Proofs.Ytlmklhffafcmmaa
