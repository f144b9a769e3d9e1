/- HullGrids gives true for all numbers (P7.1, P7.3), and leaves its arguments as they were. No condition. -/
import Derived.Test.YtpkfngfenkcjoaaZ9
import Derived.Test.YtpkfngfenkcjoaaW0
import Derived.Test.YtpkfngfenkcjoaaRows

/- HullGrids: the walk. -/
set_option linter.all false
namespace Go.Proofs.Ytpkfngfenkcjoaa
open Go.RowKit

set_option maxRecDepth 100000 in
set_option maxHeartbeats 16000000 in
theorem grids_A (r c s : Nat) (w : World) (hr : 1 ≤ r) (hc : 1 ≤ c) (hs : 1 ≤ s) (hr1 : r ≤ 100) (hc1 : c ≤ 100) (hs1 : s ≤ 1000) (hA' : r = 1) (hB' : c = 1) :
    Calls Try.prog 4 #[.int .i64 (r : Int), .int .i64 (c : Int), .int .i64 (s : Int)] w (Ret (.bool true) w) := by
  have E : Hid (Below w.heap.size w w) := Below.refl _ _
  have RL : Hid (RowV w w.heap.size (.slice none 0 0) []) := RowV.nil w _
  have HLP : Hid (0 < (gall c s r).length) := by show _ < _; rw [gall_len]; exact Nat.mul_pos hr hc
  have HLM : Hid ((gall c s r).length ≤ 10000) := by show _ ≤ _; rw [gall_len]; exact Nat.mul_le_mul hr1 hc1
  have HLI : Hid (inL 1048576 (gall c s r) = true) := gall_in hr1 hc1 hs1
  have HCR : Hid (cornersT t3 (gall c s r) = fl (gcor c s r)) := grid_hull hr hc hs
  have HV : Hid (VH (fl (gcor c s r))) := grid_vh hr hc hs hr1 hc1 hs1
  obtain ⟨R, hR⟩ : ∃ R, R = ((c - 1 : Nat) : Int) * (s : Int) := ⟨_, rfl⟩
  obtain ⟨T, hT⟩ : ∃ T, T = ((r - 1 : Nat) : Int) * (s : Int) := ⟨_, rfl⟩
  have hRb := mul_lim (show c - 1 ≤ 99 by omega) hs1
  have hTb := mul_lim (show r - 1 ≤ 99 by omega) hs1
  obtain ⟨A2, hA2⟩ : ∃ A, A = 2 * R := ⟨_, rfl⟩
  obtain ⟨A, hA⟩ : ∃ A, A = A2 * T := ⟨_, rfl⟩
  have HAR : Hid (aS (fl (gcor c s r)) (fl (gcor c s r)).length = A) := by show _ = _; rw [grid_area, hA, hA2, hR, hT]
  have HH : Hid (gcor c s r = [(0, 0)]) := by
    show _ = _
    unfold gcor
    rw [if_pos hA', if_pos hB']
  have hAb : 0 ≤ A ∧ A ≤ 19602000000 := by
    rw [hA, hA2, hR, hT]
    have h1 := Int.mul_nonneg (show 0 ≤ 2 * (((c - 1 : Nat) : Int) * (s : Int)) by omega) hTb.1
    have h2 := Int.mul_le_mul (show 2 * (((c - 1 : Nat) : Int) * (s : Int)) ≤ 198000 by omega) hTb.2 hTb.1 (by omega)
    omega
  rw [← hR] at hRb
  rw [← hT] at hTb
  have w1 : IntKind.i64.wrap ((c : Int) - 1) = ((c - 1 : Nat) : Int) := by rw [show (c : Int) - 1 = ((c - 1 : Nat) : Int) by omega]; exact wrap_in (by omega)
  have w2 : IntKind.i64.wrap (((c - 1 : Nat) : Int) * (s : Int)) = R := by rw [← hR]; exact wrap_in (by omega)
  have w3 : IntKind.i64.wrap ((r : Int) - 1) = ((r - 1 : Nat) : Int) := by rw [show (r : Int) - 1 = ((r - 1 : Nat) : Int) by omega]; exact wrap_in (by omega)
  have w4 : IntKind.i64.wrap (((r - 1 : Nat) : Int) * (s : Int)) = T := by rw [← hT]; exact wrap_in (by omega)
  have w5 : IntKind.i64.wrap (2 * R) = A2 := by rw [← hA2]; exact wrap_in (by omega)
  have w6 : IntKind.i64.wrap (A2 * T) = A := by rw [← hA]; exact wrap_in (by omega)
  obtain ⟨c1, hc1'⟩ : ∃ x : Int, x = ((c - 1 : Nat) : Int) := ⟨_, rfl⟩
  obtain ⟨r1, hr1'⟩ : ∃ x : Int, x = ((r - 1 : Nat) : Int) := ⟨_, rfl⟩
  rw [← hc1'] at w1 w2
  rw [← hr1'] at w3 w4
  obtain ⟨L0, hL0⟩ : ∃ L, L = gall c s r := ⟨_, rfl⟩
  have HL0 := Lib.hid hL0
  rw [← hL0] at HLP HLM HLI HCR
  obtain ⟨H, hH⟩ : ∃ H, H = gcor c s r := ⟨_, rfl⟩
  rw [← hH] at HCR HV HAR HH
  have HR0 : Hid (R = 0) := by show _ = _; rw [hR, hB']; simp
  have HT0 : Hid (T = 0) := by show _ = _; rw [hT, hA']; simp
  have HA20 : Hid (A2 = 0) := by show _ = _; rw [hA2, HR0.out]; rfl
  have HA0 : Hid (A = 0) := by show _ = _; rw [hA, HT0.out, Int.mul_zero]
  have HA' := Lib.hid hA'
  have HB' := Lib.hid hB'
  clear hR hT hRb hTb hA2 hA hAb hc1' hr1' hL0 hH hA' hB'
  have W1 := Lib.hid w1
  have W2 := Lib.hid w2
  have W3 := Lib.hid w3
  have W4 := Lib.hid w4
  have W5 := Lib.hid w5
  have W6 := Lib.hid w6
  clear w1 w2 w3 w4 w5 w6
  have i0 : ¬ (r : Int) < 1 := by omega
  have i1 : ¬ 100 < (r : Int) := by omega
  have i2 : ¬ (c : Int) < 1 := by omega
  have i3 : ¬ 100 < (c : Int) := by omega
  have i4 : ¬ (s : Int) < 1 := by omega
  have i5 : ¬ 1000 < (s : Int) := by omega
  go_enter Try.func4, Try.ntmps4
  go_wp2
  go_loopw [7, 8, 9] (fun lv iv kv wr => ∃ (wz : World) (i : Nat) (v : Value), wz = wr ∧ i ≤ r ∧ iv = .int .i64 (i : Int) ∧ v = lv ∧ Hid (RowV wz w.heap.size v (gall c s i)) ∧ Hid (Below w.heap.size w wz))
    (fun _ iv _ _ => r - (intOf iv).toNat)
  case atStart => exact ⟨w, 0, _, rfl, Nat.zero_le _, rfl, rfl, RL, E⟩
  case round =>
    clear E RL
    obtain ⟨wz, i, v, rfl, hi, rfl, rfl, RL, E⟩ := hrel
    by_cases hlt : i < r
    · have j0 : (i : Int) < (r : Int) := by omega
      have RNX : Hid (gall c s (i + 1) = gall c s i ++ grow s i c) := rfl
      have HG0 : Hid (gall c s i ++ grow s i 0 = gall c s i) := by show _ = _; rw [grow, List.append_nil]
      have HLG : Hid ((gall c s i).length ≤ 10000) := by show _ ≤ _; rw [gall_len]; exact Nat.mul_le_mul (show i ≤ 100 by omega) hc1
      obtain ⟨Y, hY⟩ : ∃ Y, Y = (i : Int) * (s : Int) := ⟨_, rfl⟩
      have hYb := mul_lim (show i ≤ 99 by omega) hs1
      rw [← hY] at hYb
      have wY : IntKind.i64.wrap ((i : Int) * (s : Int)) = Y := by rw [← hY]; exact wrap_in (by omega)
      have wi : IntKind.i64.wrap ((i : Int) + 1) = (i : Int) + 1 := wrap_in (by omega)
      have HY := Lib.hid hY
      clear hY hYb
      go_wp2
      go_loopw [7, 9] (fun lv kv wr => ∃ (wz : World) (k : Nat) (v : Value), wz = wr ∧ k ≤ c ∧ kv = .int .i64 (k : Int) ∧ v = lv ∧ Hid (RowV wz w.heap.size v (gall c s i ++ grow s i k)) ∧ Hid (Below w.heap.size w wz))
        (fun _ kv _ => c - (intOf kv).toNat)
      case atStart => exact ⟨wz, 0, _, rfl, Nat.zero_le _, rfl, rfl, by rw [HG0.out]; exact RL, E⟩
      case round =>
        clear E RL
        obtain ⟨wz, k, v, rfl, hk, rfl, rfl, RL, E⟩ := hrel
        by_cases hlk : k < c
        · have j1 : (k : Int) < (c : Int) := by omega
          obtain ⟨X, hX⟩ : ∃ X, X = (k : Int) * (s : Int) := ⟨_, rfl⟩
          have hXb := mul_lim (show k ≤ 99 by omega) hs1
          rw [← hX] at hXb
          obtain ⟨Z, hZ⟩ : ∃ Z, Z = (i : Int) + (k : Int) := ⟨_, rfl⟩
          have wX : IntKind.i64.wrap ((k : Int) * (s : Int)) = X := by rw [← hX]; exact wrap_in (by omega)
          have wZ : IntKind.i64.wrap ((i : Int) + (k : Int)) = Z := by rw [← hZ]; exact wrap_in (by omega)
          have wk : IntKind.i64.wrap ((k : Int) + 1) = (k : Int) + 1 := wrap_in (by omega)
          have RS : Hid (gall c s i ++ grow s i (k + 1) = gall c s i ++ grow s i k ++ [(X, Y, Z)]) := by
            show _ = _
            rw [grow, List.append_assoc, hX, HY.out, hZ]
          have HLEN : Hid ((gall c s i ++ grow s i k).length ≤ 1000000) := by
            show _ ≤ _
            rw [List.length_append, grow_len]
            have := HLG.out
            omega
          clear hX hXb hZ
          have HC6 : Hid (RowV (wz.alloc (.cells #[.int .i64 X, .int .i64 Y, .int .i64 Z] 24)) w.heap.size v (gall c s i ++ grow s i k)) := RL.out.below (below_one _ _)
          have EB6 : Hid (Below w.heap.size w (wz.alloc (.cells #[.int .i64 X, .int .i64 Y, .int .i64 Z] 24))) := E.out.alloc E.out.size _
          have HM6 : Hid (RowV (wz.alloc (.cells #[.int .i64 X, .int .i64 Y, .int .i64 Z] 24)) wz.heap.size (.slice (some ⟨wz.heap.size, 0, none⟩) 1 1) [(X, Y, Z)]) := RowV.made wz _ X Y Z (Nat.le_refl _)
          clear E RL
          go_wp2_with (first
            | (at_builtin; go_loud (refine wpList_append_V rfl rfl _ _ rfl rfl rfl HC6.out HM6.out.rv HLEN.out (by show 1 ≤ 1000000; decide) EB6.out.size (fun h => by cases h) ?_); intro v6 w6 hrow6 hg6; have HN6 := Lib.hid hrow6; have HE6 := Lib.hid (Below.grown_row EB6.out EB6.out.size HC6.out hg6); clear hrow6 hg6))
          go_roundw
          case rel => exact ⟨_, k + 1, _, rfl, by omega, by go_num, rfl, by rw [RS.out]; exact HN6, HE6⟩
          case measure => simp [intOf]; omega
        · obtain rfl : k = c := by omega
          have RN : Hid (RowV wz w.heap.size v (gall k s (i + 1))) := by rw [RNX.out]; exact RL.out
          clear RL RNX hlk hk
          go_wp2
          go_roundw
          case rel => exact ⟨_, i + 1, _, rfl, by omega, by go_num, rfl, RN, E⟩
          case measure => simp [intOf]; omega
    · obtain rfl : i = r := by omega
      have j0 : ¬ (i : Int) < (i : Int) := by omega
      have RL : Hid (RowV wz w.heap.size v L0) := by rw [HL0.out]; exact RL.out
      have w1 := W1.out
      have w2 := W2.out
      have w3 := W3.out
      have w4 := W4.out
      have w5 := W5.out
      have w6 := W6.out
      clear W1 W2 W3 W4 W5 W6 HL0 hi hlt i0 i1 i2 i3 i4 i5
      have hA' := HA'.out
      have hB' := HB'.out
      clear HA' HB'
      have k0 : (i : Int) = 1 := by omega
      have k1 : (c : Int) = 1 := by omega
      clear hA' hB'
      obtain rfl := HR0.out
      obtain rfl := HT0.out
      obtain rfl := HA20.out
      obtain rfl := HA0.out
      go_wp2_with fail
      refine (points_made [0, 0, 0, 0, 0, 0, 0, 0] 4 (by rfl) (by decide) [(0, 0, 0), (0, 0, 0), (0, 0, 0), (0, 0, 0)] (by rfl) _).mono ?_
      rintro e y1 ⟨v1, rfl, hr, b⟩
      have RL := Lib.hid (RL.out.below b)
      have RW := Lib.hid hr
      have E := Lib.hid (chain E.out b)
      clear b hr
      go_wp2_with fail
      refine (points_made [0, 0] 1 (by rfl) (by decide) [(0, 0, 0)] (by rfl) _).mono ?_
      rintro e y2 ⟨v2, rfl, hr, b⟩
      have RL := Lib.hid (RL.out.below b)
      have RW := Lib.hid hr
      have E := Lib.hid (chain E.out b)
      clear b hr
      have RW : Hid (Rv y2 v2 (fl H)) := by have := RW.out; rw [HH.out]; exact this
      go_wp2_with fail
      refine (Hull_ok L0 _ _ RL.out.rv HLP.out HLM.out HLI.out).mono ?_
      rintro e y3 ⟨vh, rfl, hr, b⟩
      have RH : Hid (Rv y3 vh (fl H)) := by have h := hr.rv; rw [HCR.out] at h; exact h
      have RL := Lib.hid (RL.out.below b)
      have RW := Lib.hid (RW.out.below b)
      have E := Lib.hid (chain E.out b)
      clear b hr
      go_wp2_with fail
      refine (Same_yes (fl H) _ _ _ RH.out RW.out).mono ?_
      rintro e y4 ⟨rfl, b⟩
      have RH := Lib.hid (RH.out.below b)
      have RL := Lib.hid (RL.out.below b)
      have E := Lib.hid (chain E.out b)
      clear b RW
      go_wp2_with fail
      refine ((show Calls Try.prog 6 _ _ (Ret (.tuple #[.int .i64 0, .int .i64 0]) _) from by have := Area2_ok (fl H) _ _ RH.out HV.out; rwa [HAR.out] at this)).mono ?_
      rintro e y5 ⟨rfl, b⟩
      have RL := Lib.hid (RL.out.below b)
      have E := Lib.hid (chain E.out b)
      clear b RH
      have h5 : Hid (y5 = y5) := rfl
      go_wp2
      go_loopw [7] (fun lv wr => ∃ (wz : World) (m : Nat) (v : Value), wz = wr ∧ L0.length + m ≤ 10001 ∧ v = lv ∧ Hid (RowV wz w.heap.size v (L0 ++ List.replicate m (0, 0, 0))) ∧ Hid (Below w.heap.size w wz))
        (fun lv _ => 10001 - lnO lv)
      case atStart => exact ⟨y5, 0, _, rfl, by have := HLM.out; omega, rfl, by show RowV _ _ _ _; rw [List.replicate_zero, List.append_nil]; exact RL.out, E⟩
      case round =>
        clear RL E
        obtain ⟨wz, m, v, rfl, hm, rfl, RL, E⟩ := hrel
        obtain ⟨q, hq⟩ : ∃ q, q = (L0 ++ List.replicate m ((0 : Int), (0 : Int), (0 : Int))).length := ⟨_, rfl⟩
        have hq2 : q = L0.length + m := by rw [hq, List.length_append, List.length_replicate]
        have RS : Hid (∀ W v', RowV W w.heap.size v' (L0 ++ List.replicate m (0, 0, 0) ++ [(0, 0, 0)]) → RowV W w.heap.size v' (L0 ++ List.replicate (m + 1) (0, 0, 0))) := fun W v' h => by rwa [List.append_assoc, ← List.replicate_succ'] at h
        have HP := Lib.hid (pad_in HLI.out m)
        obtain ⟨M, hM⟩ : ∃ M, M = L0 ++ List.replicate m ((0 : Int), (0 : Int), (0 : Int)) := ⟨_, rfl⟩
        rw [← hM] at RL RS HP hq
        clear hM
        obtain ⟨p, co, hv⟩ := RL.out.len
        subst hv
        have RV := Lib.hid RL.out.rv
        rw [← hq] at RL RV ⊢
        have HQ := Lib.hid hq
        have HQ2 := Lib.hid hq2
        have HMM := Lib.hid hm
        clear hq hq2 hm
        by_cases hlt : q ≤ 10000
        · have i0 : (q : Int) ≤ 10000 := by omega
          have HC6 : Hid (RowV (wz.alloc (.cells #[.int .i64 0, .int .i64 0, .int .i64 0] 24)) w.heap.size (.slice p q co) M) := RL.out.below (below_one _ _)
          have EB6 : Hid (Below w.heap.size w (wz.alloc (.cells #[.int .i64 0, .int .i64 0, .int .i64 0] 24))) := E.out.alloc E.out.size _
          have HM6 : Hid (RowV (wz.alloc (.cells #[.int .i64 0, .int .i64 0, .int .i64 0] 24)) wz.heap.size (.slice (some ⟨wz.heap.size, 0, none⟩) 1 1) [(0, 0, 0)]) := RowV.made wz _ 0 0 0 (Nat.le_refl _)
          have HLEN : Hid (M.length ≤ 1000000) := by show _ ≤ _; rw [← HQ.out]; omega
          clear RV E RL
          go_wp2_with (first
            | (at_builtin; go_loud (refine wpList_append_V rfl rfl _ _ rfl rfl rfl HC6.out HM6.out.rv HLEN.out (by show 1 ≤ 1000000; decide) EB6.out.size (fun h => by cases h) ?_); intro v6 w6 hrow6 hg6; have HN6 := Lib.hid hrow6; have HE6 := Lib.hid (Below.grown_row EB6.out EB6.out.size HC6.out hg6); clear hrow6 hg6))
          go_roundw
          case rel => exact ⟨_, m + 1, _, rfl, by have h1 : q = L0.length + m := HQ2.out; omega, rfl, RS.out _ _ HN6.out, HE6⟩
          case measure =>
            obtain ⟨p', co', e⟩ := HN6.out.len
            rw [e, List.length_append, ← HQ.out]
            simp [lnO]; omega
        · obtain rfl : q = 10001 := by have h1 : q = L0.length + m := HQ2.out; have h2 : L0.length + m ≤ 10001 := HMM.out; omega
          have HCO : Hid (10001 ≤ co) := by
            obtain ⟨p', b', o', c', e, h2, h3, h4, h5⟩ := RV.out
            injection e with e1 e2 e3
            subst e3
            rw [← HQ.out] at h2
            exact h2
          have hco : (10000 : Int) ≤ (co : Int) := by have := HCO.out; omega
          have HBAD : Hid ((decide (M.length ≤ 10000) && inL 1048576 M) = false) := by
            show _ = _
            rw [← HQ.out]; rfl
          clear hlt
          go_wp2_with fail
          refine (Hull_bad M _ _ RV.out HBAD.out).mono ?_
          rintro e y6 ⟨rfl, b⟩
          have RV := Lib.hid (RV.out.below b)
          have E := Lib.hid (chain E.out b)
          clear b RL
          have RT := Lib.hid (RV.out.take (k := 10000) (by omega))
          have HTL : Hid ((M.take 10000).length = 10000) := by show _ = _; rw [List.length_take, ← HQ.out]; rfl
          have HTI : Hid (inL 1048576 (M.take 10000) = true) := by
            show _ = _
            have := HP.out
            unfold inL at *
            rw [List.all_eq_true] at *
            exact fun a ha => this a (List.mem_of_mem_take ha)
          go_wp2_with fail
          refine (Hull_ok (M.take 10000) _ _ RT.out (by rw [HTL.out]; decide) (by rw [HTL.out]; decide) HTI.out).mono ?_
          rintro e y7 ⟨v7, rfl, hr, b⟩
          have E := Lib.hid (chain E.out b)
          clear b hr
          go_wp2_with fail
          refine (known_true _).mono ?_
          rintro e y8 ⟨rfl, b⟩
          have E := Lib.hid (chain E.out b)
          clear b
          go_wp2
          go_ret
          exact ⟨rfl, E.out⟩

set_option maxRecDepth 100000 in
set_option maxHeartbeats 16000000 in
theorem grids_B (r c s : Nat) (w : World) (hr : 1 ≤ r) (hc : 1 ≤ c) (hs : 1 ≤ s) (hr1 : r ≤ 100) (hc1 : c ≤ 100) (hs1 : s ≤ 1000) (hA' : r = 1) (hB' : ¬ c = 1) :
    Calls Try.prog 4 #[.int .i64 (r : Int), .int .i64 (c : Int), .int .i64 (s : Int)] w (Ret (.bool true) w) := by
  have E : Hid (Below w.heap.size w w) := Below.refl _ _
  have RL : Hid (RowV w w.heap.size (.slice none 0 0) []) := RowV.nil w _
  have HLP : Hid (0 < (gall c s r).length) := by show _ < _; rw [gall_len]; exact Nat.mul_pos hr hc
  have HLM : Hid ((gall c s r).length ≤ 10000) := by show _ ≤ _; rw [gall_len]; exact Nat.mul_le_mul hr1 hc1
  have HLI : Hid (inL 1048576 (gall c s r) = true) := gall_in hr1 hc1 hs1
  have HCR : Hid (cornersT t3 (gall c s r) = fl (gcor c s r)) := grid_hull hr hc hs
  have HV : Hid (VH (fl (gcor c s r))) := grid_vh hr hc hs hr1 hc1 hs1
  obtain ⟨R, hR⟩ : ∃ R, R = ((c - 1 : Nat) : Int) * (s : Int) := ⟨_, rfl⟩
  obtain ⟨T, hT⟩ : ∃ T, T = ((r - 1 : Nat) : Int) * (s : Int) := ⟨_, rfl⟩
  have hRb := mul_lim (show c - 1 ≤ 99 by omega) hs1
  have hTb := mul_lim (show r - 1 ≤ 99 by omega) hs1
  obtain ⟨A2, hA2⟩ : ∃ A, A = 2 * R := ⟨_, rfl⟩
  obtain ⟨A, hA⟩ : ∃ A, A = A2 * T := ⟨_, rfl⟩
  have HAR : Hid (aS (fl (gcor c s r)) (fl (gcor c s r)).length = A) := by show _ = _; rw [grid_area, hA, hA2, hR, hT]
  have HH : Hid (gcor c s r = [(0, 0), (R, 0)]) := by
    show _ = _
    unfold gcor
    rw [if_pos hA', if_neg hB', ← hR]
  have hAb : 0 ≤ A ∧ A ≤ 19602000000 := by
    rw [hA, hA2, hR, hT]
    have h1 := Int.mul_nonneg (show 0 ≤ 2 * (((c - 1 : Nat) : Int) * (s : Int)) by omega) hTb.1
    have h2 := Int.mul_le_mul (show 2 * (((c - 1 : Nat) : Int) * (s : Int)) ≤ 198000 by omega) hTb.2 hTb.1 (by omega)
    omega
  rw [← hR] at hRb
  rw [← hT] at hTb
  have w1 : IntKind.i64.wrap ((c : Int) - 1) = ((c - 1 : Nat) : Int) := by rw [show (c : Int) - 1 = ((c - 1 : Nat) : Int) by omega]; exact wrap_in (by omega)
  have w2 : IntKind.i64.wrap (((c - 1 : Nat) : Int) * (s : Int)) = R := by rw [← hR]; exact wrap_in (by omega)
  have w3 : IntKind.i64.wrap ((r : Int) - 1) = ((r - 1 : Nat) : Int) := by rw [show (r : Int) - 1 = ((r - 1 : Nat) : Int) by omega]; exact wrap_in (by omega)
  have w4 : IntKind.i64.wrap (((r - 1 : Nat) : Int) * (s : Int)) = T := by rw [← hT]; exact wrap_in (by omega)
  have w5 : IntKind.i64.wrap (2 * R) = A2 := by rw [← hA2]; exact wrap_in (by omega)
  have w6 : IntKind.i64.wrap (A2 * T) = A := by rw [← hA]; exact wrap_in (by omega)
  obtain ⟨c1, hc1'⟩ : ∃ x : Int, x = ((c - 1 : Nat) : Int) := ⟨_, rfl⟩
  obtain ⟨r1, hr1'⟩ : ∃ x : Int, x = ((r - 1 : Nat) : Int) := ⟨_, rfl⟩
  rw [← hc1'] at w1 w2
  rw [← hr1'] at w3 w4
  obtain ⟨L0, hL0⟩ : ∃ L, L = gall c s r := ⟨_, rfl⟩
  have HL0 := Lib.hid hL0
  rw [← hL0] at HLP HLM HLI HCR
  obtain ⟨H, hH⟩ : ∃ H, H = gcor c s r := ⟨_, rfl⟩
  rw [← hH] at HCR HV HAR HH
  have HT0 : Hid (T = 0) := by show _ = _; rw [hT, hA']; simp
  have HA0 : Hid (A = 0) := by show _ = _; rw [hA, HT0.out, Int.mul_zero]
  have HA' := Lib.hid hA'
  have HB' := Lib.hid hB'
  clear hR hT hRb hTb hA2 hA hAb hc1' hr1' hL0 hH hA' hB'
  have W1 := Lib.hid w1
  have W2 := Lib.hid w2
  have W3 := Lib.hid w3
  have W4 := Lib.hid w4
  have W5 := Lib.hid w5
  have W6 := Lib.hid w6
  clear w1 w2 w3 w4 w5 w6
  have i0 : ¬ (r : Int) < 1 := by omega
  have i1 : ¬ 100 < (r : Int) := by omega
  have i2 : ¬ (c : Int) < 1 := by omega
  have i3 : ¬ 100 < (c : Int) := by omega
  have i4 : ¬ (s : Int) < 1 := by omega
  have i5 : ¬ 1000 < (s : Int) := by omega
  go_enter Try.func4, Try.ntmps4
  go_wp2
  go_loopw [7, 8, 9] (fun lv iv kv wr => ∃ (wz : World) (i : Nat) (v : Value), wz = wr ∧ i ≤ r ∧ iv = .int .i64 (i : Int) ∧ v = lv ∧ Hid (RowV wz w.heap.size v (gall c s i)) ∧ Hid (Below w.heap.size w wz))
    (fun _ iv _ _ => r - (intOf iv).toNat)
  case atStart => exact ⟨w, 0, _, rfl, Nat.zero_le _, rfl, rfl, RL, E⟩
  case round =>
    clear E RL
    obtain ⟨wz, i, v, rfl, hi, rfl, rfl, RL, E⟩ := hrel
    by_cases hlt : i < r
    · have j0 : (i : Int) < (r : Int) := by omega
      have RNX : Hid (gall c s (i + 1) = gall c s i ++ grow s i c) := rfl
      have HG0 : Hid (gall c s i ++ grow s i 0 = gall c s i) := by show _ = _; rw [grow, List.append_nil]
      have HLG : Hid ((gall c s i).length ≤ 10000) := by show _ ≤ _; rw [gall_len]; exact Nat.mul_le_mul (show i ≤ 100 by omega) hc1
      obtain ⟨Y, hY⟩ : ∃ Y, Y = (i : Int) * (s : Int) := ⟨_, rfl⟩
      have hYb := mul_lim (show i ≤ 99 by omega) hs1
      rw [← hY] at hYb
      have wY : IntKind.i64.wrap ((i : Int) * (s : Int)) = Y := by rw [← hY]; exact wrap_in (by omega)
      have wi : IntKind.i64.wrap ((i : Int) + 1) = (i : Int) + 1 := wrap_in (by omega)
      have HY := Lib.hid hY
      clear hY hYb
      go_wp2
      go_loopw [7, 9] (fun lv kv wr => ∃ (wz : World) (k : Nat) (v : Value), wz = wr ∧ k ≤ c ∧ kv = .int .i64 (k : Int) ∧ v = lv ∧ Hid (RowV wz w.heap.size v (gall c s i ++ grow s i k)) ∧ Hid (Below w.heap.size w wz))
        (fun _ kv _ => c - (intOf kv).toNat)
      case atStart => exact ⟨wz, 0, _, rfl, Nat.zero_le _, rfl, rfl, by rw [HG0.out]; exact RL, E⟩
      case round =>
        clear E RL
        obtain ⟨wz, k, v, rfl, hk, rfl, rfl, RL, E⟩ := hrel
        by_cases hlk : k < c
        · have j1 : (k : Int) < (c : Int) := by omega
          obtain ⟨X, hX⟩ : ∃ X, X = (k : Int) * (s : Int) := ⟨_, rfl⟩
          have hXb := mul_lim (show k ≤ 99 by omega) hs1
          rw [← hX] at hXb
          obtain ⟨Z, hZ⟩ : ∃ Z, Z = (i : Int) + (k : Int) := ⟨_, rfl⟩
          have wX : IntKind.i64.wrap ((k : Int) * (s : Int)) = X := by rw [← hX]; exact wrap_in (by omega)
          have wZ : IntKind.i64.wrap ((i : Int) + (k : Int)) = Z := by rw [← hZ]; exact wrap_in (by omega)
          have wk : IntKind.i64.wrap ((k : Int) + 1) = (k : Int) + 1 := wrap_in (by omega)
          have RS : Hid (gall c s i ++ grow s i (k + 1) = gall c s i ++ grow s i k ++ [(X, Y, Z)]) := by
            show _ = _
            rw [grow, List.append_assoc, hX, HY.out, hZ]
          have HLEN : Hid ((gall c s i ++ grow s i k).length ≤ 1000000) := by
            show _ ≤ _
            rw [List.length_append, grow_len]
            have := HLG.out
            omega
          clear hX hXb hZ
          have HC6 : Hid (RowV (wz.alloc (.cells #[.int .i64 X, .int .i64 Y, .int .i64 Z] 24)) w.heap.size v (gall c s i ++ grow s i k)) := RL.out.below (below_one _ _)
          have EB6 : Hid (Below w.heap.size w (wz.alloc (.cells #[.int .i64 X, .int .i64 Y, .int .i64 Z] 24))) := E.out.alloc E.out.size _
          have HM6 : Hid (RowV (wz.alloc (.cells #[.int .i64 X, .int .i64 Y, .int .i64 Z] 24)) wz.heap.size (.slice (some ⟨wz.heap.size, 0, none⟩) 1 1) [(X, Y, Z)]) := RowV.made wz _ X Y Z (Nat.le_refl _)
          clear E RL
          go_wp2_with (first
            | (at_builtin; go_loud (refine wpList_append_V rfl rfl _ _ rfl rfl rfl HC6.out HM6.out.rv HLEN.out (by show 1 ≤ 1000000; decide) EB6.out.size (fun h => by cases h) ?_); intro v6 w6 hrow6 hg6; have HN6 := Lib.hid hrow6; have HE6 := Lib.hid (Below.grown_row EB6.out EB6.out.size HC6.out hg6); clear hrow6 hg6))
          go_roundw
          case rel => exact ⟨_, k + 1, _, rfl, by omega, by go_num, rfl, by rw [RS.out]; exact HN6, HE6⟩
          case measure => simp [intOf]; omega
        · obtain rfl : k = c := by omega
          have RN : Hid (RowV wz w.heap.size v (gall k s (i + 1))) := by rw [RNX.out]; exact RL.out
          clear RL RNX hlk hk
          go_wp2
          go_roundw
          case rel => exact ⟨_, i + 1, _, rfl, by omega, by go_num, rfl, RN, E⟩
          case measure => simp [intOf]; omega
    · obtain rfl : i = r := by omega
      have j0 : ¬ (i : Int) < (i : Int) := by omega
      have RL : Hid (RowV wz w.heap.size v L0) := by rw [HL0.out]; exact RL.out
      have w1 := W1.out
      have w2 := W2.out
      have w3 := W3.out
      have w4 := W4.out
      have w5 := W5.out
      have w6 := W6.out
      clear W1 W2 W3 W4 W5 W6 HL0 hi hlt i0 i1 i2 i3 i4 i5
      have hA' := HA'.out
      have hB' := HB'.out
      clear HA' HB'
      have k0 : (i : Int) = 1 := by omega
      have k1 : ¬ (c : Int) = 1 := by omega
      clear hA' hB'
      obtain rfl := HT0.out
      obtain rfl := HA0.out
      go_wp2_with fail
      refine (points_made [0, 0, R, 0, R, 0, 0, 0] 4 (by rfl) (by decide) [(0, 0, 0), (R, 0, 0), (R, 0, 0), (0, 0, 0)] (by rfl) _).mono ?_
      rintro e y1 ⟨v1, rfl, hr, b⟩
      have RL := Lib.hid (RL.out.below b)
      have RW := Lib.hid hr
      have E := Lib.hid (chain E.out b)
      clear b hr
      go_wp2_with fail
      refine (points_made [0, 0, R, 0] 2 (by rfl) (by decide) [(0, 0, 0), (R, 0, 0)] (by rfl) _).mono ?_
      rintro e y2 ⟨v2, rfl, hr, b⟩
      have RL := Lib.hid (RL.out.below b)
      have RW := Lib.hid hr
      have E := Lib.hid (chain E.out b)
      clear b hr
      have RW : Hid (Rv y2 v2 (fl H)) := by have := RW.out; rw [HH.out]; exact this
      go_wp2_with fail
      refine (Hull_ok L0 _ _ RL.out.rv HLP.out HLM.out HLI.out).mono ?_
      rintro e y3 ⟨vh, rfl, hr, b⟩
      have RH : Hid (Rv y3 vh (fl H)) := by have h := hr.rv; rw [HCR.out] at h; exact h
      have RL := Lib.hid (RL.out.below b)
      have RW := Lib.hid (RW.out.below b)
      have E := Lib.hid (chain E.out b)
      clear b hr
      go_wp2_with fail
      refine (Same_yes (fl H) _ _ _ RH.out RW.out).mono ?_
      rintro e y4 ⟨rfl, b⟩
      have RH := Lib.hid (RH.out.below b)
      have RL := Lib.hid (RL.out.below b)
      have E := Lib.hid (chain E.out b)
      clear b RW
      go_wp2_with fail
      refine ((show Calls Try.prog 6 _ _ (Ret (.tuple #[.int .i64 0, .int .i64 0]) _) from by have := Area2_ok (fl H) _ _ RH.out HV.out; rwa [HAR.out] at this)).mono ?_
      rintro e y5 ⟨rfl, b⟩
      have RL := Lib.hid (RL.out.below b)
      have E := Lib.hid (chain E.out b)
      clear b RH
      have h5 : Hid (y5 = y5) := rfl
      go_wp2
      go_loopw [7] (fun lv wr => ∃ (wz : World) (m : Nat) (v : Value), wz = wr ∧ L0.length + m ≤ 10001 ∧ v = lv ∧ Hid (RowV wz w.heap.size v (L0 ++ List.replicate m (0, 0, 0))) ∧ Hid (Below w.heap.size w wz))
        (fun lv _ => 10001 - lnO lv)
      case atStart => exact ⟨y5, 0, _, rfl, by have := HLM.out; omega, rfl, by show RowV _ _ _ _; rw [List.replicate_zero, List.append_nil]; exact RL.out, E⟩
      case round =>
        clear RL E
        obtain ⟨wz, m, v, rfl, hm, rfl, RL, E⟩ := hrel
        obtain ⟨q, hq⟩ : ∃ q, q = (L0 ++ List.replicate m ((0 : Int), (0 : Int), (0 : Int))).length := ⟨_, rfl⟩
        have hq2 : q = L0.length + m := by rw [hq, List.length_append, List.length_replicate]
        have RS : Hid (∀ W v', RowV W w.heap.size v' (L0 ++ List.replicate m (0, 0, 0) ++ [(0, 0, 0)]) → RowV W w.heap.size v' (L0 ++ List.replicate (m + 1) (0, 0, 0))) := fun W v' h => by rwa [List.append_assoc, ← List.replicate_succ'] at h
        have HP := Lib.hid (pad_in HLI.out m)
        obtain ⟨M, hM⟩ : ∃ M, M = L0 ++ List.replicate m ((0 : Int), (0 : Int), (0 : Int)) := ⟨_, rfl⟩
        rw [← hM] at RL RS HP hq
        clear hM
        obtain ⟨p, co, hv⟩ := RL.out.len
        subst hv
        have RV := Lib.hid RL.out.rv
        rw [← hq] at RL RV ⊢
        have HQ := Lib.hid hq
        have HQ2 := Lib.hid hq2
        have HMM := Lib.hid hm
        clear hq hq2 hm
        by_cases hlt : q ≤ 10000
        · have i0 : (q : Int) ≤ 10000 := by omega
          have HC6 : Hid (RowV (wz.alloc (.cells #[.int .i64 0, .int .i64 0, .int .i64 0] 24)) w.heap.size (.slice p q co) M) := RL.out.below (below_one _ _)
          have EB6 : Hid (Below w.heap.size w (wz.alloc (.cells #[.int .i64 0, .int .i64 0, .int .i64 0] 24))) := E.out.alloc E.out.size _
          have HM6 : Hid (RowV (wz.alloc (.cells #[.int .i64 0, .int .i64 0, .int .i64 0] 24)) wz.heap.size (.slice (some ⟨wz.heap.size, 0, none⟩) 1 1) [(0, 0, 0)]) := RowV.made wz _ 0 0 0 (Nat.le_refl _)
          have HLEN : Hid (M.length ≤ 1000000) := by show _ ≤ _; rw [← HQ.out]; omega
          clear RV E RL
          go_wp2_with (first
            | (at_builtin; go_loud (refine wpList_append_V rfl rfl _ _ rfl rfl rfl HC6.out HM6.out.rv HLEN.out (by show 1 ≤ 1000000; decide) EB6.out.size (fun h => by cases h) ?_); intro v6 w6 hrow6 hg6; have HN6 := Lib.hid hrow6; have HE6 := Lib.hid (Below.grown_row EB6.out EB6.out.size HC6.out hg6); clear hrow6 hg6))
          go_roundw
          case rel => exact ⟨_, m + 1, _, rfl, by have h1 : q = L0.length + m := HQ2.out; omega, rfl, RS.out _ _ HN6.out, HE6⟩
          case measure =>
            obtain ⟨p', co', e⟩ := HN6.out.len
            rw [e, List.length_append, ← HQ.out]
            simp [lnO]; omega
        · obtain rfl : q = 10001 := by have h1 : q = L0.length + m := HQ2.out; have h2 : L0.length + m ≤ 10001 := HMM.out; omega
          have HCO : Hid (10001 ≤ co) := by
            obtain ⟨p', b', o', c', e, h2, h3, h4, h5⟩ := RV.out
            injection e with e1 e2 e3
            subst e3
            rw [← HQ.out] at h2
            exact h2
          have hco : (10000 : Int) ≤ (co : Int) := by have := HCO.out; omega
          have HBAD : Hid ((decide (M.length ≤ 10000) && inL 1048576 M) = false) := by
            show _ = _
            rw [← HQ.out]; rfl
          clear hlt
          go_wp2_with fail
          refine (Hull_bad M _ _ RV.out HBAD.out).mono ?_
          rintro e y6 ⟨rfl, b⟩
          have RV := Lib.hid (RV.out.below b)
          have E := Lib.hid (chain E.out b)
          clear b RL
          have RT := Lib.hid (RV.out.take (k := 10000) (by omega))
          have HTL : Hid ((M.take 10000).length = 10000) := by show _ = _; rw [List.length_take, ← HQ.out]; rfl
          have HTI : Hid (inL 1048576 (M.take 10000) = true) := by
            show _ = _
            have := HP.out
            unfold inL at *
            rw [List.all_eq_true] at *
            exact fun a ha => this a (List.mem_of_mem_take ha)
          go_wp2_with fail
          refine (Hull_ok (M.take 10000) _ _ RT.out (by rw [HTL.out]; decide) (by rw [HTL.out]; decide) HTI.out).mono ?_
          rintro e y7 ⟨v7, rfl, hr, b⟩
          have E := Lib.hid (chain E.out b)
          clear b hr
          go_wp2_with fail
          refine (known_true _).mono ?_
          rintro e y8 ⟨rfl, b⟩
          have E := Lib.hid (chain E.out b)
          clear b
          go_wp2
          go_ret
          exact ⟨rfl, E.out⟩

set_option maxRecDepth 100000 in
set_option maxHeartbeats 16000000 in
theorem grids_C (r c s : Nat) (w : World) (hr : 1 ≤ r) (hc : 1 ≤ c) (hs : 1 ≤ s) (hr1 : r ≤ 100) (hc1 : c ≤ 100) (hs1 : s ≤ 1000) (hA' : ¬ r = 1) (hB' : c = 1) :
    Calls Try.prog 4 #[.int .i64 (r : Int), .int .i64 (c : Int), .int .i64 (s : Int)] w (Ret (.bool true) w) := by
  have E : Hid (Below w.heap.size w w) := Below.refl _ _
  have RL : Hid (RowV w w.heap.size (.slice none 0 0) []) := RowV.nil w _
  have HLP : Hid (0 < (gall c s r).length) := by show _ < _; rw [gall_len]; exact Nat.mul_pos hr hc
  have HLM : Hid ((gall c s r).length ≤ 10000) := by show _ ≤ _; rw [gall_len]; exact Nat.mul_le_mul hr1 hc1
  have HLI : Hid (inL 1048576 (gall c s r) = true) := gall_in hr1 hc1 hs1
  have HCR : Hid (cornersT t3 (gall c s r) = fl (gcor c s r)) := grid_hull hr hc hs
  have HV : Hid (VH (fl (gcor c s r))) := grid_vh hr hc hs hr1 hc1 hs1
  obtain ⟨R, hR⟩ : ∃ R, R = ((c - 1 : Nat) : Int) * (s : Int) := ⟨_, rfl⟩
  obtain ⟨T, hT⟩ : ∃ T, T = ((r - 1 : Nat) : Int) * (s : Int) := ⟨_, rfl⟩
  have hRb := mul_lim (show c - 1 ≤ 99 by omega) hs1
  have hTb := mul_lim (show r - 1 ≤ 99 by omega) hs1
  obtain ⟨A2, hA2⟩ : ∃ A, A = 2 * R := ⟨_, rfl⟩
  obtain ⟨A, hA⟩ : ∃ A, A = A2 * T := ⟨_, rfl⟩
  have HAR : Hid (aS (fl (gcor c s r)) (fl (gcor c s r)).length = A) := by show _ = _; rw [grid_area, hA, hA2, hR, hT]
  have HH : Hid (gcor c s r = [(0, 0), (0, T)]) := by
    show _ = _
    unfold gcor
    rw [if_neg hA', if_pos hB', ← hT]
  have hAb : 0 ≤ A ∧ A ≤ 19602000000 := by
    rw [hA, hA2, hR, hT]
    have h1 := Int.mul_nonneg (show 0 ≤ 2 * (((c - 1 : Nat) : Int) * (s : Int)) by omega) hTb.1
    have h2 := Int.mul_le_mul (show 2 * (((c - 1 : Nat) : Int) * (s : Int)) ≤ 198000 by omega) hTb.2 hTb.1 (by omega)
    omega
  rw [← hR] at hRb
  rw [← hT] at hTb
  have w1 : IntKind.i64.wrap ((c : Int) - 1) = ((c - 1 : Nat) : Int) := by rw [show (c : Int) - 1 = ((c - 1 : Nat) : Int) by omega]; exact wrap_in (by omega)
  have w2 : IntKind.i64.wrap (((c - 1 : Nat) : Int) * (s : Int)) = R := by rw [← hR]; exact wrap_in (by omega)
  have w3 : IntKind.i64.wrap ((r : Int) - 1) = ((r - 1 : Nat) : Int) := by rw [show (r : Int) - 1 = ((r - 1 : Nat) : Int) by omega]; exact wrap_in (by omega)
  have w4 : IntKind.i64.wrap (((r - 1 : Nat) : Int) * (s : Int)) = T := by rw [← hT]; exact wrap_in (by omega)
  have w5 : IntKind.i64.wrap (2 * R) = A2 := by rw [← hA2]; exact wrap_in (by omega)
  have w6 : IntKind.i64.wrap (A2 * T) = A := by rw [← hA]; exact wrap_in (by omega)
  obtain ⟨c1, hc1'⟩ : ∃ x : Int, x = ((c - 1 : Nat) : Int) := ⟨_, rfl⟩
  obtain ⟨r1, hr1'⟩ : ∃ x : Int, x = ((r - 1 : Nat) : Int) := ⟨_, rfl⟩
  rw [← hc1'] at w1 w2
  rw [← hr1'] at w3 w4
  obtain ⟨L0, hL0⟩ : ∃ L, L = gall c s r := ⟨_, rfl⟩
  have HL0 := Lib.hid hL0
  rw [← hL0] at HLP HLM HLI HCR
  obtain ⟨H, hH⟩ : ∃ H, H = gcor c s r := ⟨_, rfl⟩
  rw [← hH] at HCR HV HAR HH
  have HR0 : Hid (R = 0) := by show _ = _; rw [hR, hB']; simp
  have HA20 : Hid (A2 = 0) := by show _ = _; rw [hA2, HR0.out]; rfl
  have HA0 : Hid (A = 0) := by show _ = _; rw [hA, HA20.out, Int.zero_mul]
  have HA' := Lib.hid hA'
  have HB' := Lib.hid hB'
  clear hR hT hRb hTb hA2 hA hAb hc1' hr1' hL0 hH hA' hB'
  have W1 := Lib.hid w1
  have W2 := Lib.hid w2
  have W3 := Lib.hid w3
  have W4 := Lib.hid w4
  have W5 := Lib.hid w5
  have W6 := Lib.hid w6
  clear w1 w2 w3 w4 w5 w6
  have i0 : ¬ (r : Int) < 1 := by omega
  have i1 : ¬ 100 < (r : Int) := by omega
  have i2 : ¬ (c : Int) < 1 := by omega
  have i3 : ¬ 100 < (c : Int) := by omega
  have i4 : ¬ (s : Int) < 1 := by omega
  have i5 : ¬ 1000 < (s : Int) := by omega
  go_enter Try.func4, Try.ntmps4
  go_wp2
  go_loopw [7, 8, 9] (fun lv iv kv wr => ∃ (wz : World) (i : Nat) (v : Value), wz = wr ∧ i ≤ r ∧ iv = .int .i64 (i : Int) ∧ v = lv ∧ Hid (RowV wz w.heap.size v (gall c s i)) ∧ Hid (Below w.heap.size w wz))
    (fun _ iv _ _ => r - (intOf iv).toNat)
  case atStart => exact ⟨w, 0, _, rfl, Nat.zero_le _, rfl, rfl, RL, E⟩
  case round =>
    clear E RL
    obtain ⟨wz, i, v, rfl, hi, rfl, rfl, RL, E⟩ := hrel
    by_cases hlt : i < r
    · have j0 : (i : Int) < (r : Int) := by omega
      have RNX : Hid (gall c s (i + 1) = gall c s i ++ grow s i c) := rfl
      have HG0 : Hid (gall c s i ++ grow s i 0 = gall c s i) := by show _ = _; rw [grow, List.append_nil]
      have HLG : Hid ((gall c s i).length ≤ 10000) := by show _ ≤ _; rw [gall_len]; exact Nat.mul_le_mul (show i ≤ 100 by omega) hc1
      obtain ⟨Y, hY⟩ : ∃ Y, Y = (i : Int) * (s : Int) := ⟨_, rfl⟩
      have hYb := mul_lim (show i ≤ 99 by omega) hs1
      rw [← hY] at hYb
      have wY : IntKind.i64.wrap ((i : Int) * (s : Int)) = Y := by rw [← hY]; exact wrap_in (by omega)
      have wi : IntKind.i64.wrap ((i : Int) + 1) = (i : Int) + 1 := wrap_in (by omega)
      have HY := Lib.hid hY
      clear hY hYb
      go_wp2
      go_loopw [7, 9] (fun lv kv wr => ∃ (wz : World) (k : Nat) (v : Value), wz = wr ∧ k ≤ c ∧ kv = .int .i64 (k : Int) ∧ v = lv ∧ Hid (RowV wz w.heap.size v (gall c s i ++ grow s i k)) ∧ Hid (Below w.heap.size w wz))
        (fun _ kv _ => c - (intOf kv).toNat)
      case atStart => exact ⟨wz, 0, _, rfl, Nat.zero_le _, rfl, rfl, by rw [HG0.out]; exact RL, E⟩
      case round =>
        clear E RL
        obtain ⟨wz, k, v, rfl, hk, rfl, rfl, RL, E⟩ := hrel
        by_cases hlk : k < c
        · have j1 : (k : Int) < (c : Int) := by omega
          obtain ⟨X, hX⟩ : ∃ X, X = (k : Int) * (s : Int) := ⟨_, rfl⟩
          have hXb := mul_lim (show k ≤ 99 by omega) hs1
          rw [← hX] at hXb
          obtain ⟨Z, hZ⟩ : ∃ Z, Z = (i : Int) + (k : Int) := ⟨_, rfl⟩
          have wX : IntKind.i64.wrap ((k : Int) * (s : Int)) = X := by rw [← hX]; exact wrap_in (by omega)
          have wZ : IntKind.i64.wrap ((i : Int) + (k : Int)) = Z := by rw [← hZ]; exact wrap_in (by omega)
          have wk : IntKind.i64.wrap ((k : Int) + 1) = (k : Int) + 1 := wrap_in (by omega)
          have RS : Hid (gall c s i ++ grow s i (k + 1) = gall c s i ++ grow s i k ++ [(X, Y, Z)]) := by
            show _ = _
            rw [grow, List.append_assoc, hX, HY.out, hZ]
          have HLEN : Hid ((gall c s i ++ grow s i k).length ≤ 1000000) := by
            show _ ≤ _
            rw [List.length_append, grow_len]
            have := HLG.out
            omega
          clear hX hXb hZ
          have HC6 : Hid (RowV (wz.alloc (.cells #[.int .i64 X, .int .i64 Y, .int .i64 Z] 24)) w.heap.size v (gall c s i ++ grow s i k)) := RL.out.below (below_one _ _)
          have EB6 : Hid (Below w.heap.size w (wz.alloc (.cells #[.int .i64 X, .int .i64 Y, .int .i64 Z] 24))) := E.out.alloc E.out.size _
          have HM6 : Hid (RowV (wz.alloc (.cells #[.int .i64 X, .int .i64 Y, .int .i64 Z] 24)) wz.heap.size (.slice (some ⟨wz.heap.size, 0, none⟩) 1 1) [(X, Y, Z)]) := RowV.made wz _ X Y Z (Nat.le_refl _)
          clear E RL
          go_wp2_with (first
            | (at_builtin; go_loud (refine wpList_append_V rfl rfl _ _ rfl rfl rfl HC6.out HM6.out.rv HLEN.out (by show 1 ≤ 1000000; decide) EB6.out.size (fun h => by cases h) ?_); intro v6 w6 hrow6 hg6; have HN6 := Lib.hid hrow6; have HE6 := Lib.hid (Below.grown_row EB6.out EB6.out.size HC6.out hg6); clear hrow6 hg6))
          go_roundw
          case rel => exact ⟨_, k + 1, _, rfl, by omega, by go_num, rfl, by rw [RS.out]; exact HN6, HE6⟩
          case measure => simp [intOf]; omega
        · obtain rfl : k = c := by omega
          have RN : Hid (RowV wz w.heap.size v (gall k s (i + 1))) := by rw [RNX.out]; exact RL.out
          clear RL RNX hlk hk
          go_wp2
          go_roundw
          case rel => exact ⟨_, i + 1, _, rfl, by omega, by go_num, rfl, RN, E⟩
          case measure => simp [intOf]; omega
    · obtain rfl : i = r := by omega
      have j0 : ¬ (i : Int) < (i : Int) := by omega
      have RL : Hid (RowV wz w.heap.size v L0) := by rw [HL0.out]; exact RL.out
      have w1 := W1.out
      have w2 := W2.out
      have w3 := W3.out
      have w4 := W4.out
      have w5 := W5.out
      have w6 := W6.out
      clear W1 W2 W3 W4 W5 W6 HL0 hi hlt i0 i1 i2 i3 i4 i5
      have hA' := HA'.out
      have hB' := HB'.out
      clear HA' HB'
      have k0 : ¬ (i : Int) = 1 := by omega
      have k1 : (c : Int) = 1 := by omega
      clear hA' hB'
      obtain rfl := HR0.out
      obtain rfl := HA20.out
      obtain rfl := HA0.out
      go_wp2_with fail
      refine (points_made [0, 0, 0, 0, 0, T, 0, T] 4 (by rfl) (by decide) [(0, 0, 0), (0, 0, 0), (0, T, 0), (0, T, 0)] (by rfl) _).mono ?_
      rintro e y1 ⟨v1, rfl, hr, b⟩
      have RL := Lib.hid (RL.out.below b)
      have RW := Lib.hid hr
      have E := Lib.hid (chain E.out b)
      clear b hr
      go_wp2_with fail
      refine (points_made [0, 0, 0, T] 2 (by rfl) (by decide) [(0, 0, 0), (0, T, 0)] (by rfl) _).mono ?_
      rintro e y2 ⟨v2, rfl, hr, b⟩
      have RL := Lib.hid (RL.out.below b)
      have RW := Lib.hid hr
      have E := Lib.hid (chain E.out b)
      clear b hr
      have RW : Hid (Rv y2 v2 (fl H)) := by have := RW.out; rw [HH.out]; exact this
      go_wp2_with fail
      refine (Hull_ok L0 _ _ RL.out.rv HLP.out HLM.out HLI.out).mono ?_
      rintro e y3 ⟨vh, rfl, hr, b⟩
      have RH : Hid (Rv y3 vh (fl H)) := by have h := hr.rv; rw [HCR.out] at h; exact h
      have RL := Lib.hid (RL.out.below b)
      have RW := Lib.hid (RW.out.below b)
      have E := Lib.hid (chain E.out b)
      clear b hr
      go_wp2_with fail
      refine (Same_yes (fl H) _ _ _ RH.out RW.out).mono ?_
      rintro e y4 ⟨rfl, b⟩
      have RH := Lib.hid (RH.out.below b)
      have RL := Lib.hid (RL.out.below b)
      have E := Lib.hid (chain E.out b)
      clear b RW
      go_wp2_with fail
      refine ((show Calls Try.prog 6 _ _ (Ret (.tuple #[.int .i64 0, .int .i64 0]) _) from by have := Area2_ok (fl H) _ _ RH.out HV.out; rwa [HAR.out] at this)).mono ?_
      rintro e y5 ⟨rfl, b⟩
      have RL := Lib.hid (RL.out.below b)
      have E := Lib.hid (chain E.out b)
      clear b RH
      have h5 : Hid (y5 = y5) := rfl
      go_wp2
      go_loopw [7] (fun lv wr => ∃ (wz : World) (m : Nat) (v : Value), wz = wr ∧ L0.length + m ≤ 10001 ∧ v = lv ∧ Hid (RowV wz w.heap.size v (L0 ++ List.replicate m (0, 0, 0))) ∧ Hid (Below w.heap.size w wz))
        (fun lv _ => 10001 - lnO lv)
      case atStart => exact ⟨y5, 0, _, rfl, by have := HLM.out; omega, rfl, by show RowV _ _ _ _; rw [List.replicate_zero, List.append_nil]; exact RL.out, E⟩
      case round =>
        clear RL E
        obtain ⟨wz, m, v, rfl, hm, rfl, RL, E⟩ := hrel
        obtain ⟨q, hq⟩ : ∃ q, q = (L0 ++ List.replicate m ((0 : Int), (0 : Int), (0 : Int))).length := ⟨_, rfl⟩
        have hq2 : q = L0.length + m := by rw [hq, List.length_append, List.length_replicate]
        have RS : Hid (∀ W v', RowV W w.heap.size v' (L0 ++ List.replicate m (0, 0, 0) ++ [(0, 0, 0)]) → RowV W w.heap.size v' (L0 ++ List.replicate (m + 1) (0, 0, 0))) := fun W v' h => by rwa [List.append_assoc, ← List.replicate_succ'] at h
        have HP := Lib.hid (pad_in HLI.out m)
        obtain ⟨M, hM⟩ : ∃ M, M = L0 ++ List.replicate m ((0 : Int), (0 : Int), (0 : Int)) := ⟨_, rfl⟩
        rw [← hM] at RL RS HP hq
        clear hM
        obtain ⟨p, co, hv⟩ := RL.out.len
        subst hv
        have RV := Lib.hid RL.out.rv
        rw [← hq] at RL RV ⊢
        have HQ := Lib.hid hq
        have HQ2 := Lib.hid hq2
        have HMM := Lib.hid hm
        clear hq hq2 hm
        by_cases hlt : q ≤ 10000
        · have i0 : (q : Int) ≤ 10000 := by omega
          have HC6 : Hid (RowV (wz.alloc (.cells #[.int .i64 0, .int .i64 0, .int .i64 0] 24)) w.heap.size (.slice p q co) M) := RL.out.below (below_one _ _)
          have EB6 : Hid (Below w.heap.size w (wz.alloc (.cells #[.int .i64 0, .int .i64 0, .int .i64 0] 24))) := E.out.alloc E.out.size _
          have HM6 : Hid (RowV (wz.alloc (.cells #[.int .i64 0, .int .i64 0, .int .i64 0] 24)) wz.heap.size (.slice (some ⟨wz.heap.size, 0, none⟩) 1 1) [(0, 0, 0)]) := RowV.made wz _ 0 0 0 (Nat.le_refl _)
          have HLEN : Hid (M.length ≤ 1000000) := by show _ ≤ _; rw [← HQ.out]; omega
          clear RV E RL
          go_wp2_with (first
            | (at_builtin; go_loud (refine wpList_append_V rfl rfl _ _ rfl rfl rfl HC6.out HM6.out.rv HLEN.out (by show 1 ≤ 1000000; decide) EB6.out.size (fun h => by cases h) ?_); intro v6 w6 hrow6 hg6; have HN6 := Lib.hid hrow6; have HE6 := Lib.hid (Below.grown_row EB6.out EB6.out.size HC6.out hg6); clear hrow6 hg6))
          go_roundw
          case rel => exact ⟨_, m + 1, _, rfl, by have h1 : q = L0.length + m := HQ2.out; omega, rfl, RS.out _ _ HN6.out, HE6⟩
          case measure =>
            obtain ⟨p', co', e⟩ := HN6.out.len
            rw [e, List.length_append, ← HQ.out]
            simp [lnO]; omega
        · obtain rfl : q = 10001 := by have h1 : q = L0.length + m := HQ2.out; have h2 : L0.length + m ≤ 10001 := HMM.out; omega
          have HCO : Hid (10001 ≤ co) := by
            obtain ⟨p', b', o', c', e, h2, h3, h4, h5⟩ := RV.out
            injection e with e1 e2 e3
            subst e3
            rw [← HQ.out] at h2
            exact h2
          have hco : (10000 : Int) ≤ (co : Int) := by have := HCO.out; omega
          have HBAD : Hid ((decide (M.length ≤ 10000) && inL 1048576 M) = false) := by
            show _ = _
            rw [← HQ.out]; rfl
          clear hlt
          go_wp2_with fail
          refine (Hull_bad M _ _ RV.out HBAD.out).mono ?_
          rintro e y6 ⟨rfl, b⟩
          have RV := Lib.hid (RV.out.below b)
          have E := Lib.hid (chain E.out b)
          clear b RL
          have RT := Lib.hid (RV.out.take (k := 10000) (by omega))
          have HTL : Hid ((M.take 10000).length = 10000) := by show _ = _; rw [List.length_take, ← HQ.out]; rfl
          have HTI : Hid (inL 1048576 (M.take 10000) = true) := by
            show _ = _
            have := HP.out
            unfold inL at *
            rw [List.all_eq_true] at *
            exact fun a ha => this a (List.mem_of_mem_take ha)
          go_wp2_with fail
          refine (Hull_ok (M.take 10000) _ _ RT.out (by rw [HTL.out]; decide) (by rw [HTL.out]; decide) HTI.out).mono ?_
          rintro e y7 ⟨v7, rfl, hr, b⟩
          have E := Lib.hid (chain E.out b)
          clear b hr
          go_wp2_with fail
          refine (known_true _).mono ?_
          rintro e y8 ⟨rfl, b⟩
          have E := Lib.hid (chain E.out b)
          clear b
          go_wp2
          go_ret
          exact ⟨rfl, E.out⟩

set_option maxRecDepth 100000 in
set_option maxHeartbeats 16000000 in
theorem grids_D (r c s : Nat) (w : World) (hr : 1 ≤ r) (hc : 1 ≤ c) (hs : 1 ≤ s) (hr1 : r ≤ 100) (hc1 : c ≤ 100) (hs1 : s ≤ 1000) (hA' : ¬ r = 1) (hB' : ¬ c = 1) :
    Calls Try.prog 4 #[.int .i64 (r : Int), .int .i64 (c : Int), .int .i64 (s : Int)] w (Ret (.bool true) w) := by
  have E : Hid (Below w.heap.size w w) := Below.refl _ _
  have RL : Hid (RowV w w.heap.size (.slice none 0 0) []) := RowV.nil w _
  have HLP : Hid (0 < (gall c s r).length) := by show _ < _; rw [gall_len]; exact Nat.mul_pos hr hc
  have HLM : Hid ((gall c s r).length ≤ 10000) := by show _ ≤ _; rw [gall_len]; exact Nat.mul_le_mul hr1 hc1
  have HLI : Hid (inL 1048576 (gall c s r) = true) := gall_in hr1 hc1 hs1
  have HCR : Hid (cornersT t3 (gall c s r) = fl (gcor c s r)) := grid_hull hr hc hs
  have HV : Hid (VH (fl (gcor c s r))) := grid_vh hr hc hs hr1 hc1 hs1
  obtain ⟨R, hR⟩ : ∃ R, R = ((c - 1 : Nat) : Int) * (s : Int) := ⟨_, rfl⟩
  obtain ⟨T, hT⟩ : ∃ T, T = ((r - 1 : Nat) : Int) * (s : Int) := ⟨_, rfl⟩
  have hRb := mul_lim (show c - 1 ≤ 99 by omega) hs1
  have hTb := mul_lim (show r - 1 ≤ 99 by omega) hs1
  obtain ⟨A2, hA2⟩ : ∃ A, A = 2 * R := ⟨_, rfl⟩
  obtain ⟨A, hA⟩ : ∃ A, A = A2 * T := ⟨_, rfl⟩
  have HAR : Hid (aS (fl (gcor c s r)) (fl (gcor c s r)).length = A) := by show _ = _; rw [grid_area, hA, hA2, hR, hT]
  have HH : Hid (gcor c s r = [(0, 0), (R, 0), (R, T), (0, T)]) := by
    show _ = _
    unfold gcor
    rw [if_neg hA', if_neg hB', ← hR, ← hT]
  have hAb : 0 ≤ A ∧ A ≤ 19602000000 := by
    rw [hA, hA2, hR, hT]
    have h1 := Int.mul_nonneg (show 0 ≤ 2 * (((c - 1 : Nat) : Int) * (s : Int)) by omega) hTb.1
    have h2 := Int.mul_le_mul (show 2 * (((c - 1 : Nat) : Int) * (s : Int)) ≤ 198000 by omega) hTb.2 hTb.1 (by omega)
    omega
  rw [← hR] at hRb
  rw [← hT] at hTb
  have w1 : IntKind.i64.wrap ((c : Int) - 1) = ((c - 1 : Nat) : Int) := by rw [show (c : Int) - 1 = ((c - 1 : Nat) : Int) by omega]; exact wrap_in (by omega)
  have w2 : IntKind.i64.wrap (((c - 1 : Nat) : Int) * (s : Int)) = R := by rw [← hR]; exact wrap_in (by omega)
  have w3 : IntKind.i64.wrap ((r : Int) - 1) = ((r - 1 : Nat) : Int) := by rw [show (r : Int) - 1 = ((r - 1 : Nat) : Int) by omega]; exact wrap_in (by omega)
  have w4 : IntKind.i64.wrap (((r - 1 : Nat) : Int) * (s : Int)) = T := by rw [← hT]; exact wrap_in (by omega)
  have w5 : IntKind.i64.wrap (2 * R) = A2 := by rw [← hA2]; exact wrap_in (by omega)
  have w6 : IntKind.i64.wrap (A2 * T) = A := by rw [← hA]; exact wrap_in (by omega)
  obtain ⟨c1, hc1'⟩ : ∃ x : Int, x = ((c - 1 : Nat) : Int) := ⟨_, rfl⟩
  obtain ⟨r1, hr1'⟩ : ∃ x : Int, x = ((r - 1 : Nat) : Int) := ⟨_, rfl⟩
  rw [← hc1'] at w1 w2
  rw [← hr1'] at w3 w4
  obtain ⟨L0, hL0⟩ : ∃ L, L = gall c s r := ⟨_, rfl⟩
  have HL0 := Lib.hid hL0
  rw [← hL0] at HLP HLM HLI HCR
  obtain ⟨H, hH⟩ : ∃ H, H = gcor c s r := ⟨_, rfl⟩
  rw [← hH] at HCR HV HAR HH
  skip
  have HA' := Lib.hid hA'
  have HB' := Lib.hid hB'
  clear hR hT hRb hTb hA2 hA hAb hc1' hr1' hL0 hH hA' hB'
  have W1 := Lib.hid w1
  have W2 := Lib.hid w2
  have W3 := Lib.hid w3
  have W4 := Lib.hid w4
  have W5 := Lib.hid w5
  have W6 := Lib.hid w6
  clear w1 w2 w3 w4 w5 w6
  have i0 : ¬ (r : Int) < 1 := by omega
  have i1 : ¬ 100 < (r : Int) := by omega
  have i2 : ¬ (c : Int) < 1 := by omega
  have i3 : ¬ 100 < (c : Int) := by omega
  have i4 : ¬ (s : Int) < 1 := by omega
  have i5 : ¬ 1000 < (s : Int) := by omega
  go_enter Try.func4, Try.ntmps4
  go_wp2
  go_loopw [7, 8, 9] (fun lv iv kv wr => ∃ (wz : World) (i : Nat) (v : Value), wz = wr ∧ i ≤ r ∧ iv = .int .i64 (i : Int) ∧ v = lv ∧ Hid (RowV wz w.heap.size v (gall c s i)) ∧ Hid (Below w.heap.size w wz))
    (fun _ iv _ _ => r - (intOf iv).toNat)
  case atStart => exact ⟨w, 0, _, rfl, Nat.zero_le _, rfl, rfl, RL, E⟩
  case round =>
    clear E RL
    obtain ⟨wz, i, v, rfl, hi, rfl, rfl, RL, E⟩ := hrel
    by_cases hlt : i < r
    · have j0 : (i : Int) < (r : Int) := by omega
      have RNX : Hid (gall c s (i + 1) = gall c s i ++ grow s i c) := rfl
      have HG0 : Hid (gall c s i ++ grow s i 0 = gall c s i) := by show _ = _; rw [grow, List.append_nil]
      have HLG : Hid ((gall c s i).length ≤ 10000) := by show _ ≤ _; rw [gall_len]; exact Nat.mul_le_mul (show i ≤ 100 by omega) hc1
      obtain ⟨Y, hY⟩ : ∃ Y, Y = (i : Int) * (s : Int) := ⟨_, rfl⟩
      have hYb := mul_lim (show i ≤ 99 by omega) hs1
      rw [← hY] at hYb
      have wY : IntKind.i64.wrap ((i : Int) * (s : Int)) = Y := by rw [← hY]; exact wrap_in (by omega)
      have wi : IntKind.i64.wrap ((i : Int) + 1) = (i : Int) + 1 := wrap_in (by omega)
      have HY := Lib.hid hY
      clear hY hYb
      go_wp2
      go_loopw [7, 9] (fun lv kv wr => ∃ (wz : World) (k : Nat) (v : Value), wz = wr ∧ k ≤ c ∧ kv = .int .i64 (k : Int) ∧ v = lv ∧ Hid (RowV wz w.heap.size v (gall c s i ++ grow s i k)) ∧ Hid (Below w.heap.size w wz))
        (fun _ kv _ => c - (intOf kv).toNat)
      case atStart => exact ⟨wz, 0, _, rfl, Nat.zero_le _, rfl, rfl, by rw [HG0.out]; exact RL, E⟩
      case round =>
        clear E RL
        obtain ⟨wz, k, v, rfl, hk, rfl, rfl, RL, E⟩ := hrel
        by_cases hlk : k < c
        · have j1 : (k : Int) < (c : Int) := by omega
          obtain ⟨X, hX⟩ : ∃ X, X = (k : Int) * (s : Int) := ⟨_, rfl⟩
          have hXb := mul_lim (show k ≤ 99 by omega) hs1
          rw [← hX] at hXb
          obtain ⟨Z, hZ⟩ : ∃ Z, Z = (i : Int) + (k : Int) := ⟨_, rfl⟩
          have wX : IntKind.i64.wrap ((k : Int) * (s : Int)) = X := by rw [← hX]; exact wrap_in (by omega)
          have wZ : IntKind.i64.wrap ((i : Int) + (k : Int)) = Z := by rw [← hZ]; exact wrap_in (by omega)
          have wk : IntKind.i64.wrap ((k : Int) + 1) = (k : Int) + 1 := wrap_in (by omega)
          have RS : Hid (gall c s i ++ grow s i (k + 1) = gall c s i ++ grow s i k ++ [(X, Y, Z)]) := by
            show _ = _
            rw [grow, List.append_assoc, hX, HY.out, hZ]
          have HLEN : Hid ((gall c s i ++ grow s i k).length ≤ 1000000) := by
            show _ ≤ _
            rw [List.length_append, grow_len]
            have := HLG.out
            omega
          clear hX hXb hZ
          have HC6 : Hid (RowV (wz.alloc (.cells #[.int .i64 X, .int .i64 Y, .int .i64 Z] 24)) w.heap.size v (gall c s i ++ grow s i k)) := RL.out.below (below_one _ _)
          have EB6 : Hid (Below w.heap.size w (wz.alloc (.cells #[.int .i64 X, .int .i64 Y, .int .i64 Z] 24))) := E.out.alloc E.out.size _
          have HM6 : Hid (RowV (wz.alloc (.cells #[.int .i64 X, .int .i64 Y, .int .i64 Z] 24)) wz.heap.size (.slice (some ⟨wz.heap.size, 0, none⟩) 1 1) [(X, Y, Z)]) := RowV.made wz _ X Y Z (Nat.le_refl _)
          clear E RL
          go_wp2_with (first
            | (at_builtin; go_loud (refine wpList_append_V rfl rfl _ _ rfl rfl rfl HC6.out HM6.out.rv HLEN.out (by show 1 ≤ 1000000; decide) EB6.out.size (fun h => by cases h) ?_); intro v6 w6 hrow6 hg6; have HN6 := Lib.hid hrow6; have HE6 := Lib.hid (Below.grown_row EB6.out EB6.out.size HC6.out hg6); clear hrow6 hg6))
          go_roundw
          case rel => exact ⟨_, k + 1, _, rfl, by omega, by go_num, rfl, by rw [RS.out]; exact HN6, HE6⟩
          case measure => simp [intOf]; omega
        · obtain rfl : k = c := by omega
          have RN : Hid (RowV wz w.heap.size v (gall k s (i + 1))) := by rw [RNX.out]; exact RL.out
          clear RL RNX hlk hk
          go_wp2
          go_roundw
          case rel => exact ⟨_, i + 1, _, rfl, by omega, by go_num, rfl, RN, E⟩
          case measure => simp [intOf]; omega
    · obtain rfl : i = r := by omega
      have j0 : ¬ (i : Int) < (i : Int) := by omega
      have RL : Hid (RowV wz w.heap.size v L0) := by rw [HL0.out]; exact RL.out
      have w1 := W1.out
      have w2 := W2.out
      have w3 := W3.out
      have w4 := W4.out
      have w5 := W5.out
      have w6 := W6.out
      clear W1 W2 W3 W4 W5 W6 HL0 hi hlt i0 i1 i2 i3 i4 i5
      have hA' := HA'.out
      have hB' := HB'.out
      clear HA' HB'
      have k0 : ¬ (i : Int) = 1 := by omega
      have k1 : ¬ (c : Int) = 1 := by omega
      clear hA' hB'
      go_wp2_with fail
      refine (points_made [0, 0, R, 0, R, T, 0, T] 4 (by rfl) (by decide) [(0, 0, 0), (R, 0, 0), (R, T, 0), (0, T, 0)] (by rfl) _).mono ?_
      rintro e y1 ⟨v1, rfl, hr, b⟩
      have RL := Lib.hid (RL.out.below b)
      have RW := Lib.hid hr
      have E := Lib.hid (chain E.out b)
      clear b hr
      have RW : Hid (Rv y1 v1 (fl H)) := by have := RW.out; rw [HH.out]; exact this
      go_wp2_with fail
      refine (Hull_ok L0 _ _ RL.out.rv HLP.out HLM.out HLI.out).mono ?_
      rintro e y3 ⟨vh, rfl, hr, b⟩
      have RH : Hid (Rv y3 vh (fl H)) := by have h := hr.rv; rw [HCR.out] at h; exact h
      have RL := Lib.hid (RL.out.below b)
      have RW := Lib.hid (RW.out.below b)
      have E := Lib.hid (chain E.out b)
      clear b hr
      go_wp2_with fail
      refine (Same_yes (fl H) _ _ _ RH.out RW.out).mono ?_
      rintro e y4 ⟨rfl, b⟩
      have RH := Lib.hid (RH.out.below b)
      have RL := Lib.hid (RL.out.below b)
      have E := Lib.hid (chain E.out b)
      clear b RW
      go_wp2_with fail
      refine ((show Calls Try.prog 6 _ _ (Ret (.tuple #[.int .i64 A, .int .i64 0]) _) from by have := Area2_ok (fl H) _ _ RH.out HV.out; rwa [HAR.out] at this)).mono ?_
      rintro e y5 ⟨rfl, b⟩
      have RL := Lib.hid (RL.out.below b)
      have E := Lib.hid (chain E.out b)
      clear b RH
      have h5 : Hid (y5 = y5) := rfl
      go_wp2
      go_loopw [7] (fun lv wr => ∃ (wz : World) (m : Nat) (v : Value), wz = wr ∧ L0.length + m ≤ 10001 ∧ v = lv ∧ Hid (RowV wz w.heap.size v (L0 ++ List.replicate m (0, 0, 0))) ∧ Hid (Below w.heap.size w wz))
        (fun lv _ => 10001 - lnO lv)
      case atStart => exact ⟨y5, 0, _, rfl, by have := HLM.out; omega, rfl, by show RowV _ _ _ _; rw [List.replicate_zero, List.append_nil]; exact RL.out, E⟩
      case round =>
        clear RL E
        obtain ⟨wz, m, v, rfl, hm, rfl, RL, E⟩ := hrel
        obtain ⟨q, hq⟩ : ∃ q, q = (L0 ++ List.replicate m ((0 : Int), (0 : Int), (0 : Int))).length := ⟨_, rfl⟩
        have hq2 : q = L0.length + m := by rw [hq, List.length_append, List.length_replicate]
        have RS : Hid (∀ W v', RowV W w.heap.size v' (L0 ++ List.replicate m (0, 0, 0) ++ [(0, 0, 0)]) → RowV W w.heap.size v' (L0 ++ List.replicate (m + 1) (0, 0, 0))) := fun W v' h => by rwa [List.append_assoc, ← List.replicate_succ'] at h
        have HP := Lib.hid (pad_in HLI.out m)
        obtain ⟨M, hM⟩ : ∃ M, M = L0 ++ List.replicate m ((0 : Int), (0 : Int), (0 : Int)) := ⟨_, rfl⟩
        rw [← hM] at RL RS HP hq
        clear hM
        obtain ⟨p, co, hv⟩ := RL.out.len
        subst hv
        have RV := Lib.hid RL.out.rv
        rw [← hq] at RL RV ⊢
        have HQ := Lib.hid hq
        have HQ2 := Lib.hid hq2
        have HMM := Lib.hid hm
        clear hq hq2 hm
        by_cases hlt : q ≤ 10000
        · have i0 : (q : Int) ≤ 10000 := by omega
          have HC6 : Hid (RowV (wz.alloc (.cells #[.int .i64 0, .int .i64 0, .int .i64 0] 24)) w.heap.size (.slice p q co) M) := RL.out.below (below_one _ _)
          have EB6 : Hid (Below w.heap.size w (wz.alloc (.cells #[.int .i64 0, .int .i64 0, .int .i64 0] 24))) := E.out.alloc E.out.size _
          have HM6 : Hid (RowV (wz.alloc (.cells #[.int .i64 0, .int .i64 0, .int .i64 0] 24)) wz.heap.size (.slice (some ⟨wz.heap.size, 0, none⟩) 1 1) [(0, 0, 0)]) := RowV.made wz _ 0 0 0 (Nat.le_refl _)
          have HLEN : Hid (M.length ≤ 1000000) := by show _ ≤ _; rw [← HQ.out]; omega
          clear RV E RL
          go_wp2_with (first
            | (at_builtin; go_loud (refine wpList_append_V rfl rfl _ _ rfl rfl rfl HC6.out HM6.out.rv HLEN.out (by show 1 ≤ 1000000; decide) EB6.out.size (fun h => by cases h) ?_); intro v6 w6 hrow6 hg6; have HN6 := Lib.hid hrow6; have HE6 := Lib.hid (Below.grown_row EB6.out EB6.out.size HC6.out hg6); clear hrow6 hg6))
          go_roundw
          case rel => exact ⟨_, m + 1, _, rfl, by have h1 : q = L0.length + m := HQ2.out; omega, rfl, RS.out _ _ HN6.out, HE6⟩
          case measure =>
            obtain ⟨p', co', e⟩ := HN6.out.len
            rw [e, List.length_append, ← HQ.out]
            simp [lnO]; omega
        · obtain rfl : q = 10001 := by have h1 : q = L0.length + m := HQ2.out; have h2 : L0.length + m ≤ 10001 := HMM.out; omega
          have HCO : Hid (10001 ≤ co) := by
            obtain ⟨p', b', o', c', e, h2, h3, h4, h5⟩ := RV.out
            injection e with e1 e2 e3
            subst e3
            rw [← HQ.out] at h2
            exact h2
          have hco : (10000 : Int) ≤ (co : Int) := by have := HCO.out; omega
          have HBAD : Hid ((decide (M.length ≤ 10000) && inL 1048576 M) = false) := by
            show _ = _
            rw [← HQ.out]; rfl
          clear hlt
          go_wp2_with fail
          refine (Hull_bad M _ _ RV.out HBAD.out).mono ?_
          rintro e y6 ⟨rfl, b⟩
          have RV := Lib.hid (RV.out.below b)
          have E := Lib.hid (chain E.out b)
          clear b RL
          have RT := Lib.hid (RV.out.take (k := 10000) (by omega))
          have HTL : Hid ((M.take 10000).length = 10000) := by show _ = _; rw [List.length_take, ← HQ.out]; rfl
          have HTI : Hid (inL 1048576 (M.take 10000) = true) := by
            show _ = _
            have := HP.out
            unfold inL at *
            rw [List.all_eq_true] at *
            exact fun a ha => this a (List.mem_of_mem_take ha)
          go_wp2_with fail
          refine (Hull_ok (M.take 10000) _ _ RT.out (by rw [HTL.out]; decide) (by rw [HTL.out]; decide) HTI.out).mono ?_
          rintro e y7 ⟨v7, rfl, hr, b⟩
          have E := Lib.hid (chain E.out b)
          clear b hr
          go_wp2_with fail
          refine (known_true _).mono ?_
          rintro e y8 ⟨rfl, b⟩
          have E := Lib.hid (chain E.out b)
          clear b
          go_wp2
          go_ret
          exact ⟨rfl, E.out⟩

end Go.Proofs.Ytpkfngfenkcjoaa

/- HullGrids for all numbers. -/
set_option linter.all false
namespace Go.Proofs.Ytpkfngfenkcjoaa
open Go.RowKit

set_option maxRecDepth 100000 in
set_option maxHeartbeats 4000000 in
theorem grids_out0 (r c s : Int) (w : World)  (h0 : r < 1) :
    Calls Try.prog 4 #[.int .i64 r, .int .i64 c, .int .i64 s] w (Ret (.bool true) w) := by
  have E := Lib.hid (Below.refl w.heap.size w)
  go_enter Try.func4, Try.ntmps4
  go_wp2_with fail
  refine (known_true _).mono ?_
  rintro e y1 ⟨rfl, b⟩
  have E := Lib.hid (chain E.out b)
  clear b
  go_wp2
  go_ret
  exact ⟨rfl, E.out⟩

set_option maxRecDepth 100000 in
set_option maxHeartbeats 4000000 in
theorem grids_out1 (r c s : Int) (w : World) (h0 : ¬ r < 1) (h1 : 100 < r) :
    Calls Try.prog 4 #[.int .i64 r, .int .i64 c, .int .i64 s] w (Ret (.bool true) w) := by
  have E := Lib.hid (Below.refl w.heap.size w)
  go_enter Try.func4, Try.ntmps4
  go_wp2_with fail
  refine (known_true _).mono ?_
  rintro e y1 ⟨rfl, b⟩
  have E := Lib.hid (chain E.out b)
  clear b
  go_wp2
  go_ret
  exact ⟨rfl, E.out⟩

set_option maxRecDepth 100000 in
set_option maxHeartbeats 4000000 in
theorem grids_out2 (r c s : Int) (w : World) (h0 : ¬ r < 1) (h1 : ¬ 100 < r) (h2 : c < 1) :
    Calls Try.prog 4 #[.int .i64 r, .int .i64 c, .int .i64 s] w (Ret (.bool true) w) := by
  have E := Lib.hid (Below.refl w.heap.size w)
  go_enter Try.func4, Try.ntmps4
  go_wp2_with fail
  refine (known_true _).mono ?_
  rintro e y1 ⟨rfl, b⟩
  have E := Lib.hid (chain E.out b)
  clear b
  go_wp2
  go_ret
  exact ⟨rfl, E.out⟩

set_option maxRecDepth 100000 in
set_option maxHeartbeats 4000000 in
theorem grids_out3 (r c s : Int) (w : World) (h0 : ¬ r < 1) (h1 : ¬ 100 < r) (h2 : ¬ c < 1) (h3 : 100 < c) :
    Calls Try.prog 4 #[.int .i64 r, .int .i64 c, .int .i64 s] w (Ret (.bool true) w) := by
  have E := Lib.hid (Below.refl w.heap.size w)
  go_enter Try.func4, Try.ntmps4
  go_wp2_with fail
  refine (known_true _).mono ?_
  rintro e y1 ⟨rfl, b⟩
  have E := Lib.hid (chain E.out b)
  clear b
  go_wp2
  go_ret
  exact ⟨rfl, E.out⟩

set_option maxRecDepth 100000 in
set_option maxHeartbeats 4000000 in
theorem grids_out4 (r c s : Int) (w : World) (h0 : ¬ r < 1) (h1 : ¬ 100 < r) (h2 : ¬ c < 1) (h3 : ¬ 100 < c) (h4 : s < 1) :
    Calls Try.prog 4 #[.int .i64 r, .int .i64 c, .int .i64 s] w (Ret (.bool true) w) := by
  have E := Lib.hid (Below.refl w.heap.size w)
  go_enter Try.func4, Try.ntmps4
  go_wp2_with fail
  refine (known_true _).mono ?_
  rintro e y1 ⟨rfl, b⟩
  have E := Lib.hid (chain E.out b)
  clear b
  go_wp2
  go_ret
  exact ⟨rfl, E.out⟩

set_option maxRecDepth 100000 in
set_option maxHeartbeats 4000000 in
theorem grids_out5 (r c s : Int) (w : World) (h0 : ¬ r < 1) (h1 : ¬ 100 < r) (h2 : ¬ c < 1) (h3 : ¬ 100 < c) (h4 : ¬ s < 1) (h5 : 1000 < s) :
    Calls Try.prog 4 #[.int .i64 r, .int .i64 c, .int .i64 s] w (Ret (.bool true) w) := by
  have E := Lib.hid (Below.refl w.heap.size w)
  go_enter Try.func4, Try.ntmps4
  go_wp2_with fail
  refine (known_true _).mono ?_
  rintro e y1 ⟨rfl, b⟩
  have E := Lib.hid (chain E.out b)
  clear b
  go_wp2
  go_ret
  exact ⟨rfl, E.out⟩

/-- HullGrids gives true for all numbers. -/
theorem grids_any (r c s : Int) (w : World) :
    Calls Try.prog 4 #[.int .i64 r, .int .i64 c, .int .i64 s] w (Ret (.bool true) w) := by
  by_cases h0 : r < 1
  · exact grids_out0 r c s w h0
  by_cases h1 : 100 < r
  · exact grids_out1 r c s w h0 h1
  by_cases h2 : c < 1
  · exact grids_out2 r c s w h0 h1 h2
  by_cases h3 : 100 < c
  · exact grids_out3 r c s w h0 h1 h2 h3
  by_cases h4 : s < 1
  · exact grids_out4 r c s w h0 h1 h2 h3 h4
  by_cases h5 : 1000 < s
  · exact grids_out5 r c s w h0 h1 h2 h3 h4 h5
  obtain ⟨r', rfl⟩ : ∃ k : Nat, r = (k : Int) := ⟨r.toNat, by omega⟩
  obtain ⟨c', rfl⟩ : ∃ k : Nat, c = (k : Int) := ⟨c.toNat, by omega⟩
  obtain ⟨s', rfl⟩ : ∃ k : Nat, s = (k : Int) := ⟨s.toNat, by omega⟩
  by_cases e1 : r' = 1
  · by_cases e2 : c' = 1
    · exact grids_A r' c' s' w (by omega) (by omega) (by omega) (by omega) (by omega) (by omega) e1 e2
    · exact grids_B r' c' s' w (by omega) (by omega) (by omega) (by omega) (by omega) (by omega) e1 e2
  · by_cases e2 : c' = 1
    · exact grids_C r' c' s' w (by omega) (by omega) (by omega) (by omega) (by omega) (by omega) e1 e2
    · exact grids_D r' c' s' w (by omega) (by omega) (by omega) (by omega) (by omega) (by omega) e1 e2
end Go.Proofs.Ytpkfngfenkcjoaa

/- HullGrids gives true for all numbers (P7.1, P7.3), and leaves its arguments as they were. No condition. -/
set_option linter.all false
namespace Go.Proofs.Ytpkfngfenkcjoaa
open Go.ChangeShapes Go.WideShapes Go.ChangeAt Go.RowKit Go.Joins Go.Deep

set_option maxRecDepth 100000 in
theorem hgrids_lifted (os : Os) (started : os.Started) (H : Type) (enc : TypeId × Value → H) :
    ReturnsInHanded {} Try.checked os 4 .any (Rows.hullGridsSpec.pre6 enc Try.prog Try.f4 Rows.hullGridsRow.domain false) (Rows.hullGridsSpec.post enc Try.prog Try.f4 false true false false) := by
  refine returnsInHanded_of_change (C := Try.checked) Try.own started (by kernel_rfl) Try.func4
    (ChangeSpec.witness6 (enc := enc) (C := Try.checked) false ⟨#[], #[.int .i64 0, .int .i64 0, .int .i64 0], []⟩ 8 (by kernel_rfl) (by kernel_rfl) (by kernel_rfl) (by kernel_rfl)) ?_
  intro W base args ds gs before hval0 hW hcnd _
  have hval : ∀ (j : Nat) t v, Try.f4.params[j]? = some t → args[j]? = some v → Value.okWide Try.prog W .any base t v := hval0
  have hW' := hW
  obtain ⟨p, q, hA0, hV, rfl, hfz, hnd⟩ := hW
  have hA : DataW.TrodAll enc Try.prog W 0 (fun _ => true) true Try.f4.params.toList args.toList ds p := hA0
  rw [Try.params4] at hA hval
  obtain ⟨v0, v1, v2, d0, d1, d2, p0, p1, p2, rfl, rfl, rfl, h0, h1, h2⟩ := trodAll_three hA
  obtain ⟨rfl, rfl⟩ := trodVars_none hV
  obtain ⟨n0, rfl, rfl, rfl, i0⟩ := open_int Try.underlying3 (hval 0 3 v0 rfl rfl) h0
  obtain ⟨n1, rfl, rfl, rfl, i1⟩ := open_int Try.underlying3 (hval 1 3 v1 rfl rfl) h1
  obtain ⟨n2, rfl, rfl, rfl, i2⟩ := open_int Try.underlying3 (hval 2 3 v2 rfl rfl) h2
  clear hA0 hval0
  refine (grids_any n0 n1 n2 W).mono fun e W' ⟨he, bel⟩ => ?_
  subst he
  exact ⟨_, rfl, _, _, _, [], _, [], hW', trodAll_mk1 (shut_bool Try.underlying4 _), trodAll_mk3 (shut_int Try.underlying3 i0) (shut_int Try.underlying3 i1) (shut_int Try.underlying3 i2), rfl, bel.frame _, fun h => by cases h⟩

/-- The statement. -/
theorem hgrids_holds : Rows.HullGridsSaid :=
  OpenClaim.holds_of_wide 4 Try.f4 rfl rfl rfl rfl rfl rfl rfl ⟨rfl, rfl, rfl, rfl, rfl⟩ rfl rfl rfl rfl rfl (by kernel_rfl) Try.func4 (by kernel_rfl)
    (of_decide_eq_true (by kernel_rfl)) (by unfold Func.isWrapper; first | (rw [if_pos (by decide +kernel)]; kernel_rfl) | (rw [if_neg (by decide +kernel)]; exact ⟨rfl, rfl⟩))
    (fun os started H enc _ => hgrids_lifted os started H enc)
#print axioms hgrids_holds
end Go.Proofs.Ytpkfngfenkcjoaa
