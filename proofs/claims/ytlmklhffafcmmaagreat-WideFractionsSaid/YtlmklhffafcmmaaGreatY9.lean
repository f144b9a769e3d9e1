/- What the theorem leans on, part 9: FromD2, Parse, Law1, RefBits, RefOut, Q2, Kn1. -/
import Derived.Test.YtlmklhffafcmmaaGreatY8
import Derived.Test.YtlmklhffafcmmaaGreatY3
import Derived.Test.YtlmklhffafcmmaaGreatY4
import Derived.Test.YtlmklhffafcmmaaGreatY7
import Derived.Test.YtlmklhffafcmmaaGreatY6

/- The function wide.fromDigits. -/
namespace Go.Proofs.YtlmklhffafcmmaaGreat
open Go.RowKit

theorem seg0_get (l s : List Nat) (k : Nat) (hs : s.length = k) (h : k < l.length) (h2 : k < (s ++ l.drop k).length) : (s ++ l.drop k)[k] = l[k] := by
  rw [List.getElem_append_right (by omega), List.getElem_drop]
  congr 1
  omega
theorem seg0_set (l s : List Nat) (k z : Nat) (hs : s.length = k) (h : k < l.length) : (s ++ l.drop k).set k z = (s ++ [z]) ++ l.drop (k + 1) := by
  rw [List.set_append_right _ _ (by omega), List.drop_eq_getElem_cons h, hs, Nat.sub_self, List.set_cons_zero, List.append_assoc]
  rfl
/-- The text behind the first chunk, and the number with it. -/
theorem fd_rest {d sfx : ByteArray} {V Z k y c : Nat} (hk : k ≤ sfx.size) (hsz : sfx.size ≤ d.size) (hval : dv sfx.data.toList V = Z) (hall : AllD sfx) (hV : V < 10 ^ (d.size - sfx.size)) (hy : 10 ^ k = y) (hc : dv (sfx.data.toList.take k) 0 = c) :
    (sfx.extract k sfx.size).size + k = sfx.size ∧ dv (sfx.extract k sfx.size).data.toList (y * V + c) = Z ∧ AllD (sfx.extract k sfx.size) ∧ y * V + c < 10 ^ (d.size - (sfx.extract k sfx.size).size) := by
  have h1 : (sfx.extract k sfx.size).size + k = sfx.size := by simp; omega
  refine ⟨h1, ?_, hall.drop k hk, ?_⟩
  · rw [← hval, fd_val sfx V k hk, hy, hc]
  · have hcc := fd_chunk hall k hk
    rw [hc] at hcc
    have h2 := fd_bound hV hy.symm hcc
    rwa [show d.size - sfx.size + k = d.size - (sfx.extract k sfx.size).size by omega] at h2

def szOf : Value → Nat
  | .string s => s.size
  | _ => 0

set_option maxRecDepth 100000 in
set_option maxHeartbeats 4000000 in
theorem fromDigits_any (d : ByteArray) (w : World) (hd : AllD d) (hs : d.size ≤ 1000000) :
    Calls Tryz.prog 125 #[.string d] w (Gives (decv d) w) := by
  obtain ⟨Z, hZ⟩ : ∃ Z, decv d = Z := ⟨_, rfl⟩
  rw [hZ]
  have hi81 : (Tryz.prog.info? 132).map (fun i => (i.zero, i.size, i.bytes)) = some (some (.int .u64 0), 1, 8) := by kernel_rfl
  obtain ⟨i0, hi0, hz0, hz1, hz2⟩ := info_parts hi81
  have HI := Lib.hid (And.intro hi0 (And.intro hz0 (And.intro hz1 hz2)))
  have HD := Lib.hid hd
  have HZ := Lib.hid hZ
  clear hd hZ hi81 hi0 hz0 hz1 hz2
  go_enter Tryz.func125, Tryz.ntmps125
  go_wp2
  go_loopw [0, 3, 4, 5, 6, 7] (fun sv lv _ _ _ _ wr => ∃ (wz : World) (sfx : ByteArray) (V n : Nat), wz = wr ∧ sv = .string sfx ∧ sfx.size ≤ d.size ∧ n ≤ 1000000 ∧ Hid (n = (Nm.dg W V).length) ∧ Hid (dv sfx.data.toList V = Z) ∧ Hid (AllD sfx) ∧ Hid (V < 10 ^ (d.size - sfx.size)) ∧ Hid (wz.ownsRow w.heap.size 132 1 lv n (uv (Nm.dg W V))) ∧ Hid (Below w.heap.size w wz))
    (fun sv _ _ _ _ _ _ => szOf sv)
  case atStart =>
    exact ⟨w, d, 0, 0, rfl, rfl, Nat.le_refl _, Nat.zero_le _, rfl, HZ.out, HD.out, by show _ < _; rw [Nat.sub_self]; decide, World.ownsRow_nil _ _ _ _, Below.refl _ _⟩
  case round =>
    obtain ⟨wz, sfx, V, n, rfl, rfl, hsz, hn6, hn, hval, hall, hV, hown, hbl⟩ := hrel
    clear HD HZ
    rcases Nat.eq_zero_or_pos sfx.size with h0 | h0
    · obtain rfl := empty_of h0
      have HV : Hid (V = Z) := hval.out
      have HR : Hid (Rd wz _ (Nm.dg W V)) := Rd.of_own (by have h5 := hown.out; rw [hn.out] at h5; exact h5)
      clear hval hall hV hown hn hn6 hsz h0
      go_wp2
      go_ret
      exact ⟨_, rfl, by rw [← HV.out]; exact HR.out, hbl.out⟩
    · have hne : sfx.toList.isEmpty = false := by
        have h := nonempty_str sfx h0
        cases hd : sfx.toList with
        | nil => rw [hd] at h; simp at h
        | cons x l => rfl
      obtain ⟨pl, gl, cl, rfl, hncl, hgl⟩ := own_form hown.out
      have HGL := Lib.hid hgl
      clear hgl
      obtain ⟨sm, hsm⟩ : ∃ sm : Nat, (sfx.size - 1) % 19 = sm := ⟨_, rfl⟩
      have hmod : ((sfx.size : Int) - 1) % 19 = (sm : Int) := by omega
      have hsm1 : sm < 19 := by omega
      have hsm2 : sm + 1 ≤ sfx.size := by have := Nat.mod_le (sfx.size - 1) 19; omega
      clear hsm
      go_wp2
      go_loopw [5, 6, 18] (fun pv cv iv wr => ∃ (nd k : Nat) (pi ci : Int), wr = wz.drewN nd ∧ k ≤ sm + 1 ∧ iv = .int .i64 (k : Int) ∧ pv = .int .u64 pi ∧ cv = .int .u64 ci ∧ 0 ≤ pi ∧ 0 ≤ ci ∧ ci < pi ∧ Hid (pi = ((10 ^ k : Nat) : Int)) ∧ Hid (ci = ((dv (sfx.data.toList.take k) 0 : Nat) : Int)))
        (fun _ _ iv _ => sm + 1 - (intOf iv).toNat)
      case atStart => exact ⟨0, 0, 1, 0, rfl, Nat.zero_le _, rfl, rfl, rfl, by omega, by omega, by omega, rfl, rfl⟩
      case round =>
        obtain ⟨nd, k, pi, ci, rfl, hk, rfl, rfl, rfl, hp0, hc0, hcp, hpi, hci⟩ := hrel
        by_cases hlt : k < sm + 1
        · have hks : k < sfx.size := by omega
          obtain ⟨x, hx⟩ : ∃ x : Int, (sfx[k].toNat : Int) = x := ⟨_, rfl⟩
          have hx1 := hall.out k hks
          have hp18 : pi ≤ 1000000000000000000 := by
            have h5 : pi = ((10 ^ k : Nat) : Int) := hpi.out
            have h6 : 10 ^ k ≤ 10 ^ 18 := Nat.pow_le_pow_right (by decide) (by omega)
            have h7 : (10 : Nat) ^ 18 = 1000000000000000000 := by decide
            omega
          obtain ⟨e1, e2, e3, e4, e5⟩ := fd_digit hp0 hp18 hc0 hcp (x := x) (by omega) (by omega)
          have HP : Hid (10 * pi = ((10 ^ (k + 1) : Nat) : Int)) := by
            show _ = _
            rw [hpi.out, Nat.pow_succ]; simp; omega
          have HC : Hid (10 * ci + (x - 48) = ((dv (sfx.data.toList.take (k + 1)) 0 : Nat) : Int)) := by
            show _ = _
            have hkl : k < sfx.data.toList.length := hks
            rw [dv_take _ k hkl, hci.out, ← hx]
            have e : sfx.data.toList[k].toNat = sfx[k].toNat := rfl
            rw [e]
            omega
          have HB1 : Hid (0 ≤ 10 * ci + (x - 48) ∧ 10 * ci + (x - 48) < 10 * pi) := by show _ ∧ _; omega
          clear hx1 hp18
          go_wp2
          go_quiet (fail)
          go_wp2
          go_roundw
          case rel => exact ⟨_, k + 1, 10 * pi, 10 * ci + (x - 48), rfl, by omega, by go_num, rfl, rfl, by omega, HB1.out.1, HB1.out.2, HP, HC⟩
          case measure => simp [intOf]; omega
        · have hke : k = sm + 1 := by omega
          obtain ⟨y, hy⟩ : ∃ y : Nat, 10 ^ (sm + 1) = y := ⟨_, rfl⟩
          obtain ⟨c0, hc0e⟩ : ∃ c0 : Nat, dv (sfx.data.toList.take (sm + 1)) 0 = c0 := ⟨_, rfl⟩
          obtain rfl : pi = (y : Int) := by rw [hpi.out, hke, hy]
          obtain rfl : ci = (c0 : Int) := by rw [hci.out, hke, hc0e]
          have hyW : Hid (y < W) := by
            show _ < _
            have h6 : 10 ^ (sm + 1) ≤ 10 ^ 19 := Nat.pow_le_pow_right (by decide) (by omega)
            have h7 : (10 : Nat) ^ 19 = 10000000000000000000 := by decide
            unfold W
            omega
          have hcW : Hid (c0 < W) := by have h5 := hyW.out; show _ < _; omega
          have hy0 : Hid (0 < y) := by show _ < _; omega
          have HRest := Lib.hid (fd_rest hsm2 hsz hval.out hall.out hV.out hy hc0e)
          have HOW0 : Hid ((wz.drewN nd).ownsRow w.heap.size 132 1 (.slice pl n cl) n (uv (Nm.dg W V))) := hown.out
          have HBL0 : Hid (Below w.heap.size w (wz.drewN nd)) := ⟨hbl.out.os, hbl.out.tape, hbl.out.output, hbl.out.size, hbl.out.block⟩
          clear hy hc0e hpi hci hp0 hc0 hcp hk hval hall hV hown hbl hke
          go_wp2
          clear hmod hlt
          go_loopw [6, 8, 9, 37] (fun cv _ _ jv wr => ∃ (wy : World) (k cn : Nat) (s : List Nat), wy = wr ∧ k ≤ n ∧ jv = .int .i64 (k : Int) ∧ cv = .int .u64 (cn : Int) ∧ Hid (FdInv (Nm.dg W V) y c0 k cn s) ∧
              Hid (wy.ownsRow w.heap.size 132 1 (.slice pl n cl) n (uv (s ++ (Nm.dg W V).drop k))) ∧ Hid (Below w.heap.size w wy))
            (fun _ _ _ jv _ => n - (intOf jv).toNat)
          case atStart =>
            exact ⟨_, 0, c0, [], rfl, Nat.zero_le _, rfl, rfl, FdInv.start hcW.out, HOW0.out, HBL0.out⟩
          case round =>
            clear HOW0 HBL0
            obtain ⟨wy, k, cn, s, rfl, hk, rfl, rfl, hinv, hown, hbl⟩ := hrel
            by_cases hlt : k < n
            · obtain ⟨rfl, hgl1, _⟩ := HGL.out (by omega)
              have hX : k < (Nm.dg W V).length := by have h5 : n = (Nm.dg W V).length := hn.out; omega
              have hsl := hinv.out.1
              have hkl : k < (s ++ (Nm.dg W V).drop k).length := by simp; omega
              have hdx := Nm.dig_get (Nm.dig_dg W2 V) k hX
              obtain ⟨e1, e2⟩ := own_cell hown.out hkl
              rw [seg0_get _ s k hsl hX hkl] at e1
              have HST := Lib.hid (hinv.out.step hX hdx hyW.out)
              have HOW := Lib.hid (own_set (k := k) (x := ml (Nm.dg W V)[k] y cn) hown.out)
              have HSS := Lib.hid (seg0_set (Nm.dg W V) s k (ml (Nm.dg W V)[k] y cn) hsl hX)
              rw [HSS.out] at HOW
              have HMM := Lib.hid (fun w => mulAdd_any (Nm.dg W V)[k] y cn hdx hyW.out hinv.out.2.2.1 w)
              have hkc : k < cl := by omega
              have HBL : Hid (Below w.heap.size w (wy.setCell ⟨gl, k, none⟩ (.int .u64 (ml (Nm.dg W V)[k] y cn : Int)))) := hbl.out.setCell (p := ⟨gl, k, none⟩) (hown.out.lt _ rfl).1 _
              clear HSS hinv hown hdx hsl hkl hbl
              generalize ml (Nm.dg W V)[k] y cn = mlo at *
              generalize mh (Nm.dg W V)[k] y cn = mhi at *
              generalize (Nm.dg W V)[k] = xk at *
              go_wp2_with (go_at_call 169; (with_reducible refine (HMM.out _).mono ?_); rintro e w2 ⟨rfl, rfl⟩)
              go_roundw
              case rel => exact ⟨_, k + 1, mhi, _, rfl, by omega, by go_num, rfl, HST, HOW, HBL⟩
              case measure => simp [intOf]; omega
            · obtain rfl : n = k := by omega
              have HF : Hid ((cn = 0 → s = Nm.dg W (y * V + c0)) ∧ (0 < cn → s ++ [cn] = Nm.dg W (y * V + c0))) := by
                have h5 := hinv.out
                rw [hn.out] at h5
                exact h5.finish hy0.out
              have HS : Hid (s.length = n) := hinv.out.1
              have HD : Hid ((Nm.dg W V).drop n = []) := List.drop_of_length_le (by have h5 : n = (Nm.dg W V).length := hn.out; omega)
              have HL := Lib.hid (dg_len_pow HRest.out.2.2.2)
              rw [HD.out, List.append_nil] at hown
              obtain ⟨V2, hV2⟩ : ∃ V2, y * V + c0 = V2 := ⟨_, rfl⟩
              rw [hV2] at HF HRest HL
              clear hV2 hinv hk HD
              rcases Nat.eq_zero_or_pos cn with h0c | h0c
              · subst h0c
                have HL2 : Hid (n = (Nm.dg W V2).length) := by show _ = _; rw [← HF.out.1 rfl]; exact HS.out.symm
                rw [HF.out.1 rfl] at hown
                clear HF HS
                go_wp2
                go_roundw
                case rel => exact ⟨wy, sfx.extract (sm + 1) sfx.size, V2, n, rfl, rfl, by have h5 := HRest.out.1; omega, hn6, HL2, HRest.out.2.1, HRest.out.2.2.1, HRest.out.2.2.2, hown, hbl⟩
                case measure => have h5 := HRest.out.1; simp only [szOf]; omega
              · have HL2 : Hid (n + 1 = (Nm.dg W V2).length) := by
                  show _ = _
                  have h5 : s.length = n := HS.out
                  rw [← HF.out.2 h0c]; simp [h5]
                have HU : Hid (uv s ++ [Value.int .u64 (cn : Int)] = uv (Nm.dg W V2)) := by
                  show _ = _
                  rw [← HF.out.2 h0c]; simp [uv]
                have hn1 : n + 1 ≤ 1000000 := by have h5 : n + 1 = (Nm.dg W V2).length := HL2.out; have h6 := HL.out; omega
                have hcpos : (0 : Int) < (cn : Int) := by omega
                clear HF HS HL hn6
                go_wp2_with (at_builtin; refine wpList_append_own _ rfl _ _ 84 rfl w.heap.size 132 i0 (.int .u64 0) 1 8 Tryz.underlying84 HI.out.1 HI.out.2.1 HI.out.2.2.1 HI.out.2.2.2 rfl (by decide) _ _ _ rfl (hown.out.alloc _) ⟨wy.heap.size, 0, none⟩ 1 1 [.int .u64 (cn : Int)] rfl rfl ?fc1 ?fc2 ?fc3 ?fc4 ?fc5 ?_)
                case fc1 => exact one_cell (by simp [go_sem])
                case fc2 => intro u hu; simp at hu; subst hu; rfl
                case fc3 => unfold maxLen; omega
                case fc4 => omega
                case fc5 => have h5 := hbl.out.size; simp; omega
                intro v' w2 hown1 hgrow1 _
                rw [HU.out] at hown1
                have hbl1 : Hid (Below w.heap.size w w2) := (hbl.out.alloc hbl.out.size _).grown hgrow1 (by have h5 := hbl.out.size; simp; omega) (fun q hq => (hown.out.lt q hq).1)
                have hown2 : Hid (w2.ownsRow w.heap.size 132 1 v' (n + 1) (uv (Nm.dg W V2))) := hown1
                clear hown1 hgrow1 hbl hown HU
                go_wp2
                go_roundw
                case rel => exact ⟨w2, sfx.extract (sm + 1) sfx.size, V2, n + 1, rfl, rfl, by have h5 := HRest.out.1; omega, hn1, HL2, HRest.out.2.1, HRest.out.2.2.1, HRest.out.2.2.2, hown2, hbl1⟩
                case measure => have h5 := HRest.out.1; simp only [szOf]; omega
end Go.Proofs.YtlmklhffafcmmaaGreat

/- The function wide.Parse. -/
namespace Go.Proofs.YtlmklhffafcmmaaGreat
open Go.RowKit

theorem decT_all {s : ByteArray} (h : DecT s) : AllD (ds s) := by
  rcases h with h | h
  · rw [ByteArray.toList_eq] at h
    have e : ds s = ⟨#[48]⟩ := by unfold ds; rw [h]; rfl
    rw [e]
    decide
  · exact h.2
theorem decv_lt {d : ByteArray} (h : AllD d) : decv d < 10 ^ d.size := dv_lt _ h.list

set_option maxRecDepth 100000 in
set_option maxHeartbeats 1000000 in
theorem Parse_bad (s : ByteArray) (w : World) (hs : s.size ≤ 1000000000) (hd : ¬ DecT s) :
    Calls Tryz.prog 57 #[.string s] w (WPost (wd false 0) 6 w) := by
  have HD := Lib.hid (fun w => isDecimal_any s false w hs (by simp [hd]))
  clear hd
  have HZ := Lib.hid (below_one w (.cells #[.bool false, .string ⟨#[]⟩] 23))
  go_enter Tryz.func57, Tryz.ntmps57
  go_wp2_with fail
  refine (HD.out _).mono ?_
  rintro e wa ⟨rfl, rfl⟩
  go_wp2
  exact bodyPost_ret (v := .tuple #[.agg #[.bool false, .string ⟨#[]⟩], .int .i64 6]) (by simp [results, Tryz.results57, go_sem]) rfl ⟨by rw [wd, bs_zero]; simp, HZ.out⟩

set_option maxRecDepth 100000 in
set_option maxHeartbeats 1000000 in
theorem Parse_long (s : ByteArray) (w : World) (hs : s.size ≤ 1000000000) (hd : DecT s) (hl : 19729 < (ds s).size) :
    Calls Tryz.prog 57 #[.string s] w (WPost (wd false 0) 7 w) := by
  have HD := Lib.hid (fun w => isDecimal_any s true w hs (by simp [hd]))
  have HC : Hid (∀ w, Calls Tryz.prog 124 #[.string s, .string ⟨#[45]⟩] w fun e w' => e = .returned (.tuple #[.string (ds s), .bool (dneg s)]) ∧ w' = w) := fun w => Tryz.strings_CutPrefix s ⟨#[45]⟩ w
  clear hd
  have HZ := Lib.hid (below_one w (.cells #[.bool false, .string ⟨#[]⟩] 23))
  have h2 := ds_size s
  generalize ds s = d at *
  generalize dneg s = ng at *
  go_enter Tryz.func57, Tryz.ntmps57
  go_wp2_with fail
  refine (HD.out _).mono ?_
  rintro e wa ⟨rfl, rfl⟩
  go_wp2_with fail
  refine (HC.out _).mono ?_
  rintro e wa ⟨rfl, rfl⟩
  go_wp2
  exact bodyPost_ret (v := .tuple #[.agg #[.bool false, .string ⟨#[]⟩], .int .i64 7]) (by simp [results, Tryz.results57, go_sem]) rfl ⟨by rw [wd, bs_zero]; simp, HZ.out⟩

set_option maxRecDepth 100000 in
set_option maxHeartbeats 1000000 in
theorem Parse_ok (s : ByteArray) (w : World) (hs : s.size ≤ 1000000000) (hd : DecT s) (hl : (ds s).size ≤ 19729) :
    Calls Tryz.prog 57 #[.string s] w (WPost (wres (dneg s) (decv (ds s))) (werr (decv (ds s))) w) := by
  have HD := Lib.hid (fun w => isDecimal_any s true w hs (by simp [hd]))
  have HC : Hid (∀ w, Calls Tryz.prog 124 #[.string s, .string ⟨#[45]⟩] w fun e w' => e = .returned (.tuple #[.string (ds s), .bool (dneg s)]) ∧ w' = w) := fun w => Tryz.strings_CutPrefix s ⟨#[45]⟩ w
  have hall := decT_all hd
  have HF := Lib.hid (fun w => fromDigits_any (ds s) w hall (by omega))
  have HW := Lib.hid (fun v w h => write_any (dneg s) v (decv (ds s)) w h (Nat.le_trans (dg_len_pow (decv_lt hall)) (by omega)))
  obtain ⟨rb, rs, hr⟩ := wres_form (dneg s) (decv (ds s))
  rw [hr] at HW ⊢
  clear hd hall hr
  generalize werr (decv (ds s)) = rc at *
  generalize decv (ds s) = m at *
  have h2 := ds_size s
  generalize ds s = d at *
  generalize dneg s = ng at *
  obtain ⟨w0, hw0⟩ : ∃ w0 : World, w0 = w.alloc (.cells #[.bool false, .string ⟨#[]⟩] 23) := ⟨_, rfl⟩
  have hb0 : Hid (Below w.heap.size w w0) := by rw [hw0]; exact below_one _ _
  have k4 : w0.cell? ⟨w.heap.size, 0, none⟩ = some (.bool false) := by rw [hw0]; simp [go_sem]
  have k5 : w0.cell? ⟨w.heap.size, 1, none⟩ = some (.string ⟨#[]⟩) := by rw [hw0]; simp [go_sem]
  have k6 : w0.frozen? ⟨w.heap.size, 0, none⟩ = false := by rw [hw0]; simp [go_sem]
  have k7 : w0.frozen? ⟨w.heap.size, 1, none⟩ = false := by rw [hw0]; simp [go_sem]
  have KK := Lib.hid (And.intro k4 (And.intro k5 (And.intro k6 k7)))
  have Hw0 := Lib.hid hw0
  clear hw0 k4 k5 k6 k7
  go_enter Tryz.func57, Tryz.ntmps57
  go_wp2_with fail
  rw [← Hw0.out]
  refine (HD.out _).mono ?_
  rintro e wa ⟨rfl, rfl⟩
  go_wp2_with fail
  refine (HC.out _).mono ?_
  rintro e wa ⟨rfl, rfl⟩
  go_wp2_with fail
  refine (HF.out _).mono ?_
  rintro e w1 ⟨v1, rfl, r1, b1⟩
  have HR := Lib.hid r1
  have HB1 := Lib.hid b1
  obtain ⟨p9, b9, o9, c9, rfl, hr9⟩ := r1
  clear b1 hr9
  go_wp2_with fail
  refine (HW.out _ _ HR.out).mono ?_
  rintro e w2 ⟨rfl, b2⟩
  have c2 := chain HB1.out b2
  have q4 := keep1 c2 KK.out.1
  have q5 := keep1 c2 KK.out.2.1
  have q6 := keepf c2 KK.out.1 KK.out.2.2.1
  have q7 := keepf c2 KK.out.2.1 KK.out.2.2.2
  have HZ := Lib.hid (below_set2 (chain hb0.out c2) (Nat.le_refl w.heap.size) (.bool rb) (.string rs))
  clear b2 c2
  go_wp2
  exact bodyPost_ret (v := .tuple #[.agg #[.bool rb, .string rs], .int .i64 rc]) (by simp [results, Tryz.results57, go_sem, q4, q5]) rfl ⟨rfl, HZ.out⟩
end Go.Proofs.YtlmklhffafcmmaaGreat

/- wide.Quo by 0; the law's functions w and q. -/
namespace Go.Proofs.YtlmklhffafcmmaaGreat
open Go.RowKit

set_option maxRecDepth 100000 in
set_option maxHeartbeats 1000000 in
theorem Quo_zero (a b : Bool) (s : ByteArray) (w : World) (hv1 : vld a s = true) (hv2 : vld b ⟨#[]⟩ = true) :
    Calls Tryz.prog 53 #[.agg #[.bool a, .string s], .agg #[.bool b, .string ⟨#[]⟩]] w (Q3Post (wd false 0) (wd false 0) 3 w) := by
  have z1 := vld_size hv1
  have HV1 := Valid_any a s
  have HV2 := Valid_any b ⟨#[]⟩
  rw [hv1] at HV1
  rw [hv2] at HV2
  have HA := Lib.hid (fun w => HV1 w (by omega))
  have HB := Lib.hid (fun w => HV2 w (by decide))
  clear HV1 HV2 hv1 hv2
  obtain ⟨w0, hw0⟩ : ∃ w0 : World, w0 = (((w.alloc (.cells #[.bool a, .string s] 23)).alloc (.cells #[.bool b, .string ⟨#[]⟩] 23)).alloc (.cells #[.bool false, .string ⟨#[]⟩] 23)).alloc (.cells #[.bool false, .string ⟨#[]⟩] 23) := ⟨_, rfl⟩
  have hb0 : Hid (Below w.heap.size w w0) := by rw [hw0]; exact ((((Below.refl _ _).alloc (Nat.le_refl _) _).alloc (by simp) _).alloc (by simp; omega) _).alloc (by simp; omega) _
  have i2 : ZC (.bool b) (.string ⟨#[]⟩) w0 (w.heap.size + 1) := by rw [hw0]; refine ⟨?_, ?_, ?_, ?_⟩ <;> simp [go_sem]
  have i3 : ZC (.bool false) (.string ⟨#[]⟩) w0 (w.heap.size + 1 + 1) := by rw [hw0]; refine ⟨?_, ?_, ?_, ?_⟩ <;> simp [go_sem]
  have i4 : ZC (.bool false) (.string ⟨#[]⟩) w0 (w.heap.size + 1 + 1 + 1) := by rw [hw0]; refine ⟨?_, ?_, ?_, ?_⟩ <;> simp [go_sem]
  have I2 := Lib.hid i2
  have I3 := Lib.hid i3
  have I4 := Lib.hid i4
  have Hw0 := Lib.hid hw0
  clear i2 i3 i4 hw0
  go_enter Tryz.func53, Tryz.ntmps53
  go_wp2_with fail
  rw [← Hw0.out]
  refine (HA.out _).mono ?_
  rintro e wa ⟨rfl, ba⟩
  obtain ⟨q0, q1, _, _⟩ := I2.out.next ba
  have BA := Lib.hid ba
  clear ba
  go_wp2_with fail
  refine (HB.out _).mono ?_
  rintro e wb ⟨rfl, bb⟩
  have c := chain BA.out bb
  obtain ⟨k0, k1, _, _⟩ := I2.out.next c
  obtain ⟨m0, m1, m2, m3⟩ := I3.out.next c
  obtain ⟨n0, n1, n2, n3⟩ := I4.out.next c
  have HZ := Lib.hid (below_set2 (below_set2 (chain hb0.out c) (g := w.heap.size + 1 + 1) (by omega) (.bool false) (.string ⟨#[]⟩)) (g := w.heap.size + 1 + 1 + 1) (by omega) (.bool false) (.string ⟨#[]⟩))
  clear bb c q0 q1
  go_wp2
  exact bodyPost_ret (v := .tuple #[.agg #[.bool false, .string ⟨#[]⟩], .agg #[.bool false, .string ⟨#[]⟩], .int .i64 3]) (by simp [results, Tryz.results53, go_sem, m0, m1, n0, n1]) rfl ⟨by rw [wd, bs_zero]; simp, HZ.out⟩

/-- The wide integer of an integer comes back. -/
def ZPost (z : Int) (w : World) (e : Ending) (w' : World) : Prop := e = .returned (.agg #[.bool (zb z), .string (zs z)]) ∧ Below w.heap.size w w'
theorem wz_eq (z : Int) : wz z = .agg #[.bool (zb z), .string (zs z)] := by
  rw [wz, wd, zb, zs]
  by_cases hz : z < 0
  · have h1 : z.natAbs ≠ 0 := by omega
    simp [hz, h1]
  · simp [hz]

set_option maxRecDepth 100000 in
set_option maxHeartbeats 1000000 in
theorem w_any (z : Int) (w : World) (h1 : -9223372036854775808 ≤ z) (h2 : z ≤ 9223372036854775807) : Calls Tryz.prog 54 #[.int .i64 z] w (ZPost z w) := by
  have HN := Lib.hid (fun w => rnum_any z w h1 h2)
  have hl : (Nm.dg D9 z.natAbs).length ≤ 1000000 := by
    refine Nat.le_trans (Nm.len_le_of_val (k := 3) D92 (Nm.nrm_dg D92 _) ?_) (by decide)
    rw [Nm.val_dg D92]
    unfold D9
    omega
  have HT : Hid (∀ v w, Rz w v z → Calls Tryz.prog 119 #[iV z v] w fun e w' => e = .returned (.agg #[.bool (zb z), .string (zs z)]) ∧ Below w.heap.size w w') := fun v w h => by
    have := rto_int z v w h hl
    unfold ToPost at this
    rwa [wz_eq] at this
  unfold iV at HT
  obtain ⟨w0, hw0⟩ : ∃ w0 : World, w0 = w.alloc (.cells #[.bool false, .string ⟨#[]⟩] 23) := ⟨_, rfl⟩
  have hb0 : Hid (Below w.heap.size w w0) := by rw [hw0]; exact below_one _ _
  have I3 : Hid (ZC (.bool false) (.string ⟨#[]⟩) w0 w.heap.size) := by rw [hw0]; exact ZC.new rfl
  have Hw0 := Lib.hid hw0
  clear hw0 hl
  go_enter Tryz.func54, Tryz.ntmps54
  go_wp2_with fail
  rw [← Hw0.out]
  refine (HN.out _).mono ?_
  rintro e wa ⟨v1, rfl, r1, ba⟩
  have BA := Lib.hid ba
  have R1 := Lib.hid r1
  unfold iV
  clear ba r1
  go_wp2_with fail
  refine (HT.out _ _ R1.out).mono ?_
  rintro e wb ⟨rfl, bb⟩
  have c := chain BA.out bb
  obtain ⟨m0, m1, m2, m3⟩ := I3.out.next c
  have HZ := Lib.hid (below_set2 (chain hb0.out c) (Nat.le_refl w.heap.size) (.bool (zb z)) (.string (zs z)))
  clear bb c
  go_wp2
  exact bodyPost_ret (v := .agg #[.bool (zb z), .string (zs z)]) (by simp [results, Tryz.results54, go_sem, m0, m1]) rfl ⟨rfl, HZ.out⟩

/-- The ratio of two integers, as it stands. -/
def QZPost (x y : Int) (w : World) (e : Ending) (w' : World) : Prop := e = .returned (.agg #[.bool (zb x), .string (zs x), .bool (zb y), .string (zs y)]) ∧ Below w.heap.size w w'

set_option maxRecDepth 100000 in
set_option maxHeartbeats 1000000 in
theorem q_any (x y : Int) (w : World) (h1 : -9223372036854775808 ≤ x) (h2 : x ≤ 9223372036854775807) (h3 : -9223372036854775808 ≤ y) (h4 : y ≤ 9223372036854775807) : Calls Tryz.prog 60 #[.int .i64 x, .int .i64 y] w (QZPost x y w) := by
  have HX := Lib.hid (fun w => w_any x w h1 h2)
  have HY := Lib.hid (fun w => w_any y w h3 h4)
  unfold ZPost at HX HY
  unfold QZPost
  generalize zb x = xb at *
  generalize zs x = xs at *
  generalize zb y = yb at *
  generalize zs y = ys at *
  obtain ⟨w0, hw0⟩ : ∃ w0 : World, w0 = w.alloc (.cells #[.bool false, .string ⟨#[]⟩, .bool false, .string ⟨#[]⟩] 27) := ⟨_, rfl⟩
  have hb0 : Hid (Below w.heap.size w w0) := by rw [hw0]; exact below_one _ _
  have I3 : Hid (ZC4 (.bool false) (.string ⟨#[]⟩) (.bool false) (.string ⟨#[]⟩) w0 w.heap.size) := by rw [hw0]; exact ZC4.made0 w
  have Hw0 := Lib.hid hw0
  clear hw0
  go_enter Tryz.func60, Tryz.ntmps60
  go_wp2_with fail
  rw [← Hw0.out]
  refine (HX.out _).mono ?_
  rintro e wa ⟨rfl, ba⟩
  have BA := Lib.hid ba
  clear ba
  go_wp2_with fail
  refine (HY.out _).mono ?_
  rintro e wb ⟨rfl, bb⟩
  have c := chain BA.out bb
  obtain ⟨⟨m0, m1, m2, m3⟩, m4, m5, m6, m7⟩ := I3.out.next c
  have HZ := Lib.hid (below_set4 (chain hb0.out c) (Nat.le_refl w.heap.size) (.bool xb) (.string xs) (.bool yb) (.string ys))
  clear bb c
  go_wp2
  exact bodyPost_ret (v := .agg #[.bool xb, .string xs, .bool yb, .string ys]) (by simp [results, Tryz.results60, go_sem, m0, m1, m2, m3]) rfl ⟨rfl, HZ.out⟩
end Go.Proofs.YtlmklhffafcmmaaGreat

/- The reference's Bits, Big and Out; the law's function is. -/
namespace Go.Proofs.YtlmklhffafcmmaaGreat
open Go.RowKit

theorem field_mag (x : Bool) (s : ByteArray) (w : World) : (Instr.field 23 (.agg #[.bool x, .string s]) 1).run Tryz.prog w = .ok (.string s) w := by kernel_rfl
theorem bitLen_half : ∀ x < 256, x ≠ 0 → Lib.bitLen x = Lib.bitLen (x / 2) + 1 := by decide +kernel
theorem bitLen_0 : Lib.bitLen 0 = 0 := by decide

set_option maxRecDepth 100000 in
set_option maxHeartbeats 2000000 in
theorem rbits_int (z : Int) (v : Value) (w : World) (h : Rz w v z) (hl : (Nm.dg D9 z.natAbs).length ≤ 1000000) (hs : (zs z).size ≤ 100000000) :
    Calls Tryz.prog 105 #[iV z v] w (IPost (lenB (zs z)) w) := by
  have HT : Hid (∀ v w, Rz w v z → Calls Tryz.prog 119 #[iV z v] w fun e w' => e = .returned (.agg #[.bool (zb z), .string (zs z)]) ∧ Below w.heap.size w w') := fun v w h => by
    have := rto_int z v w h hl
    unfold ToPost at this
    rwa [wz_eq] at this
  have H0 := Lib.hid h
  obtain ⟨p, b1, o1, c1, rfl, hr⟩ := h
  clear hr hl
  unfold iV at HT ⊢
  generalize decide (z < 0) = bz at *
  generalize zb z = bb at *
  generalize zs z = s at *
  generalize (Nm.dg D9 z.natAbs).length = len at *
  obtain ⟨w0, hw0⟩ : ∃ w0 : World, w0 = w.alloc (.cells #[.bool bz, .slice p len c1] 38) := ⟨_, rfl⟩
  have hb0 : Hid (Below w.heap.size w w0) := by rw [hw0]; exact below_one _ _
  have R0 : Hid (Rz w0 (.slice p len c1) z) := Ri.below H0.out hb0.out (Nat.le_refl _)
  have Hw0 := Lib.hid hw0
  clear hw0 H0
  rcases Nat.eq_zero_or_pos s.size with h0 | h0
  · have E : Hid (lenB s = 0) := by show _ = _; unfold lenB; rw [dif_neg (by omega)]
    rw [E.out]
    have hz : ((s.size : Int) == 0) = true := beq_iff_eq.2 (by omega)
    have hfm := field_mag
    clear h0
    go_enter Tryz.func105, Tryz.ntmps105
    go_wp2_with fail
    rw [← Hw0.out]
    refine (HT.out _ _ R0.out).mono ?_
    rintro e wa ⟨rfl, ba⟩
    have HZ := Lib.hid (chain hb0.out ba)
    clear ba
    go_wp2
    go_ret
    exact ⟨rfl, HZ.out⟩
  · have hz : ((s.size : Int) == 0) = false := beq_eq_false_iff_ne.2 (by omega)
    have hfm := field_mag
    obtain ⟨x, hx⟩ : ∃ x : Nat, s[0].toNat = x := ⟨_, rfl⟩
    have hx2 : x < 256 := by rw [← hx]; exact UInt8.toNat_lt _
    have hxi : (s[0].toNat : Int) = (x : Int) := by rw [hx]
    have hwr : IntKind.i64.wrap (x : Int) = (x : Int) := by
      unfold IntKind.wrap
      simp [IntKind.bits, IntKind.signed]
      omega
    obtain ⟨T, hT⟩ : ∃ T : Int, lenB s = T := ⟨_, rfl⟩
    rw [hT]
    have hT2 : 8 * ((s.size : Int) - 1) + ((Lib.bitLen x : Nat) : Int) = T := by
      rw [← hT]
      unfold lenB
      rw [dif_pos h0, hx]
      omega
    have HTT := Lib.hid hT2
    have hT1 : T ≤ 900000000 := by
      have := bitLen_le64 x (Nat.lt_of_lt_of_le hx2 (by decide))
      omega
    clear hT hx hT2
    go_enter Tryz.func105, Tryz.ntmps105
    go_wp2_with fail
    rw [← Hw0.out]
    refine (HT.out _ _ R0.out).mono ?_
    rintro e wa ⟨rfl, ba⟩
    have HZ := Lib.hid (chain hb0.out ba)
    clear ba
    go_wp2
    go_loop [4, 5] (fun nv kv => ∃ (n kk : Int) (k : Nat), nv = .int .i64 n ∧ kv = .int .i64 kk ∧ 0 ≤ kk ∧ kk < 256 ∧ 0 ≤ n ∧ n ≤ T ∧ Hid (kk = (k : Int)) ∧ Hid (n + ((Lib.bitLen k : Nat) : Int) = T)) (fun _ kv => (intOf kv).toNat)
    case atStart => exact ⟨_, _, x, rfl, rfl, by omega, by omega, by omega, by have h5 := HTT.out; omega, rfl, HTT.out⟩
    case round =>
      obtain ⟨n, kk, k, rfl, rfl, hk1, hk2, hn0, hnT, hkk, hinv⟩ := hrel
      by_cases hk0 : kk = 0
      · have E2 : Hid (n = T) := by
          have h5 := hinv.out
          have h6 : kk = (k : Int) := hkk.out
          obtain rfl : k = 0 := by omega
          rw [bitLen_0] at h5
          show _ = _
          omega
        subst hk0
        go_wp2
        go_ret
        exact ⟨by rw [← E2.out]; rfl, HZ.out⟩
      · have hpos : 0 < kk := by omega
        have h6 : kk = (k : Int) := hkk.out
        have hst : Hid (n + 1 + ((Lib.bitLen (k / 2) : Nat) : Int) = T) := by
          have h5 := hinv.out
          rw [bitLen_half k (by omega) (by omega)] at h5
          show _ = _
          omega
        have hn1 : n + 1 ≤ T := by have h5 := hst.out; omega
        obtain ⟨k2, hk2e⟩ : ∃ k2 : Int, kk / 2 = k2 := ⟨_, rfl⟩
        have hk3 : 0 ≤ k2 := by omega
        have hk4 : k2 < 256 := by omega
        have hk5 : Hid (k2 = ((k / 2 : Nat) : Int)) := by show _ = _; omega
        have hk6 : Hid (k2 < kk) := by show _ < _; omega
        clear h6 hk0
        go_wp2
        go_round
        case rel => exact ⟨n + 1, k2, k / 2, rfl, by first | rfl | rw [hk2e], hk3, hk4, by omega, hn1, hk5, hst⟩
        case measure => have h5 := hk6.out; simp only [intOf]; omega

theorem bitLen_le (x : Nat) (h : x < 256) : Lib.bitLen x ≤ 8 := by
  revert x
  decide +kernel
theorem lenB_65536 {s : ByteArray} (h : s.size ≤ 8192) : lenB s ≤ 65536 := by
  unfold lenB
  split
  · next h0 =>
    have := bitLen_le s[0].toNat (UInt8.toNat_lt _)
    omega
  · omega

set_option maxRecDepth 100000 in
set_option maxHeartbeats 1000000 in
theorem rbig_int (z : Int) (v : Value) (w : World) (h : Rz w v z) (hl : (Nm.dg D9 z.natAbs).length ≤ 1000000) (hs : (zs z).size ≤ 8192) :
    Calls Tryz.prog 128 #[iV z v] w (BPost false w) := by
  have HB := Lib.hid (fun v w h => rbits_int z v w h hl (Nat.le_trans hs (by decide)))
  have hle := lenB_65536 hs
  generalize lenB (zs z) = n at *
  have H0 := Lib.hid h
  obtain ⟨p, b1, o1, c1, rfl, hr⟩ := h
  clear hr hl hs
  unfold iV at HB ⊢
  generalize decide (z < 0) = bz at *
  generalize (Nm.dg D9 z.natAbs).length = len at *
  obtain ⟨w0, hw0⟩ : ∃ w0 : World, w0 = w.alloc (.cells #[.bool bz, .slice p len c1] 38) := ⟨_, rfl⟩
  have hb0 : Hid (Below w.heap.size w w0) := by rw [hw0]; exact below_one _ _
  have R0 : Hid (Rz w0 (.slice p len c1) z) := Ri.below H0.out hb0.out (Nat.le_refl _)
  have Hw0 := Lib.hid hw0
  clear hw0 H0
  go_enter Tryz.func128, Tryz.ntmps128
  go_wp2_with fail
  rw [← Hw0.out]
  refine (HB.out _ _ R0.out).mono ?_
  rintro e wa ⟨rfl, ba⟩
  have HZ := Lib.hid (chain hb0.out ba)
  clear ba
  go_wp2
  go_ret
  exact ⟨by simp; omega, HZ.out⟩
end Go.Proofs.YtlmklhffafcmmaaGreat

/- The reference's Out where the result is a wide integer; the law's function is where it holds. -/
namespace Go.Proofs.YtlmklhffafcmmaaGreat
open Go.RowKit

set_option maxRecDepth 100000 in
set_option maxHeartbeats 2000000 in
theorem rout_int (z : Int) (v : Value) (w : World) (h : Rz w v z) (hl : (Nm.dg D9 z.natAbs).length ≤ 1000000) (hs : (zs z).size ≤ 8192) :
    Calls Tryz.prog 76 #[iV z v] w fun e w' => e = .returned (.tuple #[.agg #[.bool (zb z), .string (zs z)], .int .i64 0]) ∧ Below w.heap.size w w' := by
  have HB := Lib.hid (fun v w h => rbig_int z v w h hl hs)
  have HT : Hid (∀ v w, Rz w v z → Calls Tryz.prog 119 #[iV z v] w fun e w' => e = .returned (.agg #[.bool (zb z), .string (zs z)]) ∧ Below w.heap.size w w') := fun v w h => by
    have := rto_int z v w h hl
    unfold ToPost at this
    rwa [wz_eq] at this
  have H0 := Lib.hid h
  obtain ⟨p, b1, o1, c1, rfl, hr⟩ := h
  clear hr hl hs
  unfold iV at HB HT ⊢
  unfold BPost at HB
  generalize decide (z < 0) = bz at *
  generalize zb z = bb at *
  generalize zs z = s at *
  generalize (Nm.dg D9 z.natAbs).length = len at *
  obtain ⟨w0, hw0⟩ : ∃ w0 : World, w0 = (w.alloc (.cells #[.bool bz, .slice p len c1] 38)).alloc (.cells #[.bool false, .string ⟨#[]⟩] 23) := ⟨_, rfl⟩
  have hb0 : Hid (Below w.heap.size w w0) := by rw [hw0]; exact ((Below.refl _ _).alloc (Nat.le_refl _) _).alloc (by simp) _
  have R0 : Hid (Rz w0 (.slice p len c1) z) := Ri.below H0.out hb0.out (Nat.le_refl _)
  have I1 : Hid (ZC (.bool bz) (.slice p len c1) w0 w.heap.size) := by rw [hw0]; exact (ZC.new rfl).alloc _
  have I2 : Hid (ZC (.bool false) (.string ⟨#[]⟩) w0 (w.heap.size + 1)) := by rw [hw0]; exact ZC.new (by simp)
  have Hw0 := Lib.hid hw0
  clear hw0 H0
  go_enter Tryz.func76, Tryz.ntmps76
  go_wp2_with fail
  rw [← Hw0.out]
  refine (HB.out _ _ R0.out).mono ?_
  rintro e wa ⟨rfl, ba⟩
  have D := Lib.hid ba
  have R1 := Lib.hid (Ri.below R0.out ba (Nat.le_refl _))
  obtain ⟨k0, k1, _⟩ := I1.out.next ba
  clear ba
  go_wp2_with fail
  refine (HT.out _ _ R1.out).mono ?_
  rintro e wb ⟨rfl, bb2⟩
  have c := chain D.out bb2
  obtain ⟨m0, m1, m2, m3⟩ := I2.out.next c
  have HZ := Lib.hid (below_set2 (chain hb0.out c) (g := w.heap.size + 1) (by omega) (.bool bb) (.string s))
  clear bb2 c
  go_wp2
  exact bodyPost_ret (v := .tuple #[.agg #[.bool bb, .string s], .int .i64 0]) (by simp [results, Tryz.results76, go_sem, m0, m1]) rfl ⟨rfl, HZ.out⟩

set_option maxRecDepth 100000 in
set_option maxHeartbeats 2000000 in
theorem is_true (z : Int) (v : Value) (w : World) (h : Rz w v z) (hl : (Nm.dg D9 z.natAbs).length ≤ 1000000) (hs : (zs z).size ≤ 8192) :
    Calls Tryz.prog 21 #[.agg #[.bool (zb z), .string (zs z)], .int .i64 0, iV z v] w (BPost true w) := by
  have HO := Lib.hid (fun v w h => rout_int z v w h hl hs)
  have H0 := Lib.hid h
  obtain ⟨p, b1, o1, c1, rfl, hr⟩ := h
  clear hr hl hs
  unfold iV at HO ⊢
  generalize decide (z < 0) = bz at *
  generalize zb z = bb at *
  generalize zs z = s at *
  generalize (Nm.dg D9 z.natAbs).length = len at *
  obtain ⟨w0, hw0⟩ : ∃ w0 : World, w0 = (w.alloc (.cells #[.bool bb, .string s] 23)).alloc (.cells #[.bool bz, .slice p len c1] 38) := ⟨_, rfl⟩
  have hb0 : Hid (Below w.heap.size w w0) := by rw [hw0]; exact ((Below.refl _ _).alloc (Nat.le_refl _) _).alloc (by simp) _
  have R0 : Hid (Rz w0 (.slice p len c1) z) := Ri.below H0.out hb0.out (Nat.le_refl _)
  have I1 : Hid (ZC (.bool bb) (.string s) w0 w.heap.size) := by rw [hw0]; exact (ZC.new rfl).alloc _
  have Hw0 := Lib.hid hw0
  clear hw0 H0
  go_enter Tryz.func21, Tryz.ntmps21
  go_wp2_with fail
  rw [← Hw0.out]
  refine (HO.out _ _ R0.out).mono ?_
  rintro e wa ⟨rfl, ba⟩
  obtain ⟨k0, k1, _⟩ := I1.out.next ba
  have f1 : w.heap.size < wa.heap.size := World.block_lt_of_cell? wa _ k0
  have f2 : ¬ w.heap.size = wa.heap.size := by omega
  have f3 : ¬ wa.heap.size = w.heap.size := by omega
  have HZ := Lib.hid ((chain hb0.out ba).alloc (chain hb0.out ba).size (.cells #[.bool bb, .string s] 23))
  clear ba
  go_wp2
  go_ret
  exact ⟨rfl, HZ.out⟩
end Go.Proofs.YtlmklhffafcmmaaGreat

/- The reference's ratios: FromRatio, CompareQ, MulQ, AddQ, SubQ, OutRatio; the law's function same. -/
namespace Go.Proofs.YtlmklhffafcmmaaGreat
open Go.RowKit

theorem vld_rat {a b : Bool} {s t : ByteArray} : vldR a s b t = (vld a s && vld b t && !b && decide (0 < t.size)) := by
  unfold vldR sgV
  cases vld b t <;> cases b <;> by_cases h : 0 < t.size <;> simp [h]


set_option maxRecDepth 100000 in
set_option maxHeartbeats 4000000 in
theorem rfromRatio_any (a b : Bool) (s t : ByteArray) (w : World) (hs : s.size ≤ 100000) (ht : t.size ≤ 100000) :
    Calls Tryz.prog 26 #[rat a s b t] w (RQPost (sg a (bv s)) (sg b (bv t)) w) := by
  have H_f1 := Lib.hid (fun w => rfrom_any a s w hs)
  have H_f2 := Lib.hid (fun w => rfrom_any b t w ht)
  obtain ⟨x, hx⟩ : ∃ x, sg a (bv s) = x := ⟨_, rfl⟩
  obtain ⟨y, hy⟩ : ∃ y, sg b (bv t) = y := ⟨_, rfl⟩
  rw [hx] at H_f1 ⊢
  rw [hy] at H_f2 ⊢
  unfold IntPost iV at H_f1 H_f2
  unfold RQPost qV rat
  clear hx hy hs ht
  generalize decide (x < 0) = bx at *
  generalize decide (y < 0) = b_y at *
  obtain ⟨w0, hw0⟩ : ∃ w0 : World, w0 = (w.alloc (.cells #[.bool a, .string s, .bool b, .string t] 27)).alloc (.cells #[.bool false, .slice none 0 0, .bool false, .slice none 0 0] 40) := ⟨_, rfl⟩
  have hb0 : Hid (Below w.heap.size w w0) := by rw [hw0]; exact ((Below.refl _ _).alloc (Nat.le_refl _) _).alloc (by simp) _
  have I1 : Hid (ZC4 (.bool a) (.string s) (.bool b) (.string t) w0 w.heap.size) := by
    rw [hw0]; exact (ZC4.made0 w).next (below_one _ _)
  have I3 : Hid (ZC4 (.bool false) (.slice none 0 0) (.bool false) (.slice none 0 0) w0 (w.heap.size + 1)) := by
    rw [hw0]; have := ZC4.made0 (x := .bool false) (y := .slice none 0 0) (z := .bool false) (u := .slice none 0 0) (t := 40) (w.alloc (.cells #[.bool a, .string s, .bool b, .string t] 27)); show ZC4 _ _ _ _ _ _; simpa using this
  have Hw0 := Lib.hid hw0
  clear hw0
  go_enter Tryz.func26, Tryz.ntmps26
  go_upto_region 1 with (fail)
  rw [← Hw0.out]
  obtain ⟨⟨k0, k1, k2, k3⟩, _⟩ := I1.out
  go_region_held3 (fun W' => W'.cell? ⟨w.heap.size, 0, none⟩ = some (.bool a) ∧ W'.cell? ⟨w.heap.size, 1, none⟩ = some (.string s) ∧ W'.cell? ⟨w.heap.size, 2, none⟩ = some (.bool b) ∧ W'.cell? ⟨w.heap.size, 3, none⟩ = some (.string t)) (go_keep)
    (first
      | (go_at_call 18; (with_reducible refine (H_f1.out  _ ).mono ?_); rintro e w1 ⟨v1, rfl, r1, b1⟩; (try (have b1 := undrew b1)); have E : Hid (Below w0.heap.size w0 w1) := (by first | exact b1 | exact chain ((Below.refl _ _).drew) b1); have pk0 := keep1 E.out k0; have pk1 := keep1 E.out k1; have pk2 := keep1 E.out k2; have pk3 := keep1 E.out k3; have G1 := Lib.hid r1; obtain ⟨pp1, bb1, oo1, cc1, rfl, hr1⟩ := r1; clear hr1; have Q3 := I3.out.next E.out; have Q3h := Lib.hid Q3; obtain ⟨⟨n0, n1, n2, n3⟩, n4, n5, n6, n7⟩ := Q3; clear b1)
      | (go_at_call 18; (with_reducible refine (H_f2.out  _ ).mono ?_); rintro e w2 ⟨v2, rfl, r2, b2⟩; (try (have b2 := undrew b2)); have E := Lib.hid (chain E.out b2); have pk0 := keep1 E.out k0; have pk1 := keep1 E.out k1; have pk2 := keep1 E.out k2; have pk3 := keep1 E.out k3; have G1 := Lib.hid (Ri.below G1.out b2 (Nat.le_refl _)); have G2 := Lib.hid r2; obtain ⟨pp2, bb2, oo2, cc2, rfl, hr2⟩ := r2; clear hr2; have Q3 := I3.out.next E.out; have Q3h := Lib.hid Q3; obtain ⟨⟨n0, n1, n2, n3⟩, n4, n5, n6, n7⟩ := Q3; clear b2)
      | fail)
  have HZ := Lib.hid (below_set4 (chain hb0.out E.out) (g := w.heap.size + 1) (by omega) (.bool bx) (.slice pp1 (Nm.dg D9 x.natAbs).length cc1) (.bool b_y) (.slice pp2 (Nm.dg D9 y.natAbs).length cc2))
  have HR1 := Lib.hid (Ri.set4 G1.out Q3h.out (.bool bx) (.slice pp1 (Nm.dg D9 x.natAbs).length cc1) (.bool b_y) (.slice pp2 (Nm.dg D9 y.natAbs).length cc2))
  have HR2 := Lib.hid (Ri.set4 G2.out Q3h.out (.bool bx) (.slice pp1 (Nm.dg D9 x.natAbs).length cc1) (.bool b_y) (.slice pp2 (Nm.dg D9 y.natAbs).length cc2))
  go_wp2
  exact bodyPost_ret (v := .agg #[.bool bx, .slice pp1 (Nm.dg D9 x.natAbs).length cc1, .bool b_y, .slice pp2 (Nm.dg D9 y.natAbs).length cc2]) (by simp [results, Tryz.results26, go_sem, n0, n1, n2, n3]) rfl ⟨_, _, rfl, HR1.out, HR2.out, HZ.out⟩

theorem mul9 {x y : Int} {k : Nat} (h1 : x.natAbs < D9 ^ k) (h2 : y.natAbs < D9 ^ k) : (x * y).natAbs < D9 ^ (k + k) := by
  rw [Int.natAbs_mul, Nat.pow_add]
  exact Nat.mul_lt_mul'' h1 h2
theorem add9 {x y : Int} {k : Nat} (h1 : x.natAbs < D9 ^ k) (h2 : y.natAbs < D9 ^ k) : (x + y).natAbs < D9 ^ (k + 1) := by
  rw [Nat.pow_succ]
  have h3 : D9 ^ k * 2 ≤ D9 ^ k * D9 := Nat.mul_le_mul_left _ (by decide)
  omega
theorem sub9 {x y : Int} {k : Nat} (h1 : x.natAbs < D9 ^ k) (h2 : y.natAbs < D9 ^ k) : (x - y).natAbs < D9 ^ (k + 1) := by
  rw [Nat.pow_succ]
  have h3 : D9 ^ k * 2 ≤ D9 ^ k * D9 := Nat.mul_le_mul_left _ (by decide)
  omega
theorem up9 {x : Int} {j k : Nat} (h : x.natAbs < D9 ^ j) (hj : j ≤ k) : x.natAbs < D9 ^ k := Nat.lt_of_lt_of_le h (Nat.pow_le_pow_right (by decide) hj)

set_option maxRecDepth 100000 in
set_option maxHeartbeats 4000000 in
theorem rcompareQ_int (x1 y1 x2 y2 : Int) (v1 v2 v3 v4 : Value) (w : World) (k : Nat) (hk : k ≤ 20000) (hx1 : x1.natAbs < D9 ^ k) (hy1 : y1.natAbs < D9 ^ k) (hx2 : x2.natAbs < D9 ^ k) (hy2 : y2.natAbs < D9 ^ k) (h1 : Rz w v1 x1) (h2 : Rz w v2 y1) (h3 : Rz w v3 x2) (h4 : Rz w v4 y2) :
    Calls Tryz.prog 27 #[qV x1 y1 v1 v2, qV x2 y2 v3 v4] w (SignPost (x1 * y2 - x2 * y1).sign w) := by
  have m12 := mul9 hx1 hy2
  have m21 := mul9 hx2 hy1
  have H_m1 := Lib.hid (fun v1 v2 w g1 g2 => rmul_int x1 y2 v1 v2 w g1 g2 (Nat.le_trans (len9 hx1) (by omega)) (Nat.le_trans (len9 hy2) (by omega)))
  have H_m2 := Lib.hid (fun v1 v2 w g1 g2 => rmul_int x2 y1 v1 v2 w g1 g2 (Nat.le_trans (len9 hx2) (by omega)) (Nat.le_trans (len9 hy1) (by omega)))
  have H_c := Lib.hid (fun v1 v2 w g1 g2 => rcompare_int (x1 * y2) (x2 * y1) v1 v2 w g1 g2 (Nat.le_trans (len9 m12) (by omega)) (Nat.le_trans (len9 m21) (by omega)))
  generalize x1 * y2 = X1 at *
  generalize x2 * y1 = X2 at *
  have R1 : Hid (Rz w v1 x1) := h1
  have R2 : Hid (Rz w v2 y1) := h2
  have R3 : Hid (Rz w v3 x2) := h3
  have R4 : Hid (Rz w v4 y2) := h4
  obtain ⟨p1, b1, o1, c1, rfl, hr1⟩ := h1
  obtain ⟨p2, b2, o2, c2, rfl, hr2⟩ := h2
  obtain ⟨p3, b3, o3, c3, rfl, hr3⟩ := h3
  obtain ⟨p4, b4, o4, c4, rfl, hr4⟩ := h4
  clear hr1 hr2 hr3 hr4 m12 m21 hx1 hy1 hx2 hy2 hk
  unfold qV
  unfold IntPost iV at *
  unfold SignPost at *
  generalize decide (x1 < 0) = bx1 at *
  generalize decide (y1 < 0) = by1 at *
  generalize decide (x2 < 0) = bx2 at *
  generalize decide (y2 < 0) = by2 at *
  generalize (Nm.dg D9 x1.natAbs).length = l1 at *
  generalize (Nm.dg D9 y1.natAbs).length = l2 at *
  generalize (Nm.dg D9 x2.natAbs).length = l3 at *
  generalize (Nm.dg D9 y2.natAbs).length = l4 at *
  obtain ⟨w0, hw0⟩ : ∃ w0 : World, w0 = (w.alloc (.cells #[.bool bx1, .slice p1 l1 c1, .bool by1, .slice p2 l2 c2] 40)).alloc (.cells #[.bool bx2, .slice p3 l3 c3, .bool by2, .slice p4 l4 c4] 40) := ⟨_, rfl⟩
  have hb0 : Hid (Below w.heap.size w w0) := by rw [hw0]; exact ((Below.refl _ _).alloc (Nat.le_refl _) _).alloc (by simp) _
  have I1 : Hid (ZC4 (.bool bx1) (.slice p1 l1 c1) (.bool by1) (.slice p2 l2 c2) w0 w.heap.size) := by
    rw [hw0]; exact (ZC4.made0 w).next (below_one _ _)
  have I2 : Hid (ZC4 (.bool bx2) (.slice p3 l3 c3) (.bool by2) (.slice p4 l4 c4) w0 (w.heap.size + 1)) := by
    rw [hw0]
    have := ZC4.made0 (x := .bool bx2) (y := .slice p3 l3 c3) (z := .bool by2) (u := .slice p4 l4 c4) (t := 40) (w.alloc (.cells #[.bool bx1, .slice p1 l1 c1, .bool by1, .slice p2 l2 c2] 40))
    skip
    show ZC4 _ _ _ _ _ _
    simpa using this
  have R1 : Hid (Rz w0 (.slice p1 l1 c1) x1) := Ri.below R1.out hb0.out (Nat.le_refl _)
  have R2 : Hid (Rz w0 (.slice p2 l2 c2) y1) := Ri.below R2.out hb0.out (Nat.le_refl _)
  have R3 : Hid (Rz w0 (.slice p3 l3 c3) x2) := Ri.below R3.out hb0.out (Nat.le_refl _)
  have R4 : Hid (Rz w0 (.slice p4 l4 c4) y2) := Ri.below R4.out hb0.out (Nat.le_refl _)
  have Hw0 := Lib.hid hw0
  clear hw0
  go_enter Tryz.func27, Tryz.ntmps27
  go_upto_region 1 with (fail)
  rw [← Hw0.out]
  obtain ⟨⟨k0, k1, k2, k3⟩, _⟩ := I1.out
  obtain ⟨⟨k4, k5, k6, k7⟩, _⟩ := I2.out
  have e1 : ¬ w.heap.size = w.heap.size + 1 + 1 := by omega
  have e2 : ¬ w.heap.size + 1 + 1 = w.heap.size := by omega
  have e3 : ¬ w.heap.size + 1 = w.heap.size + 1 + 1 := by omega
  have e4 : ¬ w.heap.size + 1 + 1 = w.heap.size + 1 := by omega
  go_region_held3 (fun W' => W'.cell? ⟨w.heap.size, 0, none⟩ = some (.bool bx1) ∧ W'.cell? ⟨w.heap.size, 1, none⟩ = some (.slice p1 l1 c1) ∧ W'.cell? ⟨w.heap.size, 2, none⟩ = some (.bool by1) ∧ W'.cell? ⟨w.heap.size, 3, none⟩ = some (.slice p2 l2 c2) ∧ W'.cell? ⟨w.heap.size + 1, 0, none⟩ = some (.bool bx2) ∧ W'.cell? ⟨w.heap.size + 1, 1, none⟩ = some (.slice p3 l3 c3) ∧ W'.cell? ⟨w.heap.size + 1, 2, none⟩ = some (.bool by2) ∧ W'.cell? ⟨w.heap.size + 1, 3, none⟩ = some (.slice p4 l4 c4)) (go_keep)
    (first
      | (go_at_call 74; (with_reducible refine (H_m1.out _ _ _ (by first | exact R1.out | exact Ri.drew R1.out | exact Ri.below R1.out E.out (Nat.le_refl _)) (by first | exact R4.out | exact Ri.drew R4.out | exact Ri.below R4.out E.out (Nat.le_refl _))).mono ?_); rintro e w1 ⟨v1, rfl, r1, b1⟩; (try (have b1 := undrew b1)); have E : Hid (Below w0.heap.size w0 w1) := (by first | exact b1 | exact chain ((Below.refl _ _).drew) b1); have pk0 := keep1 E.out k0; have pk1 := keep1 E.out k1; have pk2 := keep1 E.out k2; have pk3 := keep1 E.out k3; have pk4 := keep1 E.out k4; have pk5 := keep1 E.out k5; have pk6 := keep1 E.out k6; have pk7 := keep1 E.out k7; have G1 := Lib.hid r1; obtain ⟨pp1, bb1, oo1, cc1, rfl, hr1⟩ := r1; clear hr1; clear b1)
      | (go_at_call 74; (with_reducible refine (H_m2.out _ _ _ (by first | exact R3.out | exact Ri.drew R3.out | exact Ri.below R3.out E.out (Nat.le_refl _)) (by first | exact R2.out | exact Ri.drew R2.out | exact Ri.below R2.out E.out (Nat.le_refl _))).mono ?_); rintro e w2 ⟨v2, rfl, r2, b2⟩; (try (have b2 := undrew b2)); have E := Lib.hid (chain E.out b2); have pk0 := keep1 E.out k0; have pk1 := keep1 E.out k1; have pk2 := keep1 E.out k2; have pk3 := keep1 E.out k3; have pk4 := keep1 E.out k4; have pk5 := keep1 E.out k5; have pk6 := keep1 E.out k6; have pk7 := keep1 E.out k7; have G1 := Lib.hid (Ri.below G1.out b2 (Nat.le_refl _)); have G2 := Lib.hid r2; obtain ⟨pp2, bb2, oo2, cc2, rfl, hr2⟩ := r2; clear hr2; clear b2)
      | (go_at_call 87; (with_reducible refine (H_c.out _ _ _ (by first | exact G1.out | exact Ri.drew G1.out | exact Ri.below G1.out E.out (Nat.le_refl _)) (by first | exact G2.out | exact Ri.drew G2.out | exact Ri.below G2.out E.out (Nat.le_refl _))).mono ?_); rintro e w3 ⟨rfl, b3⟩; (try (have b3 := undrew b3)); have E := Lib.hid (chain E.out b3); have pk0 := keep1 E.out k0; have pk1 := keep1 E.out k1; have pk2 := keep1 E.out k2; have pk3 := keep1 E.out k3; have pk4 := keep1 E.out k4; have pk5 := keep1 E.out k5; have pk6 := keep1 E.out k6; have pk7 := keep1 E.out k7; have G1 := Lib.hid (Ri.below G1.out b3 (Nat.le_refl _)); have G2 := Lib.hid (Ri.below G2.out b3 (Nat.le_refl _)); clear b3)
      | fail)
  have HZ := Lib.hid (chain hb0.out E.out)
  go_wp2
  go_ret
  exact ⟨rfl, HZ.out⟩

set_option maxRecDepth 100000 in
set_option maxHeartbeats 4000000 in
theorem rmulQ_int (x1 y1 x2 y2 : Int) (v1 v2 v3 v4 : Value) (w : World) (k : Nat) (hk : k ≤ 20000) (hx1 : x1.natAbs < D9 ^ k) (hy1 : y1.natAbs < D9 ^ k) (hx2 : x2.natAbs < D9 ^ k) (hy2 : y2.natAbs < D9 ^ k) (hp1 : 0 < y1) (hp2 : 0 < y2) (h1 : Rz w v1 x1) (h2 : Rz w v2 y1) (h3 : Rz w v3 x2) (h4 : Rz w v4 y2) :
    Calls Tryz.prog 30 #[qV x1 y1 v1 v2, qV x2 y2 v3 v4] w (RQPost (x1 * x2 / lg (x1 * x2) (y1 * y2)) (y1 * y2 / lg (x1 * x2) (y1 * y2)) w) := by
  have m12 := mul9 hx1 hy2
  have m21 := mul9 hx2 hy1
  have n12 := mul9 hx1 hx2
  have d12 := mul9 hy1 hy2
  have H_m1 := Lib.hid (fun v1 v2 w g1 g2 => rmul_int x1 x2 v1 v2 w g1 g2 (Nat.le_trans (len9 hx1) (by omega)) (Nat.le_trans (len9 hx2) (by omega)))
  have H_m2 := Lib.hid (fun v1 v2 w g1 g2 => rmul_int y1 y2 v1 v2 w g1 g2 (Nat.le_trans (len9 hy1) (by omega)) (Nat.le_trans (len9 hy2) (by omega)))
  have hD0 : y1 * y2 ≠ 0 := by
    have := Int.mul_pos hp1 hp2
    omega
  have H_l := Lib.hid (fun v1 v2 w g1 g2 => rlowest_int (x1 * x2) (y1 * y2) v1 v2 w (k + k + 1) (by omega) (up9 n12 (by omega)) (up9 d12 (by omega)) hD0 g1 g2)
  obtain ⟨z1, hz1⟩ : ∃ z, (x1 * x2) / lg (x1 * x2) (y1 * y2) = z := ⟨_, rfl⟩
  obtain ⟨z2, hz2⟩ : ∃ z, (y1 * y2) / lg (x1 * x2) (y1 * y2) = z := ⟨_, rfl⟩
  rw [hz1, hz2] at H_l ⊢
  clear hz1 hz2 hD0 hp1 hp2
  obtain ⟨bz1, hbz1⟩ : ∃ b, decide (z1 < 0) = b := ⟨_, rfl⟩
  obtain ⟨bz2, hbz2⟩ : ∃ b, decide (z2 < 0) = b := ⟨_, rfl⟩
  unfold RQPost qV at H_l ⊢
  rw [hbz1, hbz2] at H_l ⊢
  clear hbz1 hbz2
  clear n12 d12
  generalize x1 * x2 = X1 at *
  generalize y1 * y2 = X2 at *
  have R1 : Hid (Rz w v1 x1) := h1
  have R2 : Hid (Rz w v2 y1) := h2
  have R3 : Hid (Rz w v3 x2) := h3
  have R4 : Hid (Rz w v4 y2) := h4
  obtain ⟨p1, b1, o1, c1, rfl, hr1⟩ := h1
  obtain ⟨p2, b2, o2, c2, rfl, hr2⟩ := h2
  obtain ⟨p3, b3, o3, c3, rfl, hr3⟩ := h3
  obtain ⟨p4, b4, o4, c4, rfl, hr4⟩ := h4
  clear hr1 hr2 hr3 hr4 m12 m21 hx1 hy1 hx2 hy2 hk
  skip
  unfold IntPost iV at *
  skip
  generalize decide (x1 < 0) = bx1 at *
  generalize decide (y1 < 0) = by1 at *
  generalize decide (x2 < 0) = bx2 at *
  generalize decide (y2 < 0) = by2 at *
  generalize (Nm.dg D9 x1.natAbs).length = l1 at *
  generalize (Nm.dg D9 y1.natAbs).length = l2 at *
  generalize (Nm.dg D9 x2.natAbs).length = l3 at *
  generalize (Nm.dg D9 y2.natAbs).length = l4 at *
  obtain ⟨w0, hw0⟩ : ∃ w0 : World, w0 = ((w.alloc (.cells #[.bool bx1, .slice p1 l1 c1, .bool by1, .slice p2 l2 c2] 40)).alloc (.cells #[.bool bx2, .slice p3 l3 c3, .bool by2, .slice p4 l4 c4] 40)).alloc (.cells #[.bool false, .slice none 0 0, .bool false, .slice none 0 0] 40) := ⟨_, rfl⟩
  have hb0 : Hid (Below w.heap.size w w0) := by rw [hw0]; exact (((Below.refl _ _).alloc (Nat.le_refl _) _).alloc (by simp) _).alloc (by simp; omega) _
  have I1 : Hid (ZC4 (.bool bx1) (.slice p1 l1 c1) (.bool by1) (.slice p2 l2 c2) w0 w.heap.size) := by
    rw [hw0]; exact (ZC4.made0 w).next (below_two _ _ _)
  have I2 : Hid (ZC4 (.bool bx2) (.slice p3 l3 c3) (.bool by2) (.slice p4 l4 c4) w0 (w.heap.size + 1)) := by
    rw [hw0]
    have := ZC4.made0 (x := .bool bx2) (y := .slice p3 l3 c3) (z := .bool by2) (u := .slice p4 l4 c4) (t := 40) (w.alloc (.cells #[.bool bx1, .slice p1 l1 c1, .bool by1, .slice p2 l2 c2] 40))
    have := this.next (below_one _ (.cells #[.bool false, .slice none 0 0, .bool false, .slice none 0 0] 40))
    show ZC4 _ _ _ _ _ _
    simpa using this
  have I3 : Hid (ZC4 (.bool false) (.slice none 0 0) (.bool false) (.slice none 0 0) w0 (w.heap.size + 1 + 1)) := by
    rw [hw0]; have := ZC4.made0 (x := .bool false) (y := .slice none 0 0) (z := .bool false) (u := .slice none 0 0) (t := 40) ((w.alloc (.cells #[.bool bx1, .slice p1 l1 c1, .bool by1, .slice p2 l2 c2] 40)).alloc (.cells #[.bool bx2, .slice p3 l3 c3, .bool by2, .slice p4 l4 c4] 40)); show ZC4 _ _ _ _ _ _; simpa using this
  have R1 : Hid (Rz w0 (.slice p1 l1 c1) x1) := Ri.below R1.out hb0.out (Nat.le_refl _)
  have R2 : Hid (Rz w0 (.slice p2 l2 c2) y1) := Ri.below R2.out hb0.out (Nat.le_refl _)
  have R3 : Hid (Rz w0 (.slice p3 l3 c3) x2) := Ri.below R3.out hb0.out (Nat.le_refl _)
  have R4 : Hid (Rz w0 (.slice p4 l4 c4) y2) := Ri.below R4.out hb0.out (Nat.le_refl _)
  have Hw0 := Lib.hid hw0
  clear hw0
  go_enter Tryz.func30, Tryz.ntmps30
  go_upto_region 1 with (fail)
  rw [← Hw0.out]
  obtain ⟨⟨k0, k1, k2, k3⟩, _⟩ := I1.out
  obtain ⟨⟨k4, k5, k6, k7⟩, _⟩ := I2.out
  have e1 : ¬ w.heap.size = w.heap.size + 1 + 1 := by omega
  have e2 : ¬ w.heap.size + 1 + 1 = w.heap.size := by omega
  have e3 : ¬ w.heap.size + 1 = w.heap.size + 1 + 1 := by omega
  have e4 : ¬ w.heap.size + 1 + 1 = w.heap.size + 1 := by omega
  go_region_held3 (fun W' => W'.cell? ⟨w.heap.size, 0, none⟩ = some (.bool bx1) ∧ W'.cell? ⟨w.heap.size, 1, none⟩ = some (.slice p1 l1 c1) ∧ W'.cell? ⟨w.heap.size, 2, none⟩ = some (.bool by1) ∧ W'.cell? ⟨w.heap.size, 3, none⟩ = some (.slice p2 l2 c2) ∧ W'.cell? ⟨w.heap.size + 1, 0, none⟩ = some (.bool bx2) ∧ W'.cell? ⟨w.heap.size + 1, 1, none⟩ = some (.slice p3 l3 c3) ∧ W'.cell? ⟨w.heap.size + 1, 2, none⟩ = some (.bool by2) ∧ W'.cell? ⟨w.heap.size + 1, 3, none⟩ = some (.slice p4 l4 c4)) (go_keep)
    (first
      | (go_at_call 74; (with_reducible refine (H_m1.out _ _ _ (by first | exact R1.out | exact Ri.drew R1.out | exact Ri.below R1.out E.out (Nat.le_refl _)) (by first | exact R3.out | exact Ri.drew R3.out | exact Ri.below R3.out E.out (Nat.le_refl _))).mono ?_); rintro e w1 ⟨v1, rfl, r1, b1⟩; (try (have b1 := undrew b1)); have E : Hid (Below w0.heap.size w0 w1) := (by first | exact b1 | exact chain ((Below.refl _ _).drew) b1); have pk0 := keep1 E.out k0; have pk1 := keep1 E.out k1; have pk2 := keep1 E.out k2; have pk3 := keep1 E.out k3; have pk4 := keep1 E.out k4; have pk5 := keep1 E.out k5; have pk6 := keep1 E.out k6; have pk7 := keep1 E.out k7; have G1 := Lib.hid r1; obtain ⟨pp1, bb1, oo1, cc1, rfl, hr1⟩ := r1; clear hr1; have Q3 := I3.out.next E.out; have Q3h := Lib.hid Q3; obtain ⟨⟨n0, n1, n2, n3⟩, n4, n5, n6, n7⟩ := Q3; clear b1)
      | (go_at_call 74; (with_reducible refine (H_m2.out _ _ _ (by first | exact R2.out | exact Ri.drew R2.out | exact Ri.below R2.out E.out (Nat.le_refl _)) (by first | exact R4.out | exact Ri.drew R4.out | exact Ri.below R4.out E.out (Nat.le_refl _))).mono ?_); rintro e w2 ⟨v2, rfl, r2, b2⟩; (try (have b2 := undrew b2)); have E := Lib.hid (chain E.out b2); have pk0 := keep1 E.out k0; have pk1 := keep1 E.out k1; have pk2 := keep1 E.out k2; have pk3 := keep1 E.out k3; have pk4 := keep1 E.out k4; have pk5 := keep1 E.out k5; have pk6 := keep1 E.out k6; have pk7 := keep1 E.out k7; have G1 := Lib.hid (Ri.below G1.out b2 (Nat.le_refl _)); have G2 := Lib.hid r2; obtain ⟨pp2, bb2, oo2, cc2, rfl, hr2⟩ := r2; clear hr2; have Q3 := I3.out.next E.out; have Q3h := Lib.hid Q3; obtain ⟨⟨n0, n1, n2, n3⟩, n4, n5, n6, n7⟩ := Q3; clear b2)
      | (go_at_call 15; (with_reducible refine (H_l.out _ _ _ (by first | exact G1.out | exact Ri.drew G1.out | exact Ri.below G1.out E.out (Nat.le_refl _)) (by first | exact G2.out | exact Ri.drew G2.out | exact Ri.below G2.out E.out (Nat.le_refl _))).mono ?_); rintro e w3 ⟨v3, x3, rfl, r3, s3, b3⟩; (try (have b3 := undrew b3)); have E := Lib.hid (chain E.out b3); have pk0 := keep1 E.out k0; have pk1 := keep1 E.out k1; have pk2 := keep1 E.out k2; have pk3 := keep1 E.out k3; have pk4 := keep1 E.out k4; have pk5 := keep1 E.out k5; have pk6 := keep1 E.out k6; have pk7 := keep1 E.out k7; have G1 := Lib.hid (Ri.below G1.out b3 (Nat.le_refl _)); have G2 := Lib.hid (Ri.below G2.out b3 (Nat.le_refl _)); have G3 := Lib.hid r3; have J3 := Lib.hid s3; obtain ⟨pp3, bb3, oo3, cc3, rfl, hr3⟩ := r3; obtain ⟨pq3, bq3, oq3, cq3, rfl, hs3⟩ := s3; clear hr3 hs3; have Q3 := I3.out.next E.out; have Q3h := Lib.hid Q3; obtain ⟨⟨n0, n1, n2, n3⟩, n4, n5, n6, n7⟩ := Q3; clear b3)
      | fail)
  have HZ := Lib.hid (below_set4 (chain hb0.out E.out) (g := w.heap.size + 1 + 1) (by omega) (.bool bz1) (.slice pp3 (Nm.dg D9 z1.natAbs).length cc3) (.bool bz2) (.slice pq3 (Nm.dg D9 z2.natAbs).length cq3))
  have HR1 := Lib.hid (Ri.set4 G3.out Q3h.out (.bool bz1) (.slice pp3 (Nm.dg D9 z1.natAbs).length cc3) (.bool bz2) (.slice pq3 (Nm.dg D9 z2.natAbs).length cq3))
  have HR2 := Lib.hid (Ri.set4 J3.out Q3h.out (.bool bz1) (.slice pp3 (Nm.dg D9 z1.natAbs).length cc3) (.bool bz2) (.slice pq3 (Nm.dg D9 z2.natAbs).length cq3))
  go_wp2
  exact bodyPost_ret (v := .agg #[.bool bz1, .slice pp3 (Nm.dg D9 z1.natAbs).length cc3, .bool bz2, .slice pq3 (Nm.dg D9 z2.natAbs).length cq3]) (by simp [results, Tryz.results30, go_sem, n0, n1, n2, n3]) rfl ⟨_, _, rfl, HR1.out, HR2.out, HZ.out⟩

set_option maxRecDepth 100000 in
set_option maxHeartbeats 4000000 in
theorem raddQ_int (x1 y1 x2 y2 : Int) (v1 v2 v3 v4 : Value) (w : World) (k : Nat) (hk : k ≤ 20000) (hx1 : x1.natAbs < D9 ^ k) (hy1 : y1.natAbs < D9 ^ k) (hx2 : x2.natAbs < D9 ^ k) (hy2 : y2.natAbs < D9 ^ k) (hp1 : 0 < y1) (hp2 : 0 < y2) (h1 : Rz w v1 x1) (h2 : Rz w v2 y1) (h3 : Rz w v3 x2) (h4 : Rz w v4 y2) :
    Calls Tryz.prog 28 #[qV x1 y1 v1 v2, qV x2 y2 v3 v4] w (RQPost ((x1 * y2 + x2 * y1) / lg (x1 * y2 + x2 * y1) (y1 * y2)) (y1 * y2 / lg (x1 * y2 + x2 * y1) (y1 * y2)) w) := by
  have m12 := mul9 hx1 hy2
  have m21 := mul9 hx2 hy1
  have H_m1 := Lib.hid (fun v1 v2 w g1 g2 => rmul_int x1 y2 v1 v2 w g1 g2 (Nat.le_trans (len9 hx1) (by omega)) (Nat.le_trans (len9 hy2) (by omega)))
  have H_m2 := Lib.hid (fun v1 v2 w g1 g2 => rmul_int x2 y1 v1 v2 w g1 g2 (Nat.le_trans (len9 hx2) (by omega)) (Nat.le_trans (len9 hy1) (by omega)))
  have d12 := mul9 hy1 hy2
  have n12 := add9 m12 m21
  have H_a := Lib.hid (fun v1 v2 w g1 g2 => radd_int (x1 * y2) (x2 * y1) v1 v2 w g1 g2 (Nat.le_trans (len9 m12) (by omega)) (Nat.le_trans (len9 m21) (by omega)))
  have H_m3 := Lib.hid (fun v1 v2 w g1 g2 => rmul_int y1 y2 v1 v2 w g1 g2 (Nat.le_trans (len9 hy1) (by omega)) (Nat.le_trans (len9 hy2) (by omega)))
  have hD0 : y1 * y2 ≠ 0 := by
    have := Int.mul_pos hp1 hp2
    omega
  have H_l := Lib.hid (fun v1 v2 w g1 g2 => rlowest_int (x1 * y2 + x2 * y1) (y1 * y2) v1 v2 w (k + k + 1) (by omega) n12 (up9 d12 (by omega)) hD0 g1 g2)
  obtain ⟨z1, hz1⟩ : ∃ z, (x1 * y2 + x2 * y1) / lg (x1 * y2 + x2 * y1) (y1 * y2) = z := ⟨_, rfl⟩
  obtain ⟨z2, hz2⟩ : ∃ z, (y1 * y2) / lg (x1 * y2 + x2 * y1) (y1 * y2) = z := ⟨_, rfl⟩
  rw [hz1, hz2] at H_l ⊢
  clear hz1 hz2 hD0 hp1 hp2
  obtain ⟨bz1, hbz1⟩ : ∃ b, decide (z1 < 0) = b := ⟨_, rfl⟩
  obtain ⟨bz2, hbz2⟩ : ∃ b, decide (z2 < 0) = b := ⟨_, rfl⟩
  unfold RQPost qV at H_l ⊢
  rw [hbz1, hbz2] at H_l ⊢
  clear hbz1 hbz2
  clear n12 d12
  generalize x1 * y2 + x2 * y1 = X3 at *
  generalize x1 * y2 = X1 at *
  generalize x2 * y1 = X2 at *
  generalize y1 * y2 = X4 at *
  have R1 : Hid (Rz w v1 x1) := h1
  have R2 : Hid (Rz w v2 y1) := h2
  have R3 : Hid (Rz w v3 x2) := h3
  have R4 : Hid (Rz w v4 y2) := h4
  obtain ⟨p1, b1, o1, c1, rfl, hr1⟩ := h1
  obtain ⟨p2, b2, o2, c2, rfl, hr2⟩ := h2
  obtain ⟨p3, b3, o3, c3, rfl, hr3⟩ := h3
  obtain ⟨p4, b4, o4, c4, rfl, hr4⟩ := h4
  clear hr1 hr2 hr3 hr4 m12 m21 hx1 hy1 hx2 hy2 hk
  skip
  unfold IntPost iV at *
  skip
  generalize decide (x1 < 0) = bx1 at *
  generalize decide (y1 < 0) = by1 at *
  generalize decide (x2 < 0) = bx2 at *
  generalize decide (y2 < 0) = by2 at *
  generalize (Nm.dg D9 x1.natAbs).length = l1 at *
  generalize (Nm.dg D9 y1.natAbs).length = l2 at *
  generalize (Nm.dg D9 x2.natAbs).length = l3 at *
  generalize (Nm.dg D9 y2.natAbs).length = l4 at *
  obtain ⟨w0, hw0⟩ : ∃ w0 : World, w0 = ((w.alloc (.cells #[.bool bx1, .slice p1 l1 c1, .bool by1, .slice p2 l2 c2] 40)).alloc (.cells #[.bool bx2, .slice p3 l3 c3, .bool by2, .slice p4 l4 c4] 40)).alloc (.cells #[.bool false, .slice none 0 0, .bool false, .slice none 0 0] 40) := ⟨_, rfl⟩
  have hb0 : Hid (Below w.heap.size w w0) := by rw [hw0]; exact (((Below.refl _ _).alloc (Nat.le_refl _) _).alloc (by simp) _).alloc (by simp; omega) _
  have I1 : Hid (ZC4 (.bool bx1) (.slice p1 l1 c1) (.bool by1) (.slice p2 l2 c2) w0 w.heap.size) := by
    rw [hw0]; exact (ZC4.made0 w).next (below_two _ _ _)
  have I2 : Hid (ZC4 (.bool bx2) (.slice p3 l3 c3) (.bool by2) (.slice p4 l4 c4) w0 (w.heap.size + 1)) := by
    rw [hw0]
    have := ZC4.made0 (x := .bool bx2) (y := .slice p3 l3 c3) (z := .bool by2) (u := .slice p4 l4 c4) (t := 40) (w.alloc (.cells #[.bool bx1, .slice p1 l1 c1, .bool by1, .slice p2 l2 c2] 40))
    have := this.next (below_one _ (.cells #[.bool false, .slice none 0 0, .bool false, .slice none 0 0] 40))
    show ZC4 _ _ _ _ _ _
    simpa using this
  have I3 : Hid (ZC4 (.bool false) (.slice none 0 0) (.bool false) (.slice none 0 0) w0 (w.heap.size + 1 + 1)) := by
    rw [hw0]; have := ZC4.made0 (x := .bool false) (y := .slice none 0 0) (z := .bool false) (u := .slice none 0 0) (t := 40) ((w.alloc (.cells #[.bool bx1, .slice p1 l1 c1, .bool by1, .slice p2 l2 c2] 40)).alloc (.cells #[.bool bx2, .slice p3 l3 c3, .bool by2, .slice p4 l4 c4] 40)); show ZC4 _ _ _ _ _ _; simpa using this
  have R1 : Hid (Rz w0 (.slice p1 l1 c1) x1) := Ri.below R1.out hb0.out (Nat.le_refl _)
  have R2 : Hid (Rz w0 (.slice p2 l2 c2) y1) := Ri.below R2.out hb0.out (Nat.le_refl _)
  have R3 : Hid (Rz w0 (.slice p3 l3 c3) x2) := Ri.below R3.out hb0.out (Nat.le_refl _)
  have R4 : Hid (Rz w0 (.slice p4 l4 c4) y2) := Ri.below R4.out hb0.out (Nat.le_refl _)
  have Hw0 := Lib.hid hw0
  clear hw0
  go_enter Tryz.func28, Tryz.ntmps28
  go_upto_region 1 with (fail)
  rw [← Hw0.out]
  obtain ⟨⟨k0, k1, k2, k3⟩, _⟩ := I1.out
  obtain ⟨⟨k4, k5, k6, k7⟩, _⟩ := I2.out
  have e1 : ¬ w.heap.size = w.heap.size + 1 + 1 := by omega
  have e2 : ¬ w.heap.size + 1 + 1 = w.heap.size := by omega
  have e3 : ¬ w.heap.size + 1 = w.heap.size + 1 + 1 := by omega
  have e4 : ¬ w.heap.size + 1 + 1 = w.heap.size + 1 := by omega
  go_region_held3 (fun W' => W'.cell? ⟨w.heap.size, 0, none⟩ = some (.bool bx1) ∧ W'.cell? ⟨w.heap.size, 1, none⟩ = some (.slice p1 l1 c1) ∧ W'.cell? ⟨w.heap.size, 2, none⟩ = some (.bool by1) ∧ W'.cell? ⟨w.heap.size, 3, none⟩ = some (.slice p2 l2 c2) ∧ W'.cell? ⟨w.heap.size + 1, 0, none⟩ = some (.bool bx2) ∧ W'.cell? ⟨w.heap.size + 1, 1, none⟩ = some (.slice p3 l3 c3) ∧ W'.cell? ⟨w.heap.size + 1, 2, none⟩ = some (.bool by2) ∧ W'.cell? ⟨w.heap.size + 1, 3, none⟩ = some (.slice p4 l4 c4)) (go_keep)
    (first
      | (go_at_call 74; (with_reducible refine (H_m1.out _ _ _ (by first | exact R1.out | exact Ri.drew R1.out | exact Ri.below R1.out E.out (Nat.le_refl _)) (by first | exact R4.out | exact Ri.drew R4.out | exact Ri.below R4.out E.out (Nat.le_refl _))).mono ?_); rintro e w1 ⟨v1, rfl, r1, b1⟩; (try (have b1 := undrew b1)); have E : Hid (Below w0.heap.size w0 w1) := (by first | exact b1 | exact chain ((Below.refl _ _).drew) b1); have pk0 := keep1 E.out k0; have pk1 := keep1 E.out k1; have pk2 := keep1 E.out k2; have pk3 := keep1 E.out k3; have pk4 := keep1 E.out k4; have pk5 := keep1 E.out k5; have pk6 := keep1 E.out k6; have pk7 := keep1 E.out k7; have G1 := Lib.hid r1; obtain ⟨pp1, bb1, oo1, cc1, rfl, hr1⟩ := r1; clear hr1; have Q3 := I3.out.next E.out; have Q3h := Lib.hid Q3; obtain ⟨⟨n0, n1, n2, n3⟩, n4, n5, n6, n7⟩ := Q3; clear b1)
      | (go_at_call 74; (with_reducible refine (H_m2.out _ _ _ (by first | exact R3.out | exact Ri.drew R3.out | exact Ri.below R3.out E.out (Nat.le_refl _)) (by first | exact R2.out | exact Ri.drew R2.out | exact Ri.below R2.out E.out (Nat.le_refl _))).mono ?_); rintro e w2 ⟨v2, rfl, r2, b2⟩; (try (have b2 := undrew b2)); have E := Lib.hid (chain E.out b2); have pk0 := keep1 E.out k0; have pk1 := keep1 E.out k1; have pk2 := keep1 E.out k2; have pk3 := keep1 E.out k3; have pk4 := keep1 E.out k4; have pk5 := keep1 E.out k5; have pk6 := keep1 E.out k6; have pk7 := keep1 E.out k7; have G1 := Lib.hid (Ri.below G1.out b2 (Nat.le_refl _)); have G2 := Lib.hid r2; obtain ⟨pp2, bb2, oo2, cc2, rfl, hr2⟩ := r2; clear hr2; have Q3 := I3.out.next E.out; have Q3h := Lib.hid Q3; obtain ⟨⟨n0, n1, n2, n3⟩, n4, n5, n6, n7⟩ := Q3; clear b2)
      | (go_at_call 75; (with_reducible refine (H_a.out _ _ _ (by first | exact G1.out | exact Ri.drew G1.out | exact Ri.below G1.out E.out (Nat.le_refl _)) (by first | exact G2.out | exact Ri.drew G2.out | exact Ri.below G2.out E.out (Nat.le_refl _))).mono ?_); rintro e w3 ⟨v3, rfl, r3, b3⟩; (try (have b3 := undrew b3)); have E := Lib.hid (chain E.out b3); have pk0 := keep1 E.out k0; have pk1 := keep1 E.out k1; have pk2 := keep1 E.out k2; have pk3 := keep1 E.out k3; have pk4 := keep1 E.out k4; have pk5 := keep1 E.out k5; have pk6 := keep1 E.out k6; have pk7 := keep1 E.out k7; have G1 := Lib.hid (Ri.below G1.out b3 (Nat.le_refl _)); have G2 := Lib.hid (Ri.below G2.out b3 (Nat.le_refl _)); have G3 := Lib.hid r3; obtain ⟨pp3, bb3, oo3, cc3, rfl, hr3⟩ := r3; clear hr3; have Q3 := I3.out.next E.out; have Q3h := Lib.hid Q3; obtain ⟨⟨n0, n1, n2, n3⟩, n4, n5, n6, n7⟩ := Q3; clear b3)
      | (go_at_call 74; (with_reducible refine (H_m3.out _ _ _ (by first | exact R2.out | exact Ri.drew R2.out | exact Ri.below R2.out E.out (Nat.le_refl _)) (by first | exact R4.out | exact Ri.drew R4.out | exact Ri.below R4.out E.out (Nat.le_refl _))).mono ?_); rintro e w4 ⟨v4, rfl, r4, b4⟩; (try (have b4 := undrew b4)); have E := Lib.hid (chain E.out b4); have pk0 := keep1 E.out k0; have pk1 := keep1 E.out k1; have pk2 := keep1 E.out k2; have pk3 := keep1 E.out k3; have pk4 := keep1 E.out k4; have pk5 := keep1 E.out k5; have pk6 := keep1 E.out k6; have pk7 := keep1 E.out k7; have G1 := Lib.hid (Ri.below G1.out b4 (Nat.le_refl _)); have G2 := Lib.hid (Ri.below G2.out b4 (Nat.le_refl _)); have G3 := Lib.hid (Ri.below G3.out b4 (Nat.le_refl _)); have G4 := Lib.hid r4; obtain ⟨pp4, bb4, oo4, cc4, rfl, hr4⟩ := r4; clear hr4; have Q3 := I3.out.next E.out; have Q3h := Lib.hid Q3; obtain ⟨⟨n0, n1, n2, n3⟩, n4, n5, n6, n7⟩ := Q3; clear b4)
      | (go_at_call 15; (with_reducible refine (H_l.out _ _ _ (by first | exact G3.out | exact Ri.drew G3.out | exact Ri.below G3.out E.out (Nat.le_refl _)) (by first | exact G4.out | exact Ri.drew G4.out | exact Ri.below G4.out E.out (Nat.le_refl _))).mono ?_); rintro e w5 ⟨v5, x5, rfl, r5, s5, b5⟩; (try (have b5 := undrew b5)); have E := Lib.hid (chain E.out b5); have pk0 := keep1 E.out k0; have pk1 := keep1 E.out k1; have pk2 := keep1 E.out k2; have pk3 := keep1 E.out k3; have pk4 := keep1 E.out k4; have pk5 := keep1 E.out k5; have pk6 := keep1 E.out k6; have pk7 := keep1 E.out k7; have G1 := Lib.hid (Ri.below G1.out b5 (Nat.le_refl _)); have G2 := Lib.hid (Ri.below G2.out b5 (Nat.le_refl _)); have G3 := Lib.hid (Ri.below G3.out b5 (Nat.le_refl _)); have G4 := Lib.hid (Ri.below G4.out b5 (Nat.le_refl _)); have G5 := Lib.hid r5; have J5 := Lib.hid s5; obtain ⟨pp5, bb5, oo5, cc5, rfl, hr5⟩ := r5; obtain ⟨pq5, bq5, oq5, cq5, rfl, hs5⟩ := s5; clear hr5 hs5; have Q3 := I3.out.next E.out; have Q3h := Lib.hid Q3; obtain ⟨⟨n0, n1, n2, n3⟩, n4, n5, n6, n7⟩ := Q3; clear b5)
      | fail)
  have HZ := Lib.hid (below_set4 (chain hb0.out E.out) (g := w.heap.size + 1 + 1) (by omega) (.bool bz1) (.slice pp5 (Nm.dg D9 z1.natAbs).length cc5) (.bool bz2) (.slice pq5 (Nm.dg D9 z2.natAbs).length cq5))
  have HR1 := Lib.hid (Ri.set4 G5.out Q3h.out (.bool bz1) (.slice pp5 (Nm.dg D9 z1.natAbs).length cc5) (.bool bz2) (.slice pq5 (Nm.dg D9 z2.natAbs).length cq5))
  have HR2 := Lib.hid (Ri.set4 J5.out Q3h.out (.bool bz1) (.slice pp5 (Nm.dg D9 z1.natAbs).length cc5) (.bool bz2) (.slice pq5 (Nm.dg D9 z2.natAbs).length cq5))
  go_wp2
  exact bodyPost_ret (v := .agg #[.bool bz1, .slice pp5 (Nm.dg D9 z1.natAbs).length cc5, .bool bz2, .slice pq5 (Nm.dg D9 z2.natAbs).length cq5]) (by simp [results, Tryz.results28, go_sem, n0, n1, n2, n3]) rfl ⟨_, _, rfl, HR1.out, HR2.out, HZ.out⟩

set_option maxRecDepth 100000 in
set_option maxHeartbeats 4000000 in
theorem rsubQ_int (x1 y1 x2 y2 : Int) (v1 v2 v3 v4 : Value) (w : World) (k : Nat) (hk : k ≤ 20000) (hx1 : x1.natAbs < D9 ^ k) (hy1 : y1.natAbs < D9 ^ k) (hx2 : x2.natAbs < D9 ^ k) (hy2 : y2.natAbs < D9 ^ k) (hp1 : 0 < y1) (hp2 : 0 < y2) (h1 : Rz w v1 x1) (h2 : Rz w v2 y1) (h3 : Rz w v3 x2) (h4 : Rz w v4 y2) :
    Calls Tryz.prog 29 #[qV x1 y1 v1 v2, qV x2 y2 v3 v4] w (RQPost ((x1 * y2 - x2 * y1) / lg (x1 * y2 - x2 * y1) (y1 * y2)) (y1 * y2 / lg (x1 * y2 - x2 * y1) (y1 * y2)) w) := by
  have m12 := mul9 hx1 hy2
  have m21 := mul9 hx2 hy1
  have H_m1 := Lib.hid (fun v1 v2 w g1 g2 => rmul_int x1 y2 v1 v2 w g1 g2 (Nat.le_trans (len9 hx1) (by omega)) (Nat.le_trans (len9 hy2) (by omega)))
  have H_m2 := Lib.hid (fun v1 v2 w g1 g2 => rmul_int x2 y1 v1 v2 w g1 g2 (Nat.le_trans (len9 hx2) (by omega)) (Nat.le_trans (len9 hy1) (by omega)))
  have d12 := mul9 hy1 hy2
  have n12 := sub9 m12 m21
  have H_a := Lib.hid (fun v1 v2 w g1 g2 => rsub_int (x1 * y2) (x2 * y1) v1 v2 w g1 g2 (Nat.le_trans (len9 m12) (by omega)) (Nat.le_trans (len9 m21) (by omega)))
  have H_m3 := Lib.hid (fun v1 v2 w g1 g2 => rmul_int y1 y2 v1 v2 w g1 g2 (Nat.le_trans (len9 hy1) (by omega)) (Nat.le_trans (len9 hy2) (by omega)))
  have hD0 : y1 * y2 ≠ 0 := by
    have := Int.mul_pos hp1 hp2
    omega
  have H_l := Lib.hid (fun v1 v2 w g1 g2 => rlowest_int (x1 * y2 - x2 * y1) (y1 * y2) v1 v2 w (k + k + 1) (by omega) n12 (up9 d12 (by omega)) hD0 g1 g2)
  obtain ⟨z1, hz1⟩ : ∃ z, (x1 * y2 - x2 * y1) / lg (x1 * y2 - x2 * y1) (y1 * y2) = z := ⟨_, rfl⟩
  obtain ⟨z2, hz2⟩ : ∃ z, (y1 * y2) / lg (x1 * y2 - x2 * y1) (y1 * y2) = z := ⟨_, rfl⟩
  rw [hz1, hz2] at H_l ⊢
  clear hz1 hz2 hD0 hp1 hp2
  obtain ⟨bz1, hbz1⟩ : ∃ b, decide (z1 < 0) = b := ⟨_, rfl⟩
  obtain ⟨bz2, hbz2⟩ : ∃ b, decide (z2 < 0) = b := ⟨_, rfl⟩
  unfold RQPost qV at H_l ⊢
  rw [hbz1, hbz2] at H_l ⊢
  clear hbz1 hbz2
  clear n12 d12
  generalize x1 * y2 - x2 * y1 = X3 at *
  generalize x1 * y2 = X1 at *
  generalize x2 * y1 = X2 at *
  generalize y1 * y2 = X4 at *
  have R1 : Hid (Rz w v1 x1) := h1
  have R2 : Hid (Rz w v2 y1) := h2
  have R3 : Hid (Rz w v3 x2) := h3
  have R4 : Hid (Rz w v4 y2) := h4
  obtain ⟨p1, b1, o1, c1, rfl, hr1⟩ := h1
  obtain ⟨p2, b2, o2, c2, rfl, hr2⟩ := h2
  obtain ⟨p3, b3, o3, c3, rfl, hr3⟩ := h3
  obtain ⟨p4, b4, o4, c4, rfl, hr4⟩ := h4
  clear hr1 hr2 hr3 hr4 m12 m21 hx1 hy1 hx2 hy2 hk
  skip
  unfold IntPost iV at *
  skip
  generalize decide (x1 < 0) = bx1 at *
  generalize decide (y1 < 0) = by1 at *
  generalize decide (x2 < 0) = bx2 at *
  generalize decide (y2 < 0) = by2 at *
  generalize (Nm.dg D9 x1.natAbs).length = l1 at *
  generalize (Nm.dg D9 y1.natAbs).length = l2 at *
  generalize (Nm.dg D9 x2.natAbs).length = l3 at *
  generalize (Nm.dg D9 y2.natAbs).length = l4 at *
  obtain ⟨w0, hw0⟩ : ∃ w0 : World, w0 = ((w.alloc (.cells #[.bool bx1, .slice p1 l1 c1, .bool by1, .slice p2 l2 c2] 40)).alloc (.cells #[.bool bx2, .slice p3 l3 c3, .bool by2, .slice p4 l4 c4] 40)).alloc (.cells #[.bool false, .slice none 0 0, .bool false, .slice none 0 0] 40) := ⟨_, rfl⟩
  have hb0 : Hid (Below w.heap.size w w0) := by rw [hw0]; exact (((Below.refl _ _).alloc (Nat.le_refl _) _).alloc (by simp) _).alloc (by simp; omega) _
  have I1 : Hid (ZC4 (.bool bx1) (.slice p1 l1 c1) (.bool by1) (.slice p2 l2 c2) w0 w.heap.size) := by
    rw [hw0]; exact (ZC4.made0 w).next (below_two _ _ _)
  have I2 : Hid (ZC4 (.bool bx2) (.slice p3 l3 c3) (.bool by2) (.slice p4 l4 c4) w0 (w.heap.size + 1)) := by
    rw [hw0]
    have := ZC4.made0 (x := .bool bx2) (y := .slice p3 l3 c3) (z := .bool by2) (u := .slice p4 l4 c4) (t := 40) (w.alloc (.cells #[.bool bx1, .slice p1 l1 c1, .bool by1, .slice p2 l2 c2] 40))
    have := this.next (below_one _ (.cells #[.bool false, .slice none 0 0, .bool false, .slice none 0 0] 40))
    show ZC4 _ _ _ _ _ _
    simpa using this
  have I3 : Hid (ZC4 (.bool false) (.slice none 0 0) (.bool false) (.slice none 0 0) w0 (w.heap.size + 1 + 1)) := by
    rw [hw0]; have := ZC4.made0 (x := .bool false) (y := .slice none 0 0) (z := .bool false) (u := .slice none 0 0) (t := 40) ((w.alloc (.cells #[.bool bx1, .slice p1 l1 c1, .bool by1, .slice p2 l2 c2] 40)).alloc (.cells #[.bool bx2, .slice p3 l3 c3, .bool by2, .slice p4 l4 c4] 40)); show ZC4 _ _ _ _ _ _; simpa using this
  have R1 : Hid (Rz w0 (.slice p1 l1 c1) x1) := Ri.below R1.out hb0.out (Nat.le_refl _)
  have R2 : Hid (Rz w0 (.slice p2 l2 c2) y1) := Ri.below R2.out hb0.out (Nat.le_refl _)
  have R3 : Hid (Rz w0 (.slice p3 l3 c3) x2) := Ri.below R3.out hb0.out (Nat.le_refl _)
  have R4 : Hid (Rz w0 (.slice p4 l4 c4) y2) := Ri.below R4.out hb0.out (Nat.le_refl _)
  have Hw0 := Lib.hid hw0
  clear hw0
  go_enter Tryz.func29, Tryz.ntmps29
  go_upto_region 1 with (fail)
  rw [← Hw0.out]
  obtain ⟨⟨k0, k1, k2, k3⟩, _⟩ := I1.out
  obtain ⟨⟨k4, k5, k6, k7⟩, _⟩ := I2.out
  have e1 : ¬ w.heap.size = w.heap.size + 1 + 1 := by omega
  have e2 : ¬ w.heap.size + 1 + 1 = w.heap.size := by omega
  have e3 : ¬ w.heap.size + 1 = w.heap.size + 1 + 1 := by omega
  have e4 : ¬ w.heap.size + 1 + 1 = w.heap.size + 1 := by omega
  go_region_held3 (fun W' => W'.cell? ⟨w.heap.size, 0, none⟩ = some (.bool bx1) ∧ W'.cell? ⟨w.heap.size, 1, none⟩ = some (.slice p1 l1 c1) ∧ W'.cell? ⟨w.heap.size, 2, none⟩ = some (.bool by1) ∧ W'.cell? ⟨w.heap.size, 3, none⟩ = some (.slice p2 l2 c2) ∧ W'.cell? ⟨w.heap.size + 1, 0, none⟩ = some (.bool bx2) ∧ W'.cell? ⟨w.heap.size + 1, 1, none⟩ = some (.slice p3 l3 c3) ∧ W'.cell? ⟨w.heap.size + 1, 2, none⟩ = some (.bool by2) ∧ W'.cell? ⟨w.heap.size + 1, 3, none⟩ = some (.slice p4 l4 c4)) (go_keep)
    (first
      | (go_at_call 74; (with_reducible refine (H_m1.out _ _ _ (by first | exact R1.out | exact Ri.drew R1.out | exact Ri.below R1.out E.out (Nat.le_refl _)) (by first | exact R4.out | exact Ri.drew R4.out | exact Ri.below R4.out E.out (Nat.le_refl _))).mono ?_); rintro e w1 ⟨v1, rfl, r1, b1⟩; (try (have b1 := undrew b1)); have E : Hid (Below w0.heap.size w0 w1) := (by first | exact b1 | exact chain ((Below.refl _ _).drew) b1); have pk0 := keep1 E.out k0; have pk1 := keep1 E.out k1; have pk2 := keep1 E.out k2; have pk3 := keep1 E.out k3; have pk4 := keep1 E.out k4; have pk5 := keep1 E.out k5; have pk6 := keep1 E.out k6; have pk7 := keep1 E.out k7; have G1 := Lib.hid r1; obtain ⟨pp1, bb1, oo1, cc1, rfl, hr1⟩ := r1; clear hr1; have Q3 := I3.out.next E.out; have Q3h := Lib.hid Q3; obtain ⟨⟨n0, n1, n2, n3⟩, n4, n5, n6, n7⟩ := Q3; clear b1)
      | (go_at_call 74; (with_reducible refine (H_m2.out _ _ _ (by first | exact R3.out | exact Ri.drew R3.out | exact Ri.below R3.out E.out (Nat.le_refl _)) (by first | exact R2.out | exact Ri.drew R2.out | exact Ri.below R2.out E.out (Nat.le_refl _))).mono ?_); rintro e w2 ⟨v2, rfl, r2, b2⟩; (try (have b2 := undrew b2)); have E := Lib.hid (chain E.out b2); have pk0 := keep1 E.out k0; have pk1 := keep1 E.out k1; have pk2 := keep1 E.out k2; have pk3 := keep1 E.out k3; have pk4 := keep1 E.out k4; have pk5 := keep1 E.out k5; have pk6 := keep1 E.out k6; have pk7 := keep1 E.out k7; have G1 := Lib.hid (Ri.below G1.out b2 (Nat.le_refl _)); have G2 := Lib.hid r2; obtain ⟨pp2, bb2, oo2, cc2, rfl, hr2⟩ := r2; clear hr2; have Q3 := I3.out.next E.out; have Q3h := Lib.hid Q3; obtain ⟨⟨n0, n1, n2, n3⟩, n4, n5, n6, n7⟩ := Q3; clear b2)
      | (go_at_call 70; (with_reducible refine (H_a.out _ _ _ (by first | exact G1.out | exact Ri.drew G1.out | exact Ri.below G1.out E.out (Nat.le_refl _)) (by first | exact G2.out | exact Ri.drew G2.out | exact Ri.below G2.out E.out (Nat.le_refl _))).mono ?_); rintro e w3 ⟨v3, rfl, r3, b3⟩; (try (have b3 := undrew b3)); have E := Lib.hid (chain E.out b3); have pk0 := keep1 E.out k0; have pk1 := keep1 E.out k1; have pk2 := keep1 E.out k2; have pk3 := keep1 E.out k3; have pk4 := keep1 E.out k4; have pk5 := keep1 E.out k5; have pk6 := keep1 E.out k6; have pk7 := keep1 E.out k7; have G1 := Lib.hid (Ri.below G1.out b3 (Nat.le_refl _)); have G2 := Lib.hid (Ri.below G2.out b3 (Nat.le_refl _)); have G3 := Lib.hid r3; obtain ⟨pp3, bb3, oo3, cc3, rfl, hr3⟩ := r3; clear hr3; have Q3 := I3.out.next E.out; have Q3h := Lib.hid Q3; obtain ⟨⟨n0, n1, n2, n3⟩, n4, n5, n6, n7⟩ := Q3; clear b3)
      | (go_at_call 74; (with_reducible refine (H_m3.out _ _ _ (by first | exact R2.out | exact Ri.drew R2.out | exact Ri.below R2.out E.out (Nat.le_refl _)) (by first | exact R4.out | exact Ri.drew R4.out | exact Ri.below R4.out E.out (Nat.le_refl _))).mono ?_); rintro e w4 ⟨v4, rfl, r4, b4⟩; (try (have b4 := undrew b4)); have E := Lib.hid (chain E.out b4); have pk0 := keep1 E.out k0; have pk1 := keep1 E.out k1; have pk2 := keep1 E.out k2; have pk3 := keep1 E.out k3; have pk4 := keep1 E.out k4; have pk5 := keep1 E.out k5; have pk6 := keep1 E.out k6; have pk7 := keep1 E.out k7; have G1 := Lib.hid (Ri.below G1.out b4 (Nat.le_refl _)); have G2 := Lib.hid (Ri.below G2.out b4 (Nat.le_refl _)); have G3 := Lib.hid (Ri.below G3.out b4 (Nat.le_refl _)); have G4 := Lib.hid r4; obtain ⟨pp4, bb4, oo4, cc4, rfl, hr4⟩ := r4; clear hr4; have Q3 := I3.out.next E.out; have Q3h := Lib.hid Q3; obtain ⟨⟨n0, n1, n2, n3⟩, n4, n5, n6, n7⟩ := Q3; clear b4)
      | (go_at_call 15; (with_reducible refine (H_l.out _ _ _ (by first | exact G3.out | exact Ri.drew G3.out | exact Ri.below G3.out E.out (Nat.le_refl _)) (by first | exact G4.out | exact Ri.drew G4.out | exact Ri.below G4.out E.out (Nat.le_refl _))).mono ?_); rintro e w5 ⟨v5, x5, rfl, r5, s5, b5⟩; (try (have b5 := undrew b5)); have E := Lib.hid (chain E.out b5); have pk0 := keep1 E.out k0; have pk1 := keep1 E.out k1; have pk2 := keep1 E.out k2; have pk3 := keep1 E.out k3; have pk4 := keep1 E.out k4; have pk5 := keep1 E.out k5; have pk6 := keep1 E.out k6; have pk7 := keep1 E.out k7; have G1 := Lib.hid (Ri.below G1.out b5 (Nat.le_refl _)); have G2 := Lib.hid (Ri.below G2.out b5 (Nat.le_refl _)); have G3 := Lib.hid (Ri.below G3.out b5 (Nat.le_refl _)); have G4 := Lib.hid (Ri.below G4.out b5 (Nat.le_refl _)); have G5 := Lib.hid r5; have J5 := Lib.hid s5; obtain ⟨pp5, bb5, oo5, cc5, rfl, hr5⟩ := r5; obtain ⟨pq5, bq5, oq5, cq5, rfl, hs5⟩ := s5; clear hr5 hs5; have Q3 := I3.out.next E.out; have Q3h := Lib.hid Q3; obtain ⟨⟨n0, n1, n2, n3⟩, n4, n5, n6, n7⟩ := Q3; clear b5)
      | fail)
  have HZ := Lib.hid (below_set4 (chain hb0.out E.out) (g := w.heap.size + 1 + 1) (by omega) (.bool bz1) (.slice pp5 (Nm.dg D9 z1.natAbs).length cc5) (.bool bz2) (.slice pq5 (Nm.dg D9 z2.natAbs).length cq5))
  have HR1 := Lib.hid (Ri.set4 G5.out Q3h.out (.bool bz1) (.slice pp5 (Nm.dg D9 z1.natAbs).length cc5) (.bool bz2) (.slice pq5 (Nm.dg D9 z2.natAbs).length cq5))
  have HR2 := Lib.hid (Ri.set4 J5.out Q3h.out (.bool bz1) (.slice pp5 (Nm.dg D9 z1.natAbs).length cc5) (.bool bz2) (.slice pq5 (Nm.dg D9 z2.natAbs).length cq5))
  go_wp2
  exact bodyPost_ret (v := .agg #[.bool bz1, .slice pp5 (Nm.dg D9 z1.natAbs).length cc5, .bool bz2, .slice pq5 (Nm.dg D9 z2.natAbs).length cq5]) (by simp [results, Tryz.results29, go_sem, n0, n1, n2, n3]) rfl ⟨_, _, rfl, HR1.out, HR2.out, HZ.out⟩
end Go.Proofs.YtlmklhffafcmmaaGreat

/- What the calls of the law's function known give, at their inputs. -/
namespace Go.Proofs.YtlmklhffafcmmaaGreat
open Go.RowKit

theorem len_small {m : Nat} (h : m < W) : (Nm.dg W m).length ≤ 1000000 := Nat.le_trans (len_top (W_Top2 h)) (by decide)
theorem len_small9 {m : Nat} (h : m < W) : (Nm.dg W m).length ≤ 1000000000 := Nat.le_trans (len_top (W_Top2 h)) (by decide)
theorem low_small {m n A B : Nat} (hm : m < W) (hn : n < W) (h0 : 0 < n) (hA : m / Nat.gcd m n = A) (hB : n / Nat.gcd m n = B) : LowOK m n A B := by
  have hg := Nat.gcd_pos_of_pos_right m h0
  have hgn : Nat.gcd m n ≤ n := Nat.gcd_le_right m h0
  have tA : A < W := by rw [← hA]; exact Nat.lt_of_le_of_lt (Nat.div_le_self _ _) hm
  have tB : B < W := by rw [← hB]; exact Nat.lt_of_le_of_lt (Nat.div_le_self _ _) hn
  refine ⟨gcdOK_small m n (Or.inl hm) (len_small9 hm) (len_small9 hn), divOK_small _ _ hg (Or.inr (by omega)) (len_small9 hm) (len_small9 (by omega)), divOK_small _ _ hg (Or.inr (by omega)) (len_small9 hn) (len_small9 (by omega)), hA, hB, len_small tA, len_small tB, W_Top2 tA, W_Top2 tB⟩
theorem zv {z : Int} (h : z.natAbs < W) : vld (zb z) (zs z) = true := zb_zs_valid (W_Top2 h)
theorem div_small {m n : Nat} (hm : m < W) (hn : n < W) (h0 : 0 < n) : DivOK m n := divOK_small m n h0 (Or.inr hn) (len_small9 hm) (len_small9 hn)

abbrev Z (z : Int) : Value := .agg #[.bool (zb z), .string (zs z)]
abbrev Q (x y : Int) : Value := .agg #[.bool (zb x), .string (zs x), .bool (zb y), .string (zs y)]
def Ret (v : Value) (w : World) (e : Ending) (w' : World) : Prop := e = .returned v ∧ Below w.heap.size w w'

theorem k_quo (x y q r : Int) (hx : x.natAbs < W) (hy : y.natAbs < W) (h0 : y ≠ 0) (hq : wd (zb x != zb y) (eq1 (zb x) x.natAbs y.natAbs) = Z q) (hr : wd false (er1 (zb x) x.natAbs y.natAbs) = Z r) (w : World) :
    Calls Tryz.prog 53 #[Z x, Z y] w (Ret (.tuple #[Z q, Z r, .int .i64 0]) w) := by
  have h := Quo_valid (zb x) (zb y) (zs x) (zs y) w (by rw [bv_zs, bv_zs]; exact div_small hx hy (by omega)) (zv hx) (zv hy) (by rw [bv_zs]; omega)
  rw [bv_zs, bv_zs, hq, hr] at h
  exact h
theorem k_quo1 (w : World) : Calls Tryz.prog 53 #[Z (-7), Z 2] w (Ret (.tuple #[Z (-4), Z 1, .int .i64 0]) w) := k_quo _ _ _ _ (by decide) (by decide) (by decide) rfl rfl w
theorem k_quo2 (w : World) : Calls Tryz.prog 53 #[Z 7, Z (-2)] w (Ret (.tuple #[Z (-3), Z 1, .int .i64 0]) w) := k_quo _ _ _ _ (by decide) (by decide) (by decide) rfl rfl w
theorem k_quo3 (w : World) : Calls Tryz.prog 53 #[Z (-7), Z (-2)] w (Ret (.tuple #[Z 4, Z 1, .int .i64 0]) w) := k_quo _ _ _ _ (by decide) (by decide) (by decide) rfl rfl w
theorem k_quo4 (w : World) : Calls Tryz.prog 53 #[Z 7, Z 0] w (Ret (.tuple #[Z 0, Z 0, .int .i64 3]) w) := Quo_zero (zb 7) (zb 0) (zs 7) w (zv (by decide)) rfl

theorem k_int (w : World) : Calls Tryz.prog 51 #[.agg #[.bool true, .string ⟨#[1, 0]⟩]] w (Ret (.tuple #[.int .i64 (-256), .int .i64 0]) w) := by
  have h := Int_valid true ⟨#[1, 0]⟩ w (by decide)
  have e : sg true (bv ⟨#[1, 0]⟩) = -256 := by decide
  unfold IntWPost at h
  rw [e, if_pos (by decide), if_pos (by decide)] at h
  exact h
theorem bs_300 : bs 300 = ⟨#[1, 44]⟩ := by decide
theorem k_of1 (w : World) : Calls Tryz.prog 52 #[.int .i64 (-300)] w (Ret (.agg #[.bool true, .string ⟨#[1, 44]⟩]) w) := by
  have h := Of_any (-300) w (by decide) (by decide)
  unfold OfPost at h
  rw [show (-300 : Int).natAbs = 300 from rfl, bs_300] at h
  exact h
theorem k_of2 (w : World) : Calls Tryz.prog 52 #[.int .i64 0] w (Ret (.agg #[.bool false, .string ⟨#[]⟩]) w) := Of_any 0 w (by decide) (by decide)

theorem k_gcd (x y g : Int) (hx : x.natAbs < W) (hy : y.natAbs < W) (hg : wd false (Nat.gcd x.natAbs y.natAbs) = Z g) (w : World) :
    Calls Tryz.prog 55 #[Z x, Z y] w (Ret (.tuple #[Z g, .int .i64 0]) w) := by
  have h := GCD_valid (zb x) (zb y) (zs x) (zs y) w (by rw [bv_zs, bv_zs]; exact gcdOK_small _ _ (Or.inl hx) (len_small9 hx) (len_small9 hy)) (zv hx) (zv hy)
  have t := gcd_top (W_Top2 hx) (W_Top2 hy)
  rw [bv_zs, bv_zs, wres_ok _ t, werr_ok t, hg] at h
  exact h
theorem k_gcd1 (w : World) : Calls Tryz.prog 55 #[Z (-12), Z 18] w (Ret (.tuple #[Z 6, .int .i64 0]) w) := k_gcd _ _ _ (by decide) (by decide) rfl w
theorem k_gcd2 (w : World) : Calls Tryz.prog 55 #[Z 0, Z 0] w (Ret (.tuple #[Z 0, .int .i64 0]) w) := k_gcd _ _ _ (by decide) (by decide) rfl w
theorem k_shift1 (w : World) : Calls Tryz.prog 56 #[Z (-5), .int .i64 (-1)] w (Ret (.tuple #[Z (-3), .int .i64 0]) w) := by
  have h := Shift_down (zb (-5)) (zs (-5)) 1 (-1) (by decide) (by decide) (by decide) w (zv (by decide))
  have e : shd (zb (-5)) (bv (zs (-5))) 1 = 3 := by rw [bv_zs]; decide
  have t : (3 : Nat) < Top := W_Top2 (by decide)
  rw [e, wres_ok _ t, werr_ok t] at h
  exact h
theorem k_shift2 (w : World) : Calls Tryz.prog 56 #[Z 5, .int .i64 3] w (Ret (.tuple #[Z 40, .int .i64 0]) w) := by
  have h := Shift_up (zb 5) (zs 5) 3 (by decide) w (zv (by decide))
  have e : bv (zs 5) * 2 ^ 3 = 40 := by rw [bv_zs]; decide
  have t : (40 : Nat) < Top := W_Top2 (by decide)
  rw [e, wres_ok _ t, werr_ok t] at h
  exact h

abbrev S0 : ByteArray := ⟨#[45, 48]⟩
abbrev S7 : ByteArray := ⟨#[48, 48, 55]⟩
abbrev S64 : ByteArray := ⟨#[45, 49, 56, 52, 52, 54, 55, 52, 52, 48, 55, 51, 55, 48, 57, 53, 53, 49, 54, 49, 54]⟩
theorem not_dec {s : ByteArray} (h1 : s.data.toList ≠ [48]) (h2 : (ds s).data.toList.head? = some 48) : ¬ DecT s := by
  rintro (h | ⟨⟨h, g⟩, _⟩)
  · rw [ByteArray.toList_eq] at h; exact h1 h
  · apply g
    have e : (ds s).data.toList.head? = some ((ds s)[0]) := by
      have hl : 0 < (ds s).data.toList.length := h
      rw [List.head?_eq_getElem?, List.getElem?_eq_getElem hl]
      rfl
    rw [e] at h2
    have := Option.some.inj h2
    rw [this]; rfl
theorem k_parse1 (w : World) : Calls Tryz.prog 57 #[.string S0] w (Ret (.tuple #[.agg #[.bool false, .string ⟨#[]⟩], .int .i64 6]) w) := Parse_bad S0 w (by decide) (not_dec (by decide) (by decide))
theorem k_parse2 (w : World) : Calls Tryz.prog 57 #[.string S7] w (Ret (.tuple #[.agg #[.bool false, .string ⟨#[]⟩], .int .i64 6]) w) := Parse_bad S7 w (by decide) (not_dec (by decide) (by decide))
theorem bs_W : bs 18446744073709551616 = ⟨#[1, 0, 0, 0, 0, 0, 0, 0, 0]⟩ := by
  have h := Nm.eq_dg (B := 256) (by decide) (l := [0, 0, 0, 0, 0, 0, 0, 0, 1]) (by unfold Nm.Dig; decide) (show (1 : Nat) ≠ 0 by decide)
  have e : Nm.val 256 [0, 0, 0, 0, 0, 0, 0, 0, 1] = 18446744073709551616 := by decide
  rw [e] at h
  unfold bs
  rw [← h]
  rfl
theorem ds64 : ds S64 = ⟨#[49, 56, 52, 52, 54, 55, 52, 52, 48, 55, 51, 55, 48, 57, 53, 53, 49, 54, 49, 54]⟩ := rfl
theorem dec64 : DecT S64 := by
  refine Or.inr ⟨⟨by decide, by decide⟩, ?_⟩
  rw [ds64]
  decide
theorem decv64 : decv (ds S64) = 18446744073709551616 := by decide
abbrev R64 : Value := .agg #[.bool true, .string ⟨#[1, 0, 0, 0, 0, 0, 0, 0, 0]⟩]
theorem W_lt_Top : (18446744073709551616 : Nat) < Top := by
  have h : (2 : Nat) ^ 65 ≤ Top := by
    rw [Top]
    exact Nat.pow_le_pow_right (by decide) (by rw [TopBits_eq]; decide)
  exact Nat.lt_of_lt_of_le (by decide) h
theorem k_parse3 (w : World) : Calls Tryz.prog 57 #[.string S64] w (Ret (.tuple #[R64, .int .i64 0]) w) := by
  have h := Parse_ok S64 w (by decide) dec64 (by decide)
  rw [decv64, wres_ok _ W_lt_Top, werr_ok W_lt_Top] at h
  rw [wd, bs_W] at h
  exact h
theorem k_len (w : World) : Calls Tryz.prog 58 #[R64] w (Ret (.int .i64 65) w) := by
  have h := Len_any true ⟨#[1, 0, 0, 0, 0, 0, 0, 0, 0]⟩ w (by decide)
  have e : lenV true ⟨#[1, 0, 0, 0, 0, 0, 0, 0, 0]⟩ = 65 := by decide
  rw [e] at h
  exact h
theorem k_sign (w : World) : Calls Tryz.prog 59 #[R64] w (Ret (.int .i64 (-1)) w) := by
  have h := Sign_any true ⟨#[1, 0, 0, 0, 0, 0, 0, 0, 0]⟩ w (by decide)
  have e : sgV true ⟨#[1, 0, 0, 0, 0, 0, 0, 0, 0]⟩ = -1 := by decide
  rw [e] at h
  exact h

theorem k_ratof (x y p q : Int) (A B : Nat) (hx : x.natAbs < 9223372036854775808) (hy : y.natAbs < 9223372036854775808) (h0 : y ≠ 0) (hA : x.natAbs / Nat.gcd x.natAbs y.natAbs = A) (hB : y.natAbs / Nat.gcd x.natAbs y.natAbs = B)
    (he : rat ((zb x != zb y) && decide (A ≠ 0)) (bs A) false (bs B) = Q p q) (w : World) : Calls Tryz.prog 10 #[.int .i64 x, .int .i64 y] w (Ret (.tuple #[Q p q, .int .i64 0]) w) := by
  have h := RatioOf_ok x y A B w (low_small (by unfold W; omega) (by unfold W; omega) (by omega) hA hB) (by omega) (by omega) (by omega) (by omega) h0
  unfold RPost at h
  rw [he] at h
  exact h
theorem k_ratof1 (w : World) : Calls Tryz.prog 10 #[.int .i64 6, .int .i64 (-4)] w (Ret (.tuple #[Q (-3) 2, .int .i64 0]) w) := k_ratof _ _ _ _ 3 2 (by decide) (by decide) (by decide) (by decide) (by decide) rfl w
theorem k_ratof2 (w : World) : Calls Tryz.prog 10 #[.int .i64 0, .int .i64 (-5)] w (Ret (.tuple #[Q 0 1, .int .i64 0]) w) := k_ratof _ _ _ _ 0 1 (by decide) (by decide) (by decide) (by decide) (by decide) rfl w
theorem sgz {z : Int} (h : z.natAbs < W) (h0 : 0 < z) : 0 < sgV (zb z) (zs z) := by rw [sgV_z (W_Top2 h), Int.sign_eq_one_of_pos h0]; decide
theorem k_floor (w : World) : Calls Tryz.prog 11 #[Q (-3) 2] w (Ret (.tuple #[Z (-2), .int .i64 0]) w) := by
  have h := Floor_ok (zb (-3)) (zb 2) (zs (-3)) (zs 2) w (by rw [bv_zs, bv_zs]; exact div_small (by decide) (by decide) (by decide)) (zv (by decide)) (zv (by decide)) (sgz (by decide) (by decide)) (by rw [bv_zs]; decide)
  rw [bv_zs, bv_zs] at h
  exact h
theorem k_add (w : World) : Calls Tryz.prog 23 #[Q 1 2, Q 1 3] w (Ret (.tuple #[Q 5 6, .int .i64 0]) w) := by
  have hf := addFrac (zb 1) (zb 2) (zb 1) (zb 3) (bv (zs 1)) (bv (zs 2)) (bv (zs 1)) (bv (zs 3))
  have h := AddRatio_ok (zb 1) (zb 2) (zb 1) (zb 3) (zs 1) (zs 2) (zs 1) (zs 3) false 5 5 6 w (by
      have e := hf (by rw [bv_zs]; exact len_small9 (by decide)) (by rw [bv_zs]; exact len_small9 (by decide)) (by rw [bv_zs]; exact len_small9 (by decide)) (by rw [bv_zs]; exact len_small9 (by decide)) (by rw [bv_zs, bv_zs]; exact len_small9 (by decide)) (by rw [bv_zs, bv_zs]; exact len_small9 (by decide))
      rw [bv_zs, bv_zs, bv_zs] at e ⊢
      exact e) (by rw [bv_zs, bv_zs]; exact low_small (by decide) (by decide) (by decide) (by decide) (by decide)) (zv (by decide)) (zv (by decide)) (zv (by decide)) (zv (by decide)) (sgz (by decide) (by decide)) (sgz (by decide) (by decide))
  exact h
theorem k_mul (w : World) : Calls Tryz.prog 25 #[Q 2 3, Q 3 4] w (Ret (.tuple #[Q 1 2, .int .i64 0]) w) := by
  have hf := mulFrac (zb 2) (zb 3) (zb 3) (zb 4) (bv (zs 2)) (bv (zs 3)) (bv (zs 3)) (bv (zs 4)) (by rw [bv_zs]; exact len_small9 (by decide)) (by rw [bv_zs]; exact len_small9 (by decide))
  have h := MulRatio_ok (zb 2) (zb 3) (zb 3) (zb 4) (zs 2) (zs 3) (zs 3) (zs 4) false 6 1 2 w (by
      rw [bv_zs, bv_zs, bv_zs] at hf ⊢
      exact hf) (by rw [bv_zs, bv_zs]; exact low_small (by decide) (by decide) (by decide) (by decide) (by decide)) (zv (by decide)) (zv (by decide)) (zv (by decide)) (zv (by decide)) (sgz (by decide) (by decide)) (sgz (by decide) (by decide))
  exact h
theorem k_cmp (w : World) : Calls Tryz.prog 22 #[Q 2 4, Q 1 2] w (Ret (.tuple #[.int .i64 0, .int .i64 0]) w) := by
  have h := CompareRatio_pos (zb 2) (zb 4) (zb 1) (zb 2) (zs 2) (zs 4) (zs 1) (zs 2) w (zv (by decide)) (zv (by decide)) (zv (by decide)) (zv (by decide)) (sgz (by decide) (by decide)) (sgz (by decide) (by decide)) (by rw [sgV_z (W_Top2 (by decide)), sgV_z (W_Top2 (by decide))]; decide) (by decide)
  have e : cmpN (bv (zs 2) * bv (zs 2)) (bv (zs 1) * bv (zs 4)) = 0 := by rw [bv_zs, bv_zs, bv_zs]; decide
  rw [e] at h
  exact h
theorem k_w (z : Int) (h1 : -9223372036854775808 ≤ z) (h2 : z ≤ 9223372036854775807) (w : World) : Calls Tryz.prog 54 #[.int .i64 z] w (Ret (Z z) w) := w_any z w h1 h2
theorem k_q (x y : Int) (h1 : -9223372036854775808 ≤ x) (h2 : x ≤ 9223372036854775807) (h3 : -9223372036854775808 ≤ y) (h4 : y ≤ 9223372036854775807) (w : World) : Calls Tryz.prog 60 #[.int .i64 x, .int .i64 y] w (Ret (Q x y) w) := q_any x y w h1 h2 h3 h4
end Go.Proofs.YtlmklhffafcmmaaGreat
