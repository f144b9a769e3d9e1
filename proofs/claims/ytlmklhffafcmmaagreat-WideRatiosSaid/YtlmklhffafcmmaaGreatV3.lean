/- What the theorem leans on, part 3: RefOver2, Str, Read, From, Write, Valid, RefSign, RefMul. -/
import Derived.Test.YtlmklhffafcmmaaGreatV2
import Derived.Test.YtlmklhffafcmmaaGreatV1
import Derived.Deep.RegionHeld3

/- The reference's division, digit by digit: the search of a digit. -/
namespace Go.Proofs.YtlmklhffafcmmaaGreat
open Go.RowKit

def OverPost (m n : Nat) (w : World) (e : Ending) (w' : World) : Prop := ∃ q r, e = .returned (.tuple #[q, r]) ∧ Ri w' q (Nm.dg D9 (m / n)) ∧ Ri w' r (Nm.dg D9 (m % n)) ∧ Below w.heap.size w w'

theorem cmpN_leq {a b : Nat} (h : a ≤ b) : cmpN a b ≤ 0 := by unfold cmpN; split <;> (try split) <;> omega
theorem cmpN_not_leq {a b : Nat} (h : ¬ a ≤ b) : ¬ cmpN a b ≤ 0 := by rw [cmpN_gt (by omega)]; omega
theorem cmpN_not_lt {a b : Nat} (h : b ≤ a) : ¬ cmpN a b < 0 := by unfold cmpN; split <;> (try split) <;> omega
theorem cmpN_is_lt {a b : Nat} (h : a < b) : cmpN a b < 0 := by rw [cmpN_lt h]; omega
theorem below_drew' {B : Nat} {a w : World} (h : Below B a w) (n : Nat) : Below B a (w.drewN n) := ⟨h.os, h.tape, h.output, h.size, h.block⟩
theorem Ari.has {w : World} {g : Nat} {l : List Nat} (h : Ari w g l) (k : Nat) (hk : k < l.length) : ∃ v, w.cell? ⟨g, k, none⟩ = some v := ⟨_, h.cell k hk⟩
theorem own_new (w : World) (x : Nat) : (w.alloc (.cells #[.int .i64 (x : Int)] 3)).ownsRow w.heap.size 3 1 (.slice (some ⟨w.heap.size, 0, none⟩) 1 1) 1 [.int .i64 (x : Int)] :=
  ⟨by simp, .inr ⟨w.heap.size, 1, _, rfl, Nat.le_refl _, heap_alloc_new w _, Nat.le_refl _, by decide, by simp, by simp⟩⟩

set_option maxRecDepth 100000 in
set_option maxHeartbeats 4000000 in
theorem rover_any (v1 v2 : Value) (m n : Nat) (w : World) (hn : 0 < n) (h1 : Ri w v1 (Nm.dg D9 m)) (h2 : Ri w v2 (Nm.dg D9 n)) (l1 : (Nm.dg D9 m).length ≤ 100000) (l2 : (Nm.dg D9 n).length ≤ 100000) :
    Calls Tryz.prog 73 #[v1, v2] w (OverPost m n w) := by
  have dx := Nm.dig_dg D92 m
  have HV := Lib.hid (Nm.val_dg D92 m)
  rw [← HV.out]
  clear HV
  generalize Nm.dg D9 m = X at *
  obtain ⟨p1, b1, o1, c1, rfl, _, _, hp1, _, g1⟩ := h1
  have hmk := fun w => mk_ints X.length w (by omega)
  have H2 := Lib.hid h2
  have L2 := Lib.hid l2
  have Hp1 := Lib.hid hp1
  have G1 := Lib.hid g1
  have DX := Lib.hid dx
  have HN := Lib.hid hn
  have hi3 : (Tryz.prog.info? 3).map (fun i => (i.zero, i.size, i.bytes)) = some (some (.int .i64 0), 1, 8) := by kernel_rfl
  obtain ⟨i0, hi0, hz0, hz1, hz2⟩ := info_parts hi3
  have HI := Lib.hid (And.intro hi0 (And.intro hz0 (And.intro hz1 hz2)))
  have HT := Lib.hid (fun v xs w h => rtrim_any v xs w h)
  have HTA := Lib.hid (fun B v xs w h => rtrim_at B v xs w h)
  have HO := Lib.hid (fun v1 v2 m n w h1 h2 l1 l2 => rorder_any v1 v2 m n w h1 h2 l1 l2)
  clear hi3 hi0 hz0 hz1 hz2 hp1 g1 dx h2 l2 hn
  go_enter Tryz.func73, Tryz.ntmps73
  go_wp2
  clear hmk
  go_loopw [7, 8] (fun rv iv wr => ∃ (k Q R : Nat) (l : List Nat), k ≤ X.length ∧ iv = .int .i64 ((k : Int) - 1) ∧ Hid (OvInv X n k Q R l) ∧ Hid (Ri wr rv (Nm.dg D9 R)) ∧ Hid (Ari wr w.heap.size l) ∧ Hid (Below w.heap.size w wr))
    (fun _ iv _ => (intOf iv + 1).toNat)
  case atStart =>
    exact ⟨X.length, 0, 0, _, Nat.le_refl _, rfl, OvInv.start X HN.out, Ri.nil _, Ari.made w _, (Below.refl _ _).alloc (Nat.le_refl _) _⟩
  case round =>
    rename_i wr _
    obtain ⟨k, Q, R, l, hk, rfl, hinv, hrest, harr, hbl⟩ := hrel
    rcases Nat.eq_zero_or_pos k with h0 | h0
    · subst h0
      have HE : Hid (Nm.trimL l = Nm.dg D9 (Nm.val D9 X / n) ∧ R = Nm.val D9 X % n) := hinv.out.finish
      have HW := Lib.hid (Ri.of_ari harr.out X.length hinv.out.2.2.1 (by unfold maxLen; omega))
      clear hinv
      go_wp2_with (go_at_call 69; (with_reducible refine (HT.out _ _ _ HW.out).mono ?_); rintro e w5 ⟨v5, rfl, h5, rfl⟩)
      go_ret2
      exact ⟨_, _, rfl, by rw [← HE.out.1]; exact h5, by rw [← HE.out.2]; exact hrest.out, hbl.out⟩
    · obtain ⟨j, rfl⟩ : ∃ j, k = j + 1 := ⟨k - 1, by omega⟩
      have hx : j < X.length := by omega
      obtain rfl := Hp1.out (by intro e; rw [e] at hx; exact absurd hx (Nat.not_lt_zero _))
      have e1 := at_old hbl.out (G1.out j hx)
      have hxd : X[j] < D9 := Nm.dig_get DX.out j hx
      have hst := hinv.out.step hx DX.out
      have hst0 := hinv.out.step0 hx DX.out
      have hRn : R < n := hinv.out.1
      have hll : l.length = X.length := hinv.out.2.2.1
      have HRR : Hid (X[j] + D9 * R < D9 * n) := ov_lt hxd hRn
      have HTL := Lib.hid (ov_rest (R := R) hxd)
      obtain ⟨x, hxx⟩ : ∃ x, X[j] = x := ⟨_, rfl⟩
      simp only [hxx] at e1 hxd hst hst0 HRR HTL
      obtain ⟨R', hR'⟩ : ∃ R', x + D9 * R = R' := ⟨_, rfl⟩
      rw [hR'] at hst hst0 HRR HTL
      have HRL : Hid ((Nm.dg D9 R').length ≤ 100001) := by have h5 := ov_len HRR.out; have h6 := L2.out; show _ ≤ _; omega
      have HRL0 : Hid ((Nm.dg D9 R).length ≤ 100000) := by
        have h5 := Nm.len_le_of_val D92 (Nm.nrm_dg D92 R) (k := (Nm.dg D9 n).length) (by have h6 := Nm.val_lt (Nm.dig_dg D92 n); rw [Nm.val_dg D92] at h6 ⊢; omega)
        have h6 := L2.out; show _ ≤ _; omega
      have HS := Lib.hid hst
      have HS0 := Lib.hid hst0
      have HLL := Lib.hid hll
      have hbs : Hid (w.heap.size ≤ wr.heap.size) := hbl.out.size
      obtain ⟨pr, br, or, cr, rfl, hr1, hr2, hr3, hr4, hr5⟩ := hrest.out
      have HR5 := Lib.hid hr5
      have HR3 := Lib.hid hr3
      have HR12 := Lib.hid (And.intro hr1 hr2)
      clear hst hst0 hRn hll hinv hr5 hr3 hr1 hr2 hR' hxd hxx hrest
      have e2 : ((j + 1 : Nat) : Int) - 1 = (j : Int) := by omega
      rw [e2]
      have HXB := Lib.hid (own_new wr x)
      have HGW : Hid (w.heap.size < wr.heap.size) := harr.out.lt
      rcases hr4 with ⟨rfl, rfl⟩ | ⟨rfl, hr4⟩
      · have hnil : Hid (Nm.dg D9 R = []) := by
          show _ = _
          cases hd : Nm.dg D9 R with
          | nil => rfl
          | cons a b => have h5 := HR3.out (by rw [hd]; simp); exact absurd h5 (by simp)
        have hr4 := hnil
        have HW1 : Hid (RiAt wr.heap.size (wr.alloc (.cells #[.int .i64 (x : Int)] 3)) (.slice (some ⟨wr.heap.size, 0, none⟩) 1 1) (x :: Nm.dg D9 R)) := by
          show RiAt _ _ _ _
          rw [hnil.out]; exact RiAt.of_own HXB.out
        have HB1 := Lib.hid (below_new wr (.cells #[.int .i64 (x : Int)] 3))
        rw [hnil.out, List.length_nil]
        clear hnil
        go_wp2_with (first | (at_builtin; refine wpList_append_own_none rfl _ _ 36 rfl wr.heap.size 3 i0 1 Tryz.underlying36 HI.out.1 _ _ _ rfl HXB.out rfl ?_) | (go_at_call 69; (with_reducible refine (HTA.out _ _ _ _ HW1.out).mono ?_); rintro e w5 ⟨v5, rfl, h5, rfl⟩))
        rw [HTL.out] at h5
        obtain ⟨w1, hw1⟩ : ∃ w1, w1 = wr.alloc (.cells #[.int .i64 (x : Int)] 3) := ⟨_, rfl⟩
        rw [← hw1] at h5 HB1 HW1 ⊢
        clear hw1
        have HA1 : Hid (Ari w1 w.heap.size l) := harr.out.keep (HB1.out.block _ harr.out.lt)
        have HBB : Hid (Below w.heap.size w w1) := link hbl.out HB1.out
        have HR6 := Lib.hid h5
        clear h5 HW1 HB1 harr hbl e1 HXB HTL HR5 HR3 HR12 HRL0 hr4
        have H2w : Hid (Ri w1 v2 (Nm.dg D9 n)) := H2.out.below HBB.out (Nat.le_refl _)
        have HO1 := Lib.hid (HO.out v5 v2 R' n w1 HR6.out.ri H2w.out (by have h6 := HRL.out; omega) (by have h6 := L2.out; omega))
        by_cases hlt : R' < n
        · obtain ⟨cc, hcc⟩ : ∃ cc, cmpN R' n = cc := ⟨_, rfl⟩
          have hc := cmpN_is_lt hlt
          rw [hcc] at hc HO1
          have HF := Lib.hid (HS0.out hlt)
          clear hcc hlt
          go_wp2_with (go_at_call 130; (with_reducible refine HO1.out.mono ?_); rintro e w6 ⟨rfl, nq, rfl⟩)
          go_roundw
          case rel => exact ⟨j, _, R', l, by omega, by go_num, HF, HR6.out.ri.drewN _, HA1.out.drewN _, below_drew' HBB.out _⟩
          case measure => simp [intOf]
        · obtain ⟨cc, hcc⟩ : ∃ cc, cmpN R' n = cc := ⟨_, rfl⟩
          have hc := cmpN_not_lt (Nat.le_of_not_lt hlt)
          rw [hcc] at hc HO1
          clear hcc hlt HS0
          go_wp2_with (go_at_call 130; (with_reducible refine HO1.out.mono ?_); rintro e w6 ⟨rfl, nq, rfl⟩)
          have HR7 : Hid (RiAt wr.heap.size (w1.drewN nq) v5 (Nm.dg D9 R')) := HR6.out.below (below_drew' (Below.refl w1.heap.size w1) nq) (Nat.le_refl _)
          have HA2 : Hid (Ari (w1.drewN nq) w.heap.size l) := HA1.out.drewN nq
          have HB2 : Hid (Below w.heap.size w (w1.drewN nq)) := below_drew' HBB.out nq
          have H2x : Hid (Ri (w1.drewN nq) v2 (Nm.dg D9 n)) := H2w.out.drewN nq
          have HT9 : Hid (R' / n ≤ 999999999) := by
            have h5 : R' / n < D9 := by rw [Nat.div_lt_iff_lt_mul HN.out]; exact HRR.out
            unfold D9 at h5
            show _ ≤ _
            omega
          have hgw : Hid (w.heap.size < wr.heap.size) := HGW.out
          generalize w1.drewN nq = w2 at *
          clear HR6 HA1 HBB H2w HO1 hc
          go_loopw [9, 10] (fun lo hi wq => ∃ (wz : World) (a b : Nat) (ai bi : Int), wz = wq ∧ lo = .int .i64 ai ∧ hi = .int .i64 bi ∧ Hid (ai = (a : Int)) ∧ Hid (bi = (b : Int)) ∧ 0 ≤ ai ∧ ai ≤ bi ∧ bi ≤ 999999999 ∧ Hid (a ≤ R' / n) ∧ Hid (R' / n ≤ b) ∧ Hid (Below w2.heap.size w2 wz))
            (fun lo hi _ => (intOf hi - intOf lo).toNat)
          case atStart => exact ⟨_, 0, 999999999, 0, 999999999, rfl, rfl, rfl, rfl, rfl, by omega, by omega, by omega, Nat.zero_le _, HT9, Below.refl _ _⟩
          case round =>
            obtain ⟨wq, a, b, ai, bi, rfl, rfl, rfl, hai, hbi, ha0, hab, hb9, hta, htb, hbl2⟩ := hrel
            by_cases hlh : ai < bi
            · obtain ⟨m1, m2, m3, m4⟩ := ov_mid HN.out hta.out htb.out (show a < b by have h5 := hai.out; have h6 := hbi.out; omega)
              obtain ⟨mid, hmid⟩ : ∃ mid, (a + b + 1) / 2 = mid := ⟨_, rfl⟩
              rw [hmid] at m1 m2 m3 m4
              obtain ⟨mi, hmi⟩ : ∃ mi : Int, (mid : Int) = mi := ⟨_, rfl⟩
              have hme : (ai + bi + 1) / 2 = mi := by rw [← hmi, ← hmid, hai.out, hbi.out]; omega
              have hm1 : ai < mi := by rw [← hmi, hai.out]; omega
              have hm2 : mi ≤ bi := by rw [← hmi, hbi.out]; omega
              have hm9 : mid < D9 := by unfold D9; omega
              have HSM := rsmall_any v2 n mid wq hm9 (H2x.out.below hbl2.out (Nat.le_refl _)) (by have h5 := L2.out; omega)
              rw [hmi] at HSM
              have HSM := Lib.hid HSM
              have HML : Hid ((Nm.dg D9 (n * mid)).length ≤ 100001) := by
                have h5 := ov_len (show n * mid < D9 * n by rw [Nat.mul_comm]; exact Nat.mul_lt_mul_of_pos_right hm9 HN.out)
                have h6 := L2.out
                show _ ≤ _
                omega
              have HMI := Lib.hid hmi
              have HM34 := Lib.hid (And.intro m3 m4)
              have HRQ := Lib.hid (HR7.out.ri.below hbl2.out (Nat.le_refl _))
              clear hmid hm9 m1 m2 m3 m4 hmi
              obtain ⟨cc, hcc⟩ : ∃ cc, cmpN (n * mid) R' = cc := ⟨_, rfl⟩
              have HOm := Lib.hid (fun v w h1 h2 => HO.out v v5 (n * mid) R' w h1 h2 (by have h6 := HML.out; omega) (by have h6 := HRL.out; omega))
              simp only [hcc] at HOm
              by_cases hle : n * mid ≤ R'
              · have hc : cc ≤ 0 := by rw [← hcc]; exact cmpN_leq hle
                have HF := Lib.hid (HM34.out.1 hle)
                clear hcc hle HM34
                go_wp2_with (first | (go_at_call 72; (with_reducible refine HSM.out.mono ?_); rintro e w3 ⟨v3, rfl, h3, b3⟩; have HR8 := Lib.hid (And.intro h3 b3); clear h3 b3) | (go_at_call 130; (with_reducible refine (HOm.out _ _ HR8.out.1 (HRQ.out.below HR8.out.2 (Nat.le_refl _))).mono ?_); rintro e w4 ⟨rfl, nq2, rfl⟩))
                go_roundw
                case rel => exact ⟨_, mid, b, mi, bi, rfl, by first | rfl | rw [hme], rfl, HMI.out.symm, hbi, by omega, by omega, hb9, HF, htb, below_drew' (link hbl2.out HR8.out.2) _⟩
                case measure => simp [intOf, hme]; omega
              · have hc : ¬ cc ≤ 0 := by rw [← hcc]; exact cmpN_not_leq hle
                have HF := Lib.hid (HM34.out.2 hle)
                clear hcc hle HM34
                go_wp2_with (first | (go_at_call 72; (with_reducible refine HSM.out.mono ?_); rintro e w3 ⟨v3, rfl, h3, b3⟩; have HR8 := Lib.hid (And.intro h3 b3); clear h3 b3) | (go_at_call 130; (with_reducible refine (HOm.out _ _ HR8.out.1 (HRQ.out.below HR8.out.2 (Nat.le_refl _))).mono ?_); rintro e w4 ⟨rfl, nq2, rfl⟩))
                go_roundw
                case rel => exact ⟨_, a, mid - 1, ai, mi - 1, rfl, rfl, by first | rfl | rw [hme], hai, by have h5 := HMI.out; have h6 := hai.out; show _ = _; omega, ha0, by omega, by omega, hta, HF, below_drew' (link hbl2.out HR8.out.2) _⟩
                case measure => simp [intOf, hme]; omega
            · have hae : a = R' / n := by have h5 := hai.out; have h6 := hbi.out; have h7 := hta.out; have h8 := htb.out; omega
              have hjl : j < l.length := by rw [HLL.out]; exact hx
              have HA3 := HA2.out.keep (hbl2.out.block _ HA2.out.lt)
              obtain ⟨ov, e3⟩ := HA3.has j hjl
              have e4 := HA3.free j
              have HA4 := HA3.set j a
              rw [← hai.out] at HA4
              have HA4 := Lib.hid HA4
              have HB4 : Hid (Below w.heap.size w (wq.setCell ⟨w.heap.size, j, none⟩ (.int .i64 ai))) := (link HB2.out hbl2.out).setCell (p := ⟨w.heap.size, j, none⟩) (Nat.le_refl _) _
              have H24 : Hid (Ri (wq.setCell ⟨w.heap.size, j, none⟩ (.int .i64 ai)) v2 (Nm.dg D9 n)) := H2.out.below HB4.out (Nat.le_refl _)
              have HR9 : Hid (Ri (wq.setCell ⟨w.heap.size, j, none⟩ (.int .i64 ai)) v5 (Nm.dg D9 R')) := ((HR7.out.below hbl2.out (Nat.le_refl _)).set hgw.out).ri
              have hsz := Nat.lt_of_lt_of_le HA2.out.lt hbl2.out.size
              have Hsz := Lib.hid hsz
              generalize hw4 : wq.setCell ⟨w.heap.size, j, none⟩ (.int .i64 ai) = w4 at *
              have hk9 : a < D9 := by unfold D9; have h5 := hai.out; omega
              have HSM := rsmall_any v2 n a w4 hk9 H24.out (by have h5 := L2.out; omega)
              rw [← hai.out] at HSM
              have HSM := Lib.hid HSM
              have HML : Hid ((Nm.dg D9 (n * a)).length ≤ 100001) := by
                have h5 := ov_len (show n * a < D9 * n by rw [Nat.mul_comm]; exact Nat.mul_lt_mul_of_pos_right hk9 HN.out)
                have h6 := L2.out
                show _ ≤ _
                omega
              have hle : n * a ≤ R' := by rw [hae, Nat.mul_comm]; exact Nat.div_mul_le_self _ _
              have HMm := Lib.hid (fun v w h1 h2 => rminus_any v5 v R' (n * a) w hle h1 h2 (by have h6 := HRL.out; omega) (by have h6 := HML.out; omega))
              have hmm : R' - n * a = R' % n := by rw [hae]; have h5 := Nat.div_add_mod R' n; omega
              rw [hmm] at HMm
              have hsF := HS.out
              rw [← hae] at hsF
              have HF := Lib.hid hsF
              have Hw4 := Lib.hid hw4
              clear hae hle hmm hk9 hjl hw4 hsz hsF HA3
              go_wp2_with (first | (go_at_call 72; (with_reducible rw [Hw4.out]); (with_reducible refine HSM.out.mono ?_); rintro e w6 ⟨v3, rfl, h3, b3⟩; have HR8 := Lib.hid (And.intro h3 b3); clear h3 b3) | (go_at_call 131; (with_reducible refine (HMm.out _ _ (HR9.out.below HR8.out.2 (Nat.le_refl _)) HR8.out.1).mono ?_); rintro e w7 ⟨v7, rfl, h7, b7⟩; have HR10 := Lib.hid (And.intro h7 b7); clear h7 b7))
              go_roundw
              case rel => exact ⟨j, _, _, _, by omega, by go_num, HF, HR10.out.1, (HA4.out.keep (HR8.out.2.block _ HA4.out.lt)).keep (HR10.out.2.block _ (Nat.lt_of_lt_of_le HA4.out.lt HR8.out.2.size)), link (link HB4.out HR8.out.2) HR10.out.2⟩
              case measure => simp [intOf]
      · go_wp2_with (at_builtin; refine wpList_append_own _ rfl _ _ 36 rfl wr.heap.size 3 i0 (.int .i64 0) 1 8 Tryz.underlying36 HI.out.1 HI.out.2.1 HI.out.2.2.1 HI.out.2.2.2 rfl (by decide) _ _ _ rfl HXB.out ⟨br, or, none⟩ (Nm.dg D9 R).length cr (iv (Nm.dg D9 R)) rfl (by rw [iv_length, Nat.mul_one]) ?c1 ?c2 ?c3 ?c4 ?c5 ?_)
        case c1 =>
          intro i u hi
          have hi2 : i < (Nm.dg D9 R).length := by
            rcases Nat.lt_or_ge i (Nm.dg D9 R).length with g | g
            · exact g
            · rw [List.getElem?_eq_none (by rw [iv_length]; exact g)] at hi; simp at hi
          rw [iv_get _ i hi2] at hi
          obtain rfl := Option.some.inj hi
          exact HR5.out i hi2
        case c2 =>
          intro u hu
          obtain ⟨d, _, rfl⟩ := List.mem_map.1 hu
          rfl
        case c3 => have h6 := HRL0.out; unfold maxLen; omega
        case c4 => have h6 := HRL0.out; omega
        intro v' w1 hown1 hgrow1 _
        have HB1 : Hid (Below wr.heap.size wr w1) := (below_new wr _).grown hgrow1 (by simp) (fun q hq => (HXB.out.lt q hq).1)
        have HW1 : Hid (RiAt wr.heap.size w1 v' (x :: Nm.dg D9 R)) := by
          refine RiAt.of_own (B := wr.heap.size) ?_
          rw [List.length_cons, Nat.add_comm]
          exact hown1
        clear hown1 hgrow1
        go_wp2_with (go_at_call 69; (with_reducible refine (HTA.out _ _ _ _ HW1.out).mono ?_); rintro e w5 ⟨v5, rfl, h5, rfl⟩)
        rw [HTL.out] at h5
        have HA1 : Hid (Ari w1 w.heap.size l) := harr.out.keep (HB1.out.block _ harr.out.lt)
        have HBB : Hid (Below w.heap.size w w1) := link hbl.out HB1.out
        have HR6 := Lib.hid h5
        clear h5 HW1 HB1 harr hbl e1 HXB HTL HR5 HR3 HR12 HRL0 hr4
        have H2w : Hid (Ri w1 v2 (Nm.dg D9 n)) := H2.out.below HBB.out (Nat.le_refl _)
        have HO1 := Lib.hid (HO.out v5 v2 R' n w1 HR6.out.ri H2w.out (by have h6 := HRL.out; omega) (by have h6 := L2.out; omega))
        by_cases hlt : R' < n
        · obtain ⟨cc, hcc⟩ : ∃ cc, cmpN R' n = cc := ⟨_, rfl⟩
          have hc := cmpN_is_lt hlt
          rw [hcc] at hc HO1
          have HF := Lib.hid (HS0.out hlt)
          clear hcc hlt
          go_wp2_with (go_at_call 130; (with_reducible refine HO1.out.mono ?_); rintro e w6 ⟨rfl, nq, rfl⟩)
          go_roundw
          case rel => exact ⟨j, _, R', l, by omega, by go_num, HF, HR6.out.ri.drewN _, HA1.out.drewN _, below_drew' HBB.out _⟩
          case measure => simp [intOf]
        · obtain ⟨cc, hcc⟩ : ∃ cc, cmpN R' n = cc := ⟨_, rfl⟩
          have hc := cmpN_not_lt (Nat.le_of_not_lt hlt)
          rw [hcc] at hc HO1
          clear hcc hlt HS0
          go_wp2_with (go_at_call 130; (with_reducible refine HO1.out.mono ?_); rintro e w6 ⟨rfl, nq, rfl⟩)
          have HR7 : Hid (RiAt wr.heap.size (w1.drewN nq) v5 (Nm.dg D9 R')) := HR6.out.below (below_drew' (Below.refl w1.heap.size w1) nq) (Nat.le_refl _)
          have HA2 : Hid (Ari (w1.drewN nq) w.heap.size l) := HA1.out.drewN nq
          have HB2 : Hid (Below w.heap.size w (w1.drewN nq)) := below_drew' HBB.out nq
          have H2x : Hid (Ri (w1.drewN nq) v2 (Nm.dg D9 n)) := H2w.out.drewN nq
          have HT9 : Hid (R' / n ≤ 999999999) := by
            have h5 : R' / n < D9 := by rw [Nat.div_lt_iff_lt_mul HN.out]; exact HRR.out
            unfold D9 at h5
            show _ ≤ _
            omega
          have hgw : Hid (w.heap.size < wr.heap.size) := HGW.out
          generalize w1.drewN nq = w2 at *
          clear HR6 HA1 HBB H2w HO1 hc
          go_loopw [9, 10] (fun lo hi wq => ∃ (wz : World) (a b : Nat) (ai bi : Int), wz = wq ∧ lo = .int .i64 ai ∧ hi = .int .i64 bi ∧ Hid (ai = (a : Int)) ∧ Hid (bi = (b : Int)) ∧ 0 ≤ ai ∧ ai ≤ bi ∧ bi ≤ 999999999 ∧ Hid (a ≤ R' / n) ∧ Hid (R' / n ≤ b) ∧ Hid (Below w2.heap.size w2 wz))
            (fun lo hi _ => (intOf hi - intOf lo).toNat)
          case atStart => exact ⟨_, 0, 999999999, 0, 999999999, rfl, rfl, rfl, rfl, rfl, by omega, by omega, by omega, Nat.zero_le _, HT9, Below.refl _ _⟩
          case round =>
            obtain ⟨wq, a, b, ai, bi, rfl, rfl, rfl, hai, hbi, ha0, hab, hb9, hta, htb, hbl2⟩ := hrel
            by_cases hlh : ai < bi
            · obtain ⟨m1, m2, m3, m4⟩ := ov_mid HN.out hta.out htb.out (show a < b by have h5 := hai.out; have h6 := hbi.out; omega)
              obtain ⟨mid, hmid⟩ : ∃ mid, (a + b + 1) / 2 = mid := ⟨_, rfl⟩
              rw [hmid] at m1 m2 m3 m4
              obtain ⟨mi, hmi⟩ : ∃ mi : Int, (mid : Int) = mi := ⟨_, rfl⟩
              have hme : (ai + bi + 1) / 2 = mi := by rw [← hmi, ← hmid, hai.out, hbi.out]; omega
              have hm1 : ai < mi := by rw [← hmi, hai.out]; omega
              have hm2 : mi ≤ bi := by rw [← hmi, hbi.out]; omega
              have hm9 : mid < D9 := by unfold D9; omega
              have HSM := rsmall_any v2 n mid wq hm9 (H2x.out.below hbl2.out (Nat.le_refl _)) (by have h5 := L2.out; omega)
              rw [hmi] at HSM
              have HSM := Lib.hid HSM
              have HML : Hid ((Nm.dg D9 (n * mid)).length ≤ 100001) := by
                have h5 := ov_len (show n * mid < D9 * n by rw [Nat.mul_comm]; exact Nat.mul_lt_mul_of_pos_right hm9 HN.out)
                have h6 := L2.out
                show _ ≤ _
                omega
              have HMI := Lib.hid hmi
              have HM34 := Lib.hid (And.intro m3 m4)
              have HRQ := Lib.hid (HR7.out.ri.below hbl2.out (Nat.le_refl _))
              clear hmid hm9 m1 m2 m3 m4 hmi
              obtain ⟨cc, hcc⟩ : ∃ cc, cmpN (n * mid) R' = cc := ⟨_, rfl⟩
              have HOm := Lib.hid (fun v w h1 h2 => HO.out v v5 (n * mid) R' w h1 h2 (by have h6 := HML.out; omega) (by have h6 := HRL.out; omega))
              simp only [hcc] at HOm
              by_cases hle : n * mid ≤ R'
              · have hc : cc ≤ 0 := by rw [← hcc]; exact cmpN_leq hle
                have HF := Lib.hid (HM34.out.1 hle)
                clear hcc hle HM34
                go_wp2_with (first | (go_at_call 72; (with_reducible refine HSM.out.mono ?_); rintro e w3 ⟨v3, rfl, h3, b3⟩; have HR8 := Lib.hid (And.intro h3 b3); clear h3 b3) | (go_at_call 130; (with_reducible refine (HOm.out _ _ HR8.out.1 (HRQ.out.below HR8.out.2 (Nat.le_refl _))).mono ?_); rintro e w4 ⟨rfl, nq2, rfl⟩))
                go_roundw
                case rel => exact ⟨_, mid, b, mi, bi, rfl, by first | rfl | rw [hme], rfl, HMI.out.symm, hbi, by omega, by omega, hb9, HF, htb, below_drew' (link hbl2.out HR8.out.2) _⟩
                case measure => simp [intOf, hme]; omega
              · have hc : ¬ cc ≤ 0 := by rw [← hcc]; exact cmpN_not_leq hle
                have HF := Lib.hid (HM34.out.2 hle)
                clear hcc hle HM34
                go_wp2_with (first | (go_at_call 72; (with_reducible refine HSM.out.mono ?_); rintro e w3 ⟨v3, rfl, h3, b3⟩; have HR8 := Lib.hid (And.intro h3 b3); clear h3 b3) | (go_at_call 130; (with_reducible refine (HOm.out _ _ HR8.out.1 (HRQ.out.below HR8.out.2 (Nat.le_refl _))).mono ?_); rintro e w4 ⟨rfl, nq2, rfl⟩))
                go_roundw
                case rel => exact ⟨_, a, mid - 1, ai, mi - 1, rfl, rfl, by first | rfl | rw [hme], hai, by have h5 := HMI.out; have h6 := hai.out; show _ = _; omega, ha0, by omega, by omega, hta, HF, below_drew' (link hbl2.out HR8.out.2) _⟩
                case measure => simp [intOf, hme]; omega
            · have hae : a = R' / n := by have h5 := hai.out; have h6 := hbi.out; have h7 := hta.out; have h8 := htb.out; omega
              have hjl : j < l.length := by rw [HLL.out]; exact hx
              have HA3 := HA2.out.keep (hbl2.out.block _ HA2.out.lt)
              obtain ⟨ov, e3⟩ := HA3.has j hjl
              have e4 := HA3.free j
              have HA4 := HA3.set j a
              rw [← hai.out] at HA4
              have HA4 := Lib.hid HA4
              have HB4 : Hid (Below w.heap.size w (wq.setCell ⟨w.heap.size, j, none⟩ (.int .i64 ai))) := (link HB2.out hbl2.out).setCell (p := ⟨w.heap.size, j, none⟩) (Nat.le_refl _) _
              have H24 : Hid (Ri (wq.setCell ⟨w.heap.size, j, none⟩ (.int .i64 ai)) v2 (Nm.dg D9 n)) := H2.out.below HB4.out (Nat.le_refl _)
              have HR9 : Hid (Ri (wq.setCell ⟨w.heap.size, j, none⟩ (.int .i64 ai)) v5 (Nm.dg D9 R')) := ((HR7.out.below hbl2.out (Nat.le_refl _)).set hgw.out).ri
              have hsz := Nat.lt_of_lt_of_le HA2.out.lt hbl2.out.size
              have Hsz := Lib.hid hsz
              generalize hw4 : wq.setCell ⟨w.heap.size, j, none⟩ (.int .i64 ai) = w4 at *
              have hk9 : a < D9 := by unfold D9; have h5 := hai.out; omega
              have HSM := rsmall_any v2 n a w4 hk9 H24.out (by have h5 := L2.out; omega)
              rw [← hai.out] at HSM
              have HSM := Lib.hid HSM
              have HML : Hid ((Nm.dg D9 (n * a)).length ≤ 100001) := by
                have h5 := ov_len (show n * a < D9 * n by rw [Nat.mul_comm]; exact Nat.mul_lt_mul_of_pos_right hk9 HN.out)
                have h6 := L2.out
                show _ ≤ _
                omega
              have hle : n * a ≤ R' := by rw [hae, Nat.mul_comm]; exact Nat.div_mul_le_self _ _
              have HMm := Lib.hid (fun v w h1 h2 => rminus_any v5 v R' (n * a) w hle h1 h2 (by have h6 := HRL.out; omega) (by have h6 := HML.out; omega))
              have hmm : R' - n * a = R' % n := by rw [hae]; have h5 := Nat.div_add_mod R' n; omega
              rw [hmm] at HMm
              have hsF := HS.out
              rw [← hae] at hsF
              have HF := Lib.hid hsF
              have Hw4 := Lib.hid hw4
              clear hae hle hmm hk9 hjl hw4 hsz hsF HA3
              go_wp2_with (first | (go_at_call 72; (with_reducible rw [Hw4.out]); (with_reducible refine HSM.out.mono ?_); rintro e w6 ⟨v3, rfl, h3, b3⟩; have HR8 := Lib.hid (And.intro h3 b3); clear h3 b3) | (go_at_call 131; (with_reducible refine (HMm.out _ _ (HR9.out.below HR8.out.2 (Nat.le_refl _)) HR8.out.1).mono ?_); rintro e w7 ⟨v7, rfl, h7, b7⟩; have HR10 := Lib.hid (And.intro h7 b7); clear h7 b7))
              go_roundw
              case rel => exact ⟨j, _, _, _, by omega, by go_num, HF, HR10.out.1, (HA4.out.keep (HR8.out.2.block _ HA4.out.lt)).keep (HR10.out.2.block _ (Nat.lt_of_lt_of_le HA4.out.lt HR8.out.2.size)), link (link HB4.out HR8.out.2) HR10.out.2⟩
              case measure => simp [intOf]
end Go.Proofs.YtlmklhffafcmmaaGreat

/- Magnitudes as strings of bytes: wide.toWord, wide.bitsOf, wide.compareBytes, wide.Valid. -/
namespace Go.Proofs.YtlmklhffafcmmaaGreat
open Go.RowKit

theorem toList_eq (s : ByteArray) : s.toList = s.data.toList := ByteArray.toList_eq s
theorem toList_len (s : ByteArray) : s.toList.length = s.size := by rw [toList_eq]; rfl
theorem nonempty_str (s : ByteArray) (hs : 0 < s.size) : s.toList.isEmpty = false := by
  have h : s.toList.length = s.size := toList_len s
  cases e : s.toList with
  | nil => rw [e] at h; simp at h; omega
  | cons x l => rfl

/-- The bytes of a string, the lowest one first. -/
def rev (s : ByteArray) : List Nat := (s.data.toList.map UInt8.toNat).reverse
/-- The number with these bytes, the highest one first. -/
def bv (s : ByteArray) : Nat := Nm.val 256 (rev s)

def hval : List UInt8 → Nat → Nat
  | [], a => a
  | x :: l, a => hval l (a * 256 + x.toNat)

theorem hval_eq (l : List UInt8) (a : Nat) : hval l a = a * 256 ^ l.length + Nm.val 256 (l.map UInt8.toNat).reverse := by
  induction l generalizing a with
  | nil => simp [hval, Nm.val]
  | cons x l ih =>
    rw [hval, ih, List.map_cons, List.reverse_cons, Nm.val_snoc, List.length_reverse, List.length_map, List.length_cons, Nat.pow_succ]
    grind

theorem hval_snoc (l : List UInt8) (x : UInt8) (a : Nat) : hval (l ++ [x]) a = hval l a * 256 + x.toNat := by
  induction l generalizing a with
  | nil => rfl
  | cons y l ih => rw [List.cons_append, hval, ih, hval]

theorem or_byte (a b : Nat) (ha : a * 256 + b < W) (hb : b < 256) : bits BinOp.or IntKind.u64 (IntKind.u64.wrap ((a : Int) * 256)) (b : Int) = ((a * 256 + b : Nat) : Int) := by
  have ha2 : a * 256 < W := Nat.lt_of_le_of_lt (Nat.le_add_right _ _) ha
  have e1 := wrap_mul a 256 ha2
  have hbW : b < W := Nat.lt_trans hb (by decide)
  have e2 := u64_or_nat (a * 256) b ha2 hbW
  have e3 : a * 256 + b = a * 256 ||| b := by
    have := Nat.two_pow_add_eq_or_of_lt (show b < 2 ^ 8 from hb) a
    rwa [Nat.mul_comm] at this
  rw [e3, ← e2]
  congr 1

theorem dig_bytes (l : List UInt8) : Nm.Dig 256 (l.map UInt8.toNat).reverse := by
  intro x hx
  rw [List.mem_reverse, List.mem_map] at hx
  obtain ⟨y, _, rfl⟩ := hx
  exact y.toNat_lt

theorem hval_lt (l : List UInt8) : hval l 0 < 256 ^ l.length := by
  rw [hval_eq, Nat.zero_mul, Nat.zero_add]
  have := Nm.val_lt (dig_bytes l)
  simpa using this

theorem take_byte (s : ByteArray) (k : Nat) (h : k < s.size) : s.data.toList.take (k + 1) = s.data.toList.take k ++ [s[k]] := by
  rw [List.take_succ_eq_append_getElem (by simpa using h)]; rfl

theorem word_step (s : ByteArray) (k : Nat) (h : k < s.size) (hs : s.size ≤ 8) :
    bits BinOp.or IntKind.u64 (IntKind.u64.wrap ((hval (s.data.toList.take k) 0 : Int) * 256)) (IntKind.u64.wrap (s[k].toNat : Int)) = ((hval (s.data.toList.take (k + 1)) 0 : Nat) : Int) := by
  have hb : s[k].toNat < 256 := s[k].toNat_lt
  have h1 := hval_lt (s.data.toList.take k)
  have hlen : (s.data.toList.take k).length ≤ k := List.length_take_le _ _
  have h2 : 256 ^ (s.data.toList.take k).length ≤ 256 ^ 7 := Nat.pow_le_pow_right (by decide) (by omega)
  rw [take_byte s k h, hval_snoc, wrap_nat _ (Nat.lt_trans hb (by decide))]
  refine or_byte _ _ ?_ hb
  have h3 : (hval (s.data.toList.take k) 0 + 1) * 256 ≤ 256 ^ 7 * 256 := Nat.mul_le_mul_right _ (by omega)
  have h4 : 256 ^ 7 * 256 = W := by decide
  omega

set_option maxRecDepth 100000 in
set_option maxHeartbeats 1000000 in
theorem toWord_any (s : ByteArray) (w : World) (hs : s.size ≤ 8) :
    Calls Tryz.prog 115 #[.string s] w fun e w' => e = .returned (.int .u64 (bv s : Nat)) ∧ w = w' := by
  go_enter Tryz.func115, Tryz.ntmps115
  go_wp2
  go_loop [3, 7] (fun x i => ∃ k : Nat, k ≤ s.size ∧ i = .int .i64 k ∧ x = .int .u64 (hval (s.data.toList.take k) 0 : Nat)) (fun _ i => s.size - (intOf i).toNat)
  case atStart => exact ⟨0, Nat.zero_le _, rfl, rfl⟩
  case round =>
    obtain ⟨k, hk, rfl, rfl⟩ := hrel
    by_cases hlt : k < s.size
    · have HS := Lib.hid (word_step s k hlt hs)
      go_wp2
      go_round
      case rel => exact ⟨k + 1, by omega, by go_num, by rw [HS.out]⟩
      case measure => simp [intOf]; omega
    · obtain rfl : k = s.size := by omega
      have HE : Hid (hval (s.data.toList.take s.size) 0 = bv s) := by
        show _ = _
        rw [List.take_of_length_le (by simp), hval_eq, Nat.zero_mul, Nat.zero_add]; rfl
      go_wp2
      go_ret
      exact ⟨by rw [← HE.out]; rfl, rfl⟩

set_option maxHeartbeats 400000 in
theorem bitsOf_empty (w : World) : Calls Tryz.prog 126 #[.string ⟨#[]⟩] w fun e w' => e = .returned (.int .i64 0) ∧ w = w' := by
  go_enter Tryz.func126, Tryz.ntmps126
  go_wp2
  go_ret
  exact ⟨rfl, rfl⟩

set_option maxHeartbeats 400000 in
theorem bitsOf_some (s : ByteArray) (w : World) (hs : 0 < s.size) (hm : s.size ≤ 1000000000) :
    Calls Tryz.prog 126 #[.string s] w fun e w' => e = .returned (.int .i64 (8 * ((s.size : Int) - 1) + (Lib.bitLen s[0].toNat : Nat))) ∧ w = w' := by
  have he : s.toList.isEmpty = false := nonempty_str s hs
  have HB := Lib.hid (fun w => Tryz.bits_Len8 (s[0].toNat : Int) w (by omega) (by have := s[0].toNat_lt; omega))
  go_enter Tryz.func126, Tryz.ntmps126
  go_wp2_with fail
  refine (HB.out _).mono ?_
  rintro e w' ⟨rfl, rfl⟩
  rw [Int.toNat_natCast]
  have hl := bitLen_le64 s[0].toNat (by have := s[0].toNat_lt; omega)
  go_wp2
  go_ret
  exact ⟨rfl, rfl⟩

theorem hval_mono : ∀ (l m : List UInt8) (a b : Nat), l.length = m.length → a < b → hval l a < hval m b := by
  intro l
  induction l with
  | nil =>
    intro m a b h hab
    cases m with
    | nil => exact hab
    | cons y m => simp at h
  | cons x l ih =>
    intro m a b h hab
    cases m with
    | nil => simp at h
    | cons y m =>
      have hx : x.toNat < 256 := x.toNat_lt
      exact ih m _ _ (by simpa using h) (by omega)

theorem less_hval : ∀ (l m : List UInt8) (a : Nat), l.length = m.length → (Op.bytesLess l m = true ↔ hval l a < hval m a) := by
  intro l
  induction l with
  | nil =>
    intro m a h
    cases m with
    | nil => simp [Op.bytesLess, hval]
    | cons y m => simp at h
  | cons x l ih =>
    intro m a h
    cases m with
    | nil => simp at h
    | cons y m =>
      have hx : x.toNat < 256 := x.toNat_lt
      have hy : y.toNat < 256 := y.toNat_lt
      have hlen : l.length = m.length := by simpa using h
      simp only [hval, Op.bytesLess]
      rcases Nat.lt_trichotomy x.toNat y.toNat with g | g | g
      · have h1 := hval_mono l m (a * 256 + x.toNat) (a * 256 + y.toNat) hlen (by omega)
        have h2 : x < y := UInt8.lt_iff_toNat_lt.2 g
        simp [h1, h2]
      · have h2 : x = y := UInt8.toNat_inj.1 g
        subst h2
        have h1 := ih m (a * 256 + x.toNat) hlen
        simp [h1]
      · have h1 := hval_mono m l (a * 256 + y.toNat) (a * 256 + x.toNat) hlen.symm (by omega)
        have h2 : ¬ x < y := fun h3 => by have := UInt8.lt_iff_toNat_lt.1 h3; omega
        have h4 : ¬ x = y := fun h3 => by subst h3; omega
        simp [h2, h4]
        omega

theorem bv_hval (s : ByteArray) : bv s = hval s.toList 0 := by
  rw [hval_eq, Nat.zero_mul, Nat.zero_add, toList_eq]; rfl

theorem bytes_inj (s t : ByteArray) (hl : s.size = t.size) (h : bv s = bv t) : s.toList = t.toList := by
  have h1 : ∀ l m : List UInt8, l.length = m.length → ∀ a, hval l a = hval m a → l = m := by
    intro l
    induction l with
    | nil => intro m h a _; cases m with
      | nil => rfl
      | cons y m => simp at h
    | cons x l ih =>
      intro m h a he
      cases m with
      | nil => simp at h
      | cons y m =>
        have hlen : l.length = m.length := by simpa using h
        simp only [hval] at he
        rcases Nat.lt_trichotomy x.toNat y.toNat with g | g | g
        · have := hval_mono l m (a * 256 + x.toNat) (a * 256 + y.toNat) hlen (by omega); omega
        · have h2 : x = y := UInt8.toNat_inj.1 g
          subst h2
          rw [ih m hlen _ he]
        · have := hval_mono m l (a * 256 + y.toNat) (a * 256 + x.toNat) hlen.symm (by omega); omega
  rw [bv_hval, bv_hval] at h
  exact h1 _ _ (by rw [toList_len, toList_len, hl]) 0 h

/-- No zero byte in front. -/
def Can (s : ByteArray) : Prop := ∀ h : 0 < s.size, s[0] ≠ 0
theorem nrm_rev (s : ByteArray) (h : Can s) : Nm.Nrm (rev s) := by
  rcases Nat.eq_zero_or_pos s.size with h0 | h0
  · have : s.data.toList = [] := List.eq_nil_of_length_eq_zero h0
    unfold rev; rw [this]; trivial
  · have hne := h h0
    have e : s.data.toList = s[0] :: s.data.toList.tail := by
      cases hd : s.data.toList with
      | nil => have : s.data.toList.length = s.size := rfl; rw [hd] at this; simp at this; omega
      | cons x l =>
        have : s[0] = x := by
          have h2 : s[0] = s.data.toList[0]'(by simpa using h0) := rfl
          rw [h2]; simp [hd]
        rw [this]; rfl
    unfold rev
    rw [e, List.map_cons, List.reverse_cons]
    exact Nm.nrm_snoc _ _ (fun h3 => hne (UInt8.toNat_inj.1 h3))
theorem dig_rev (s : ByteArray) : Nm.Dig 256 (rev s) := dig_bytes _
theorem rev_length (s : ByteArray) : (rev s).length = s.size := by simp [rev]

end Go.Proofs.YtlmklhffafcmmaaGreat

/- The function wide.read gives the limbs of a magnitude in bytes. -/
namespace Go.Proofs.YtlmklhffafcmmaaGreat
open Go.RowKit

theorem mk_limbs0 (c : Nat) (hc : c ≤ 1000000000) (w : World) :
    (Instr.makeSlice 84 (.int .i64 0) (.int .i64 (c : Int))).run Tryz.prog w = .ok (.slice (some ⟨w.heap.size, 0, none⟩) 0 c) (w.alloc (.cells (uv (List.replicate c 0)).toArray 132)) := by
  have hi : (Tryz.prog.info? 132).map (fun i => (i.zero, i.size, i.bytes)) = some (some (.int .u64 0), 1, 8) := by kernel_rfl
  obtain ⟨i, hi, hz, hs, hb⟩ := info_parts hi
  rw [run_make w 84 132 i (.int .u64 0) Tryz.underlying84 hi hz .i64 .i64 0 c (by omega) (by omega) (by rw [hb]; omega) (by omega)]
  simp only [Int.toNat_natCast, hs, Nat.mul_one]
  have hm : madeCells (Value.cells (.int .u64 0)) c = (uv (List.replicate c 0)).toArray := by
    apply Array.ext'
    simp [madeCells, Value.cells, uv, Nat.mod_one, List.map_const']
  rw [hm]
  rfl

theorem rev_extract (s : ByteArray) (lo hi : Nat) (h1 : lo ≤ hi) (h2 : hi ≤ s.size) : rev (s.extract lo hi) = ((rev s).drop (s.size - hi)).take (hi - lo) := by
  have hd : (s.extract lo hi).data.toList = (s.data.toList.take hi).drop lo := by
    rw [ByteArray.data_extract, Array.toList_extract, List.extract_eq_take_drop, List.drop_take]
  have hsz : s.data.toList.length = s.size := rfl
  unfold rev
  rw [hd]
  apply List.ext_getElem
  · simp; omega
  · intro j h3 h4
    simp only [List.length_reverse, List.length_map, List.length_drop, List.length_take] at h3
    simp only [List.getElem_reverse, List.getElem_map, List.getElem_take, List.getElem_drop, List.length_map, List.length_drop, List.length_take, List.length_reverse]
    congr 2
    omega

theorem W_bytes (k : Nat) : W ^ k = 256 ^ (8 * k) := by rw [show W = 256 ^ 8 from rfl, ← Nat.pow_mul]

/-- The words so far. -/
def RdInv (s : ByteArray) (k : Nat) (xs : List Nat) : Prop := xs.length = k ∧ Nm.Dig W xs ∧ Nm.val W xs = Nm.val 256 ((rev s).take (8 * k))

theorem RdInv.step {s : ByteArray} {k lo hi : Nat} {xs : List Nat} (h : RdInv s k xs) (h1 : lo ≤ hi) (h2 : hi + 8 * k = s.size) (h3 : hi - lo ≤ 8) (h4 : hi - lo = 8 ∨ lo = 0) : RdInv s (k + 1) (xs ++ [bv (s.extract lo hi)]) := by
  obtain ⟨i1, i2, i3⟩ := h
  have e1 := rev_extract s lo hi h1 (by omega)
  rw [show s.size - hi = 8 * k by omega] at e1
  have e2 : ((rev s).drop (8 * k)).take (hi - lo) = ((rev s).drop (8 * k)).take 8 := by
    rcases h4 with h4 | h4
    · rw [h4]
    · rw [List.take_of_length_le (by simp [rev_length]; omega), List.take_of_length_le (by simp [rev_length]; omega)]
  rw [e2] at e1
  have hlt : bv (s.extract lo hi) < W := by
    have h5 := Nm.val_lt (dig_rev (s.extract lo hi))
    rw [rev_length] at h5
    have h6 : (s.extract lo hi).size ≤ 8 := by simp; omega
    have h7 : 256 ^ (s.extract lo hi).size ≤ 256 ^ 8 := Nat.pow_le_pow_right (by decide) h6
    exact Nat.lt_of_lt_of_le h5 h7
  refine ⟨by simp [i1], Nm.dig_append.2 ⟨i2, Nm.dig_cons.2 ⟨hlt, Nm.dig_nil W⟩⟩, ?_⟩
  rw [Nm.val_snoc, i3, i1, W_bytes, bv, e1, show 8 * (k + 1) = 8 * k + 8 by omega, List.take_add, Nm.val_append, List.length_take, Nat.min_eq_left (by rw [rev_length]; omega)]

set_option maxRecDepth 100000 in
set_option maxHeartbeats 1000000 in
theorem read_any (a : Bool) (s : ByteArray) (w : World) (hs : s.size ≤ 1000000) (hcan : Can s) :
    Calls Tryz.prog 63 #[.agg #[.bool a, .string s]] w (NumPost a (bv s) w) := by
  obtain ⟨cp, hcp⟩ : ∃ cp : Nat, (s.size + 7) / 8 = cp := ⟨_, rfl⟩
  have hdiv : ((s.size : Int) + 8 - 1) / 8 = (cp : Int) := by omega
  have hmk := mk_limbs0 cp (by omega)
  have Hcp := Lib.hid hcp
  have Hcan := Lib.hid hcan
  clear hcp hcan
  go_enter Tryz.func63, Tryz.ntmps63
  go_wp2
  clear hmk hdiv
  have hi81 : (Tryz.prog.info? 132).map (fun i => (i.zero, i.size, i.bytes)) = some (some (.int .u64 0), 1, 8) := by kernel_rfl
  obtain ⟨i0, hi0, hz0, hz1, hz2⟩ := info_parts hi81
  have HI := Lib.hid (And.intro hi0 hz1)
  clear hi81 hi0 hz0 hz1 hz2
  go_loopw [3, 4] (fun v e wr => ∃ k xs, 8 * k ≤ s.size + 7 ∧ k ≤ cp ∧ e = .int .i64 ((s.size : Int) - 8 * (k : Nat)) ∧ v = .slice (some ⟨w.heap.size + 1 + 1, 0, none⟩) k cp ∧ Hid (RdInv s k xs) ∧
      Hid (wr.ownsRow (w.heap.size + 1 + 1) 132 1 (.slice (some ⟨w.heap.size + 1 + 1, 0, none⟩) k cp) k (uv xs)) ∧ Hid (Below (w.heap.size + 1 + 1) ((w.alloc (.cells #[.bool a, .string s] 23)).alloc (.cells #[.bool false, .slice none 0 0] 86)) wr))
    (fun _ e _ => (intOf e).toNat)
  case atStart =>
    refine ⟨0, [], by omega, Nat.zero_le _, by simp, rfl, ⟨rfl, Nm.dig_nil W, by simp [Nm.val]⟩, ?_, (Below.refl _ _).alloc (Nat.le_of_eq (by simp)) _⟩
    have h6 := World.ownsRow_made (base := w.heap.size + 1 + 1) (e := 132) (size := 1) ((w.alloc (.cells #[.bool a, .string s] 23)).alloc (.cells #[.bool false, .slice none 0 0] 86)) (uv (List.replicate cp 0)).toArray cp (by simp) (by have h5 : (s.size + 7) / 8 = cp := Hcp.out; unfold maxLen; omega) (by simp [uv])
    have e0 : ((w.alloc (.cells #[.bool a, .string s] 23)).alloc (.cells #[.bool false, .slice none 0 0] 86)).heap.size = w.heap.size + 1 + 1 := by simp
    rw [e0] at h6
    exact h6
  case round =>
    obtain ⟨k, xs, hk, hkc, rfl, rfl, hinv, hown, hbl⟩ := hrel
    have f0 : wr.cell? ⟨w.heap.size, 0, none⟩ = some (.bool a) := (hbl.out.cell (p := ⟨w.heap.size, 0, none⟩) (by simp; omega)).trans (by simp [go_sem])
    have f1 : wr.cell? ⟨w.heap.size, 1, none⟩ = some (.string s) := (hbl.out.cell (p := ⟨w.heap.size, 1, none⟩) (by simp; omega)).trans (by simp [go_sem])
    by_cases hpos : 8 * k < s.size
    · obtain ⟨e, he⟩ : ∃ e : Nat, e + 8 * k = s.size := ⟨s.size - 8 * k, by omega⟩
      rw [show (s.size : Int) - 8 * (k : Nat) = (e : Int) by omega]
      have he1 : 0 < e := by omega
      have he2 : e ≤ s.size := by omega
      have HE := Lib.hid he
      clear he
      go_wp2_with fail
      rw [show (max ((e : Int) - 8) 0).toNat = e - 8 by omega]
      refine (toWord_any (s.extract (e - 8) e) _ (by simp; omega)).mono ?_
      rintro e2 w' ⟨rfl, rfl⟩
      have hk2 : k + 1 ≤ cp := by have h5 : (s.size + 7) / 8 = cp := Hcp.out; omega
      have hst : Hid (RdInv s (k + 1) (xs ++ [bv (s.extract (e - 8) e)])) := hinv.out.step (by omega) HE.out (by omega) (by omega)
      generalize bv (s.extract (e - 8) e) = x at *
      have hsz : w.heap.size + 1 + 1 ≤ wr.heap.size := by have h5 := hbl.out.size; simpa using h5
      go_wp2_with (at_builtin; refine wpList_append_fits _ rfl _ _ 84 rfl (w.heap.size + 1 + 1) 132 i0 1 Tryz.underlying84 HI.out.1 HI.out.2 (w.heap.size + 1 + 1) k cp (uv xs) rfl (hown.out.alloc _) ⟨wr.heap.size, 0, none⟩ 1 1 [.int .u64 (x : Int)] rfl rfl ?c1 ?c2 ?c3 ?_)
      case c1 =>
        intro j u hj
        match j, hj with
        | 0, hj => simp at hj; subst hj; simp [Addr.add]
      case c2 => intro u hu; simp at hu; subst hu; rfl
      case c3 => exact hk2
      intro w1 hown1 hgrow1
      have hbl1 : Hid (Below (w.heap.size + 1 + 1) ((w.alloc (.cells #[.bool a, .string s] 23)).alloc (.cells #[.bool false, .slice none 0 0] 86)) w1) :=
        (hbl.out.alloc hsz _).grown hgrow1 (by simp; omega) (fun q hq => by have := Option.some.inj hq; omega)
      have hown2 : Hid (w1.ownsRow (w.heap.size + 1 + 1) 132 1 (.slice (some ⟨w.heap.size + 1 + 1, 0, none⟩) (k + 1) cp) (k + 1) (uv (xs ++ [x]))) := by
        show World.ownsRow _ _ _ _ _ _ _
        rw [show uv (xs ++ [x]) = uv xs ++ [Value.int .u64 (x : Int)] by simp [uv]]
        exact hown1
      clear hown1 hgrow1 hbl hown hinv f0 f1
      have HE2 : Hid ((e : Int) - 8 = (s.size : Int) - 8 * ((k + 1 : Nat) : Int)) := by
        show _ = _
        have h5 : e + 8 * k = s.size := HE.out
        omega
      go_wp2
      go_roundw
      case rel => exact ⟨k + 1, xs ++ [x], by have h5 : e + 8 * k = s.size := HE.out; omega, hk2, by rw [HE2.out], rfl, hst, hown2, hbl1⟩
      case measure => simp [intOf]; omega
    · have g0 : wr.cell? ⟨w.heap.size + 1, 0, none⟩ = some (.bool false) := (hbl.out.cell (p := ⟨w.heap.size + 1, 0, none⟩) (by simp)).trans (by simp [go_sem])
      have g1 : wr.cell? ⟨w.heap.size + 1, 1, none⟩ = some (.slice none 0 0) := (hbl.out.cell (p := ⟨w.heap.size + 1, 1, none⟩) (by simp)).trans (by simp [go_sem])
      have g2 : wr.frozen? ⟨w.heap.size + 1, 0, none⟩ = false := (hbl.out.frozen (p := ⟨w.heap.size + 1, 0, none⟩) (by simp)).trans (by simp [go_sem])
      have g3 : wr.frozen? ⟨w.heap.size + 1, 1, none⟩ = false := (hbl.out.frozen (p := ⟨w.heap.size + 1, 1, none⟩) (by simp)).trans (by simp [go_sem])
      have hneg : ¬ (0 : Int) < (s.size : Int) - 8 * (k : Nat) := by omega
      have HX : Hid (xs = Nm.dg W (bv s)) := by
        obtain ⟨i1, i2, i3⟩ := hinv.out
        have i4 : Nm.val W xs = bv s := by rw [i3, List.take_of_length_le (by rw [rev_length]; omega)]; rfl
        show xs = _
        rw [← i4]
        refine Nm.eq_dg W2 i2 ?_
        rcases Nat.eq_zero_or_pos s.size with h0 | h0
        · have hk0 : k = 0 := by omega
          have hx0 : xs = [] := List.eq_nil_of_length_eq_zero (by omega)
          rw [hx0]; trivial
        · refine Nm.nrm_of_val i2 ?_
          rw [i4, i1, W_bytes]
          have h6 := Nm.val_pos (B := 256) (nrm_rev s Hcan.out) (by intro e0; have := rev_length s; rw [e0] at this; simp at this; omega)
          rw [rev_length] at h6
          exact Nat.le_trans (Nat.pow_le_pow_right (by decide) (by omega)) h6
      have HRd : Hid (Rd wr (.slice (some ⟨w.heap.size + 1 + 1, 0, none⟩) k cp) (Nm.dg W (bv s))) := by
        show Rd _ _ _
        rw [← HX.out]
        have i1 := hinv.out.1
        have ho := hown.out
        refine ⟨some ⟨w.heap.size + 1 + 1, 0, none⟩, w.heap.size + 1 + 1, 0, cp, by rw [i1], by omega, by have h5 : (s.size + 7) / 8 = cp := Hcp.out; unfold maxLen; omega, fun _ => rfl, Or.inr ⟨rfl, (ho.lt _ rfl).2⟩, fun j hj => ?_⟩
        have := ho.cells (g := w.heap.size + 1 + 1) rfl j (.int .u64 (xs[j] : Int)) (uv_get xs j hj)
        have hadd : ((⟨w.heap.size + 1 + 1, 0, none⟩ : Addr).add j) = ⟨w.heap.size + 1 + 1, 0 + j, none⟩ := by unfold Addr.add; split <;> simp_all
        rwa [hadd] at this
      have HB : Hid (Below w.heap.size w wr) := (((Below.refl _ _).alloc (Nat.le_refl _) _).alloc (by simp) _).trans (hbl.out.mono (by omega))
      clear hbl hown hinv
      go_wp2
      exact bodyPost_ret (v := .agg #[.bool a, .slice (some ⟨w.heap.size + 1 + 1, 0, none⟩) k cp]) (by simp [results, Tryz.results63, go_sem, g0, g1]) rfl
        ⟨_, rfl, (HRd.out.setCell g0 (fun n => by simp) (.bool a)).setCell (a := ⟨w.heap.size + 1, 1, none⟩) (u0 := .slice none 0 0) (by simp [go_sem, g1]) (fun n => by simp) _, (HB.out.setCell (p := ⟨w.heap.size + 1, 0, none⟩) (by simp) _).setCell (p := ⟨w.heap.size + 1, 1, none⟩) (by simp) _⟩

end Go.Proofs.YtlmklhffafcmmaaGreat

/- The function wide.fromWord gives a limb as a wide integer. -/
namespace Go.Proofs.YtlmklhffafcmmaaGreat
open Go.RowKit

/-- A magnitude as bytes, the highest one first. -/
def bs (n : Nat) : ByteArray := ⟨((Nm.dg 256 n).reverse.map UInt8.ofNat).toArray⟩

theorem List.drop_set_of_lt_aux (l : List Nat) (f z : Nat) (h : f < l.length) : (l.set f z).drop f = z :: l.drop (f + 1) := by
  rw [List.drop_eq_getElem_cons (by simpa using h), List.drop_set_of_lt (by omega)]
  simp

/-- The lowest digits, also where they are 0. -/
def lowd (x : Nat) : Nat → List Nat
  | 0 => []
  | k + 1 => lowd x k ++ [x / 256 ^ k % 256]
theorem lowd_length (x k : Nat) : (lowd x k).length = k := by
  induction k with
  | zero => rfl
  | succ k ih => simp [lowd, ih]
theorem lowd_dig (x k : Nat) : Nm.Dig 256 (lowd x k) := by
  induction k with
  | zero => exact Nm.dig_nil _
  | succ k ih => exact Nm.dig_append.2 ⟨ih, Nm.dig_cons.2 ⟨Nat.mod_lt _ (by decide), Nm.dig_nil _⟩⟩
theorem lowd_val (x k : Nat) : Nm.val 256 (lowd x k) = x % 256 ^ k := by
  induction k with
  | zero => simp [lowd, Nm.val, Nat.mod_one]
  | succ k ih =>
    rw [lowd, Nm.val_snoc, lowd_length, ih, Nat.pow_succ, Nat.mod_mul]
theorem lowd_dg (x k : Nat) (h1 : x / 256 ^ k = 0) (h2 : k = 0 ∨ x / 256 ^ (k - 1) ≠ 0) : lowd x k = Nm.dg 256 x := by
  have hlt : x < 256 ^ k := by
    rcases Nat.lt_or_ge x (256 ^ k) with h | h
    · exact h
    · have := Nat.div_pos h (Nat.pow_pos (by decide)); omega
  have hv : Nm.val 256 (lowd x k) = x := by rw [lowd_val, Nat.mod_eq_of_lt hlt]
  have hn : Nm.Nrm (lowd x k) := by
    rcases h2 with rfl | h2
    · trivial
    · cases k with
      | zero => trivial
      | succ k =>
        refine Nm.nrm_snoc _ _ ?_
        rw [Nat.add_sub_cancel] at h2
        rw [Nat.pow_succ] at hlt
        rw [Nat.mod_eq_of_lt]
        · exact h2
        · rwa [Nat.div_lt_iff_lt_mul (Nat.pow_pos (by decide)), Nat.mul_comm]
  have := Nm.eq_dg (by decide : 2 ≤ 256) (lowd_dig x k) hn
  rwa [hv] at this

/-- Bytes as values. -/
def bvl (l : List Nat) : List Value := l.map fun (n : Nat) => Value.int .u8 (n : Int)
def ArrB (w : World) (g t : Nat) (l : List Nat) : Prop := w.heap[g]? = some (.cells (bvl l).toArray t (0, 0))
theorem ArrB.cell {w : World} {g t : Nat} {l : List Nat} (h : ArrB w g t l) (k : Nat) (hk : k < l.length) : w.cell? ⟨g, k, none⟩ = some (.int .u8 (l[k] : Int)) := by
  rw [cell_of_row w g k _ _ _ h]; simp [bvl, hk]
theorem ArrB.has {w : World} {g t : Nat} {l : List Nat} (h : ArrB w g t l) (k : Nat) (hk : k < l.length) : ∃ v, w.cell? ⟨g, k, none⟩ = some v := ⟨_, h.cell k hk⟩
theorem ArrB.free {w : World} {g t : Nat} {l : List Nat} (h : ArrB w g t l) (k : Nat) : w.frozen? ⟨g, k, none⟩ = false := frozen_of_row w g k _ _ h
theorem ArrB.set {w : World} {g t : Nat} {l : List Nat} (h : ArrB w g t l) (k n : Nat) : ArrB (w.setCell ⟨g, k, none⟩ (.int .u8 (n : Int))) g t (l.set k n) := by
  have := heap_setCell_same w g k _ _ (.int .u8 (n : Int)) h
  rw [ArrB, this]
  simp [bvl, List.map_set]

/-- The bytes of a block as a string. -/
theorem conv_bytes {w : World} {g t : Nat} {l : List Nat} (h : ArrB w g t l) (f n cap x : Nat) (hl : f + n ≤ l.length) (hx : (l.drop f).take n = (Nm.dg 256 x).reverse) :
    (convert 172 9 (.slice (some ⟨g, f, none⟩) n cap)).run Tryz.prog w = .ok (.string (bs x)) w := by
  have hlen : ((Nm.dg 256 x).reverse.map UInt8.ofNat).length = n := by rw [List.length_map, ← hx]; simp; omega
  have := run_convert_bytes_back (P := Tryz.prog) w 172 9 5 ⟨g, f, none⟩ cap ((Nm.dg 256 x).reverse.map UInt8.ofNat) Tryz.underlying172 Tryz.underlying5 Tryz.underlying9 (fun j hj => by
    have hadd : ((⟨g, f, none⟩ : Addr).add j) = ⟨g, f + j, none⟩ := by unfold Addr.add; split <;> simp_all
    have hjn : j < n := by rw [hlen] at hj; exact hj
    rw [hadd, h.cell (f + j) (by omega)]
    have e1 : (Nm.dg 256 x).reverse[j]'(by simpa using hj) = l[f + j] := by
      have : (Nm.dg 256 x).reverse[j]'(by simpa using hj) = ((l.drop f).take n)[j]'(by simp; omega) := by simp only [hx]
      rw [this]; simp
    have e2 : l[f + j] < 256 := by rw [← e1]; exact Nm.dig_dg (by decide) x _ (List.mem_reverse.1 (List.getElem_mem _))
    rw [List.getElem_map, e1]
    congr 2
    simp [UInt8.toNat_ofNat', Nat.mod_eq_of_lt e2])
  rw [hlen] at this
  exact this

theorem byte_wrap (y : Nat) : IntKind.u8.wrap (y : Int) = ((y % 256 : Nat) : Int) := by simp [IntKind.wrap, IntKind.bits, IntKind.signed]

theorem slice8 (g f : Nat) (hf : f ≤ 8) (w : World) :
    (Instr.sliceAt 171 (.pointer (some ⟨g, 0, none⟩)) (some (.int .i64 (f : Int))) none none).run Tryz.prog w = .ok (.slice (some ⟨g, if f = 8 then 0 else f, none⟩) (8 - f) (8 - f)) w := by
  have ha : Tryz.prog.arrayLen 171 = 8 := by kernel_rfl
  have hs : ∀ w, (sizeOf (Tryz.prog.elem 171)).run Tryz.prog w = .ok 1 w := fun w => by kernel_rfl
  rw [run_sliceAt_array_l w 171 _ (by kernel_rfl) .i64 f (by omega) (by rw [ha]; omega)]
  by_cases h8 : f = 8
  · subst h8
    simp [hs, ha, slicedAt, Result.andThen]
  · have h9 : ¬ 8 = f := fun e => h8 e.symm
    rcases Nat.eq_zero_or_pos f with h0 | h0
    · subst h0; simp [hs, ha, slicedAt, Result.andThen, Addr.add]
    · have h1 : ¬ f = 0 := by omega
      simp [hs, ha, slicedAt, Result.andThen, Addr.add, h8, h9, h1]

set_option maxRecDepth 100000 in
set_option maxHeartbeats 1000000 in
theorem fromWord_any (a : Bool) (x : Nat) (hx : x < W) (w : World) :
    Calls Tryz.prog 116 #[.bool a, .int .u64 (x : Int)] w fun e w' => e = .returned (.agg #[.bool a, .string (bs x)]) ∧ Below w.heap.size w w' := by
  have HW := Lib.hid hx
  clear hx
  go_enter Tryz.func116, Tryz.ntmps116
  go_wp2
  go_loopw [1, 6] (fun v i wr => ∃ k f y l, f + k = 8 ∧ i = .int .i64 (f : Nat) ∧ v = .int .u64 (y : Nat) ∧ Hid (y = x / 256 ^ k ∧ (k = 0 ∨ x / 256 ^ (k - 1) ≠ 0) ∧ l.length = 8 ∧ l.drop f = (lowd x k).reverse) ∧
      Hid (ArrB wr (w.heap.size + 1) 171 l) ∧ Hid (Below (w.heap.size + 1) (w.alloc (.cells #[.bool false, .string ⟨#[]⟩] 23)) wr))
    (fun v _ _ => (intOf v).toNat)
  case atStart =>
    refine ⟨0, 8, x, [0, 0, 0, 0, 0, 0, 0, 0], rfl, rfl, rfl, ⟨by simp, Or.inl rfl, rfl, rfl⟩, ?_, (Below.refl _ _).alloc (Nat.le_of_eq (by simp)) _⟩
    have h6 := heap_alloc_new (w.alloc (.cells #[.bool false, .string ⟨#[]⟩] 23)) (.cells (bvl [0, 0, 0, 0, 0, 0, 0, 0]).toArray 171)
    rw [World.size_alloc] at h6
    exact h6
  case round =>
    obtain ⟨k, f, y, l, hfk, rfl, rfl, hinv, harr, hbl⟩ := hrel
    have hf8 : f ≤ 8 := by omega
    have Hfk := Lib.hid hfk
    clear hfk
    rcases Nat.eq_zero_or_pos y with h0 | h0
    · subst h0
      have g0 : wr.cell? ⟨w.heap.size, 0, none⟩ = some (.bool false) := (hbl.out.cell (p := ⟨w.heap.size, 0, none⟩) (by simp)).trans (by simp [go_sem])
      have g1 : wr.cell? ⟨w.heap.size, 1, none⟩ = some (.string ⟨#[]⟩) := (hbl.out.cell (p := ⟨w.heap.size, 1, none⟩) (by simp)).trans (by simp [go_sem])
      have g2 : wr.frozen? ⟨w.heap.size, 0, none⟩ = false := (hbl.out.frozen (p := ⟨w.heap.size, 0, none⟩) (by simp)).trans (by simp [go_sem])
      have g3 : wr.frozen? ⟨w.heap.size, 1, none⟩ = false := (hbl.out.frozen (p := ⟨w.heap.size, 1, none⟩) (by simp)).trans (by simp [go_sem])
      obtain ⟨i1, i2, i3, i4⟩ := hinv.out
      have hfk : f + k = 8 := Hfk.out
      have hsl := slice8 (w.heap.size + 1) f hf8 wr
      have kc := conv_bytes harr.out (if f = 8 then 0 else f) (8 - f) (8 - f) x (by split <;> omega) (by
        rw [← lowd_dg x k i1.symm i2, ← i4]
        split
        · next h8 => subst h8; simp; omega
        · rw [List.take_of_length_le (by simp; omega)])
      generalize (if f = 8 then 0 else f) = f0 at *
      have HB : Hid (Below w.heap.size w wr) := ((Below.refl _ _).alloc (Nat.le_refl _) _).trans (hbl.out.mono (by omega))
      clear i1 i2 i3 i4 hfk hinv harr hbl
      go_wp2
      exact bodyPost_ret (v := .agg #[.bool a, .string (bs x)]) (by simp [results, Tryz.results116, go_sem, g0, g1]) rfl ⟨rfl, (HB.out.setCell (p := ⟨w.heap.size, 0, none⟩) (Nat.le_refl _) _).setCell (p := ⟨w.heap.size, 1, none⟩) (Nat.le_refl _) _⟩
    · obtain ⟨i1, i2, i3, i4⟩ := hinv.out
      have hfk : f + k = 8 := Hfk.out
      have hk8 : k < 8 := by
        rcases Nat.lt_or_ge k 8 with h | h
        · exact h
        · have h5 : x / 256 ^ k = 0 := Nat.div_eq_of_lt (Nat.lt_of_lt_of_le HW.out (show W ≤ 256 ^ k from Nat.pow_le_pow_right (n := 256) (by decide) h))
          omega
      obtain ⟨f', rfl⟩ : ∃ f', f = f' + 1 := ⟨f - 1, by omega⟩
      rw [show ((f' + 1 : Nat) : Int) = (f' : Int) + 1 by omega]
      obtain ⟨u3, e3⟩ := harr.out.has f' (by omega)
      have e4 := harr.out.free f'
      have ew := byte_wrap y
      have hset := harr.out.set f' (y % 256)
      have HS := Lib.hid hset
      have HB : Hid (Below (w.heap.size + 1) (w.alloc (.cells #[.bool false, .string ⟨#[]⟩] 23)) (wr.setCell ⟨w.heap.size + 1, f', none⟩ (.int .u8 ((y % 256 : Nat) : Int)))) := hbl.out.setCell (p := ⟨w.heap.size + 1, f', none⟩) (Nat.le_refl _) _
      have HI : Hid (y / 256 = x / 256 ^ (k + 1) ∧ (k + 1 = 0 ∨ x / 256 ^ (k + 1 - 1) ≠ 0) ∧ (l.set f' (y % 256)).length = 8 ∧ (l.set f' (y % 256)).drop f' = (lowd x (k + 1)).reverse) := by
        refine ⟨by rw [i1, Nat.div_div_eq_div_mul, Nat.pow_succ], Or.inr (by rw [Nat.add_sub_cancel, ← i1]; omega), by simpa using i3, ?_⟩
        rw [lowd, List.reverse_append, List.reverse_singleton, ← i4, ← i1, List.drop_set_of_lt_aux l f' (y % 256) (by omega)]
        rfl
      have HF : Hid (f' + (k + 1) = 8) := by show _ = _; omega
      have hbig : (y : Int) < 18446744073709551616 → True := fun _ => trivial
      clear i1 i2 i3 i4 hfk hinv harr hbl hset hbig
      have hy : ((y : Int) / 256) = ((y / 256 : Nat) : Int) := by simp
      have hmod : ((y : Int) % 256) = ((y % 256 : Nat) : Int) := by simp
      have Hym := Lib.hid (And.intro hy hmod)
      have Hyp : Hid (y / 256 < y) := Nat.div_lt_self h0 (by decide)
      clear hy hmod
      go_wp2
      go_roundw
      case rel => exact ⟨k + 1, f', y / 256, _, HF.out, by go_num, by rw [Hym.out.1], HI.out, by rw [Hym.out.2]; exact HS.out, by rw [Hym.out.2]; exact HB.out⟩
      case measure => simp [intOf]; have := Hyp.out; omega
end Go.Proofs.YtlmklhffafcmmaaGreat

/- The function wide.write gives a number as a wide integer, or the error. -/
namespace Go.Proofs.YtlmklhffafcmmaaGreat
open Go.RowKit

/-- A wide integer and an error code come back. -/
def WPost (r : Value) (c : Int) (w : World) (e : Ending) (w' : World) : Prop := e = .returned (.tuple #[r, .int .i64 c]) ∧ Below w.heap.size w w'
/-- The wide integer with a sign and a magnitude; 0 has no sign. -/
def wd (a : Bool) (m : Nat) : Value := .agg #[.bool (a && decide (m ≠ 0)), .string (bs m)]
/-- Above the greatest magnitude. -/
@[irreducible] def TopBits : Nat := 65536
theorem TopBits_eq : TopBits = 65536 := by unfold TopBits; rfl
def Top : Nat := 2 ^ TopBits
def wres (a : Bool) (m : Nat) : Value := if m < Top then wd a m else wd false 0
def werr (m : Nat) : Int := if m < Top then 0 else 7
theorem wres_ok (a : Bool) {m : Nat} (h : m < Top) : wres a m = wd a m := if_pos h
theorem werr_ok {m : Nat} (h : m < Top) : werr m = 0 := if_pos h
theorem wres_full (a : Bool) {m : Nat} (h : Top ≤ m) : wres a m = wd false 0 := if_neg (by omega)
theorem werr_full {m : Nat} (h : Top ≤ m) : werr m = 7 := if_neg (by omega)
theorem W_Top : W ≤ Top := by
  rw [W_pow, Top]
  exact Nat.pow_le_pow_right (by decide) (by rw [TopBits_eq]; decide)
theorem bs_zero : bs 0 = ⟨#[]⟩ := rfl

theorem bits_of_last {X : List Nat} (hd : Nm.Dig W X) (hn : Nm.Nrm X) (hl : 0 < X.length) :
    1 ≤ Lib.bitLen X[X.length - 1] ∧ Lib.bitLen X[X.length - 1] ≤ 64 ∧ 2 ^ (64 * (X.length - 1) + Lib.bitLen X[X.length - 1] - 1) ≤ Nm.val W X ∧ Nm.val W X < 2 ^ (64 * (X.length - 1) + Lib.bitLen X[X.length - 1]) := by
  have h0 := Nm.nrm_last hn hl
  have hx := Nm.dig_get hd (X.length - 1) (by omega)
  obtain ⟨h1, h2, h3⟩ := bitLen_spec _ _ (Nat.le_refl _) h0 hx
  have h4 := bitLen_le64 _ hx
  have h5 := Nm.val_take_succ W X (X.length - 1) (by omega)
  rw [show X.length - 1 + 1 = X.length by omega, List.take_length] at h5
  have h6 := Nm.val_lt (Nm.dig_take hd (X.length - 1))
  rw [List.length_take, Nat.min_eq_left (by omega)] at h6
  have hP : W ^ (X.length - 1) = 2 ^ (64 * (X.length - 1)) := by rw [W_pow, ← Nat.pow_mul]
  rw [hP] at h5 h6
  generalize X[X.length - 1] = x at *
  generalize Lib.bitLen x = b at *
  refine ⟨h1, h4, ?_, ?_⟩
  · rw [h5, show 64 * (X.length - 1) + b - 1 = 64 * (X.length - 1) + (b - 1) by omega, Nat.pow_add]
    exact Nat.le_trans (Nat.mul_le_mul_left _ h2) (Nat.le_add_left _ _)
  · rw [h5, Nat.pow_add]
    have : 2 ^ (64 * (X.length - 1)) * (x + 1) ≤ 2 ^ (64 * (X.length - 1)) * 2 ^ b := Nat.mul_le_mul_left _ h3
    rw [Nat.mul_add, Nat.mul_one] at this
    omega

/-- A byte of a number, out of its limb. -/
theorem limb_byte {X : List Nat} (hd : Nm.Dig W X) (i : Nat) (h : i / 8 < X.length) : X[i / 8] / 2 ^ (8 * (i % 8)) % 256 = Nm.val W X / 256 ^ i % 256 := by
  have hs := Nm.val_split W X (i / 8) (by omega)
  have hlt := Nm.val_lt (Nm.dig_take hd (i / 8))
  rw [List.length_take, Nat.min_eq_left (by omega)] at hlt
  rw [List.drop_eq_getElem_cons h, Nm.val_cons] at hs
  have e1 : 256 ^ i = W ^ (i / 8) * 2 ^ (8 * (i % 8)) := by
    rw [W_bytes, show (2 : Nat) ^ (8 * (i % 8)) = 256 ^ (i % 8) by rw [Nat.pow_mul], ← Nat.pow_add, Nat.div_add_mod]
  rw [e1, ← Nat.div_div_eq_div_mul, hs, Nat.add_mul_div_left _ _ (Nat.pow_pos W0), Nat.div_eq_of_lt hlt, Nat.zero_add]
  generalize X[i / 8] = x
  generalize Nm.val W (X.drop (i / 8 + 1)) = r
  have hr : i % 8 ≤ 7 := by omega
  have e2 : W = 2 ^ (8 * (i % 8)) * (2 ^ (64 - 8 * (i % 8) - 8) * 256) := by
    rw [show (256 : Nat) = 2 ^ 8 from rfl, ← Nat.pow_add, ← Nat.pow_add, W_pow]
    congr 1; omega
  rw [e2, Nat.mul_assoc, Nat.add_mul_div_left _ _ (Nat.pow_pos (by decide)), Nat.mul_right_comm, Nat.add_mul_mod_self_right]

set_option maxRecDepth 100000 in
set_option maxHeartbeats 1000000 in
theorem write_zero (a : Bool) (v : Value) (w : World) (h : Rd w v []) :
    Calls Tryz.prog 118 #[.agg #[.bool a, v]] w (WPost (wd a 0) 0 w) := by
  obtain ⟨p, b, o, c, rfl, hrest⟩ := h
  clear hrest
  go_enter Tryz.func118, Tryz.ntmps118
  go_wp2
  refine bodyPost_ret (v := .tuple #[.agg #[.bool false, .string ⟨#[]⟩], .int .i64 0]) (by simp [results, Tryz.results118, go_sem]) rfl ⟨?_, ?_⟩
  · rw [wd, bs_zero]; simp
  · exact ((Below.refl _ _).alloc (Nat.le_refl _) _).alloc (by simp) _

set_option maxRecDepth 100000 in
set_option maxHeartbeats 1000000 in
theorem write_one (a : Bool) (v : Value) (x : Nat) (hx0 : x ≠ 0) (hx : x < W) (w : World) (h : Rd w v [x]) :
    Calls Tryz.prog 118 #[.agg #[.bool a, v]] w (WPost (wd a x) 0 w) := by
  obtain ⟨p, b, o, c, rfl, _, _, hp, _, hcell⟩ := h
  obtain rfl := hp (by simp)
  have e1 := hcell 0 (by simp)
  simp only [List.getElem_cons_zero, Nat.add_zero] at e1
  have hb := World.block_lt_of_cell? w _ e1
  have HF := Lib.hid (fromWord_any a x hx)
  have Hx := Lib.hid hx0
  clear hp hcell hx0
  simp only [List.length_singleton]
  go_enter Tryz.func118, Tryz.ntmps118
  go_wp2_with fail
  obtain ⟨w0, hw0⟩ : ∃ w0 : World, w0 = (w.alloc (.cells #[.bool a, .slice (some ⟨b, o, none⟩) 1 c] 86)).alloc (.cells #[.bool false, .string ⟨#[]⟩] 23) := ⟨_, rfl⟩
  rw [← hw0]
  have hb0 : Below w.heap.size w w0 := by rw [hw0]; exact ((Below.refl _ _).alloc (Nat.le_refl _) _).alloc (by simp) _
  have k0 : w0.cell? ⟨w.heap.size, 0, none⟩ = some (.bool a) := by rw [hw0]; simp [go_sem]
  have k1 : w0.cell? ⟨w.heap.size, 1, none⟩ = some (.slice (some ⟨b, o, none⟩) 1 c) := by rw [hw0]; simp [go_sem]
  have k2 : w0.cell? ⟨b, o, none⟩ = some (.int .u64 (x : Int)) := at_old hb0 e1
  have k4 : w0.cell? ⟨w.heap.size + 1, 0, none⟩ = some (.bool false) := by rw [hw0]; simp [go_sem]
  have k5 : w0.cell? ⟨w.heap.size + 1, 1, none⟩ = some (.string ⟨#[]⟩) := by rw [hw0]; simp [go_sem]
  have k6 : ∀ k, w0.frozen? ⟨w.heap.size + 1, k, none⟩ = false := fun k => by rw [hw0]; simp [go_sem]
  have n1 : ¬ (w.heap.size = w.heap.size + 1) := by omega
  have n2 : ¬ (w.heap.size + 1 = w.heap.size) := by omega
  have n3 : ¬ (w.heap.size + 1 = b) := by omega
  have n4 : ¬ (b = w.heap.size + 1) := by omega
  have hsz : w0.heap.size = w.heap.size + 2 := by rw [hw0]; simp
  clear hw0
  go_region_held3 (fun W' => W'.cell? ⟨w.heap.size, 0, none⟩ = some (.bool a) ∧ W'.cell? ⟨w.heap.size, 1, none⟩ = some (.slice (some ⟨b, o, none⟩) 1 c) ∧ W'.cell? ⟨b, o, none⟩ = some (.int .u64 (x : Int))) (go_keep)
    (first | (go_at_call 116; refine (HF.out _).mono ?_; rintro e w' ⟨rfl, hbl⟩; have q0 := (hbl.cell (p := ⟨w.heap.size, 0, none⟩) (by simp; omega)).trans k0; have q1 := (hbl.cell (p := ⟨w.heap.size, 1, none⟩) (by simp; omega)).trans k1; have q2 := (hbl.cell (p := ⟨b, o, none⟩) (by simp; omega)).trans k2; have q4 := (hbl.cell (p := ⟨w.heap.size + 1, 0, none⟩) (by simp; omega)).trans k4; have q5 := (hbl.cell (p := ⟨w.heap.size + 1, 1, none⟩) (by simp; omega)).trans k5; have q6 := (hbl.frozen (p := ⟨w.heap.size + 1, 0, none⟩) (by simp; omega)).trans (k6 0); have q7 := (hbl.frozen (p := ⟨w.heap.size + 1, 1, none⟩) (by simp; omega)).trans (k6 1)))
  have HB := Lib.hid (((hb0.drew.trans (hbl.mono (by simp; omega))).setCell (p := ⟨w.heap.size + 1, 0, none⟩) (by simp) (.bool a)).setCell (p := ⟨w.heap.size + 1, 1, none⟩) (by simp) (.string (bs x)))
  go_wp2
  exact bodyPost_ret (v := .tuple #[.agg #[.bool a, .string (bs x)], .int .i64 0]) (by simp [results, Tryz.results118, go_sem, q4, q5]) rfl ⟨by rw [wd, decide_eq_true Hx.out, Bool.and_true], HB.out⟩

theorem mk_bytes (n : Nat) (w : World) (hn : n ≤ 1000000000) :
    (Instr.makeSlice 172 (.int .i64 (n : Int)) (.int .i64 (n : Int))).run Tryz.prog w = .ok (.slice (some ⟨w.heap.size, 0, none⟩) n n) (w.alloc (.cells (bvl (List.replicate n 0)).toArray 5)) := by
  have hi : (Tryz.prog.info? 5).map (fun i => (i.zero, i.size, i.bytes)) = some (some (.int .u8 0), 1, 1) := by kernel_rfl
  obtain ⟨i, hi, hz, hs, hb⟩ := info_parts hi
  rw [run_make w 172 5 i (.int .u8 0) Tryz.underlying172 hi hz .i64 .i64 n n (by omega) (by omega) (by rw [hb]; omega) (by omega)]
  simp only [Int.toNat_natCast, hs, Nat.mul_one]
  have hm : madeCells (Value.cells (.int .u8 0)) n = (bvl (List.replicate n 0)).toArray := by
    apply Array.ext'
    simp [madeCells, Value.cells, bvl, Nat.mod_one, List.map_const']
  rw [hm]

set_option maxRecDepth 100000 in
set_option maxHeartbeats 1000000 in
theorem write_more (a : Bool) (v : Value) (X : List Nat) (hd : Nm.Dig W X) (hn : Nm.Nrm X) (hl : 2 ≤ X.length) (hl2 : X.length ≤ 1000000) (w : World) (h : Rd w v X) :
    Calls Tryz.prog 118 #[.agg #[.bool a, v]] w (WPost (wres a (Nm.val W X)) (werr (Nm.val W X)) w) := by
  obtain ⟨p, b, o, c, rfl, _, _, hp, _, hcell⟩ := h
  obtain rfl := hp (by intro e; rw [e] at hl; simp at hl)
  obtain ⟨b1, b2, b3, b4⟩ := bits_of_last hd hn (by omega)
  have e1 := hcell (X.length - 1) (by omega)
  have hb := World.block_lt_of_cell? w _ e1
  have hlast := Nm.dig_get hd (X.length - 1) (by omega)
  obtain ⟨x, hx⟩ : ∃ x, X[X.length - 1] = x := ⟨_, rfl⟩
  rw [hx] at b1 b2 b3 b4 e1 hlast
  have HL := Lib.hid (len64_call x hlast)
  obtain ⟨bl, hbl⟩ : ∃ bl, Lib.bitLen x = bl := ⟨_, rfl⟩
  rw [hbl] at b1 b2 b3 b4 HL
  obtain ⟨L, hL⟩ : ∃ L, X.length = L + 1 := ⟨X.length - 1, by omega⟩
  rw [hL] at b3 b4 e1 hl hl2 ⊢
  simp only [Nat.add_sub_cancel] at b3 b4 e1
  have HX := Lib.hid hcell
  have HB4 := Lib.hid (And.intro b3 b4)
  have HLn := Lib.hid hL
  have hne0 : ((L : Int) + 1 == 0) = false := by simp; omega
  have hne1 : ((L : Int) + 1 == 1) = false := by simp; omega
  clear hx hbl hp hcell b3 b4 hL
  have e9 : ∀ o2 o3, ((w.alloc o2).alloc o3).cell? ⟨b, o + L, none⟩ = some (.int .u64 (x : Int)) := fun o2 o3 => at_old (((Below.refl _ _).alloc (Nat.le_refl _) o2).alloc (by simp) o3) e1
  go_enter Tryz.func118, Tryz.ntmps118
  go_wp2_with fail
  refine (HL.out _).mono ?_
  rintro e w' ⟨rfl, rfl⟩
  clear HL e9 e1
  by_cases hfull : 65536 < 64 * L + bl
  · have hb0 : Hid (Below w.heap.size w ((w.alloc (.cells #[.bool a, .slice (some ⟨b, o, none⟩) (L + 1) c] 86)).alloc (.cells #[.bool false, .string ⟨#[]⟩] 23))) := ((Below.refl _ _).alloc (Nat.le_refl _) _).alloc (by simp) _
    have hge : Hid (Top ≤ Nm.val W X) := Nat.le_trans (Nat.pow_le_pow_right (by decide) (by rw [TopBits_eq]; omega)) HB4.out.1
    have hfi : (65536 : Int) < 64 * (L : Int) + (bl : Int) := by omega
    clear hfull
    go_wp2
    exact bodyPost_ret (v := .tuple #[.agg #[.bool false, .string ⟨#[]⟩], .int .i64 7]) (by simp [results, Tryz.results118, go_sem]) rfl ⟨by rw [wres_full a hge.out, werr_full hge.out, wd, bs_zero]; simp, hb0.out⟩
  · have hlt : Hid (Nm.val W X < Top) := Nat.lt_of_lt_of_le HB4.out.2 (Nat.pow_le_pow_right (by decide) (by rw [TopBits_eq]; omega))
    obtain ⟨nb, hnb⟩ : ∃ nb, (64 * L + bl + 7) / 8 = nb := ⟨_, rfl⟩
    have hdiv : (64 * (L : Int) + (bl : Int) + 7) / 8 = (nb : Int) := by omega
    have hmk := fun w => mk_bytes nb w (by omega)
    have hfi : ¬ (65536 : Int) < 64 * (L : Int) + (bl : Int) := by omega
    have hnb1 : 1 ≤ nb := by omega
    have hnb2 : nb ≤ 8192 := by omega
    have Hnb := Lib.hid hnb
    clear hnb hfull
    go_wp2
    clear hdiv hmk
    obtain ⟨w00, hw00⟩ : ∃ w00 : World, w00 = (w.alloc (.cells #[.bool a, .slice (some ⟨b, o, none⟩) (L + 1) c] 86)).alloc (.cells #[.bool false, .string ⟨#[]⟩] 23) := ⟨_, rfl⟩
    have hsz : w00.heap.size = w.heap.size + 1 + 1 := by rw [hw00]; simp
    have K0 : Hid (w00.cell? ⟨w.heap.size, 0, none⟩ = some (.bool a)) := by show _ = _; rw [hw00]; simp [go_sem]
    have K1 : Hid (w00.cell? ⟨w.heap.size, 1, none⟩ = some (.slice (some ⟨b, o, none⟩) (L + 1) c)) := by show _ = _; rw [hw00]; simp [go_sem]
    have K4 : Hid (w00.cell? ⟨w.heap.size + 1, 0, none⟩ = some (.bool false)) := by show _ = _; rw [hw00]; simp [go_sem]
    have K5 : Hid (w00.cell? ⟨w.heap.size + 1, 1, none⟩ = some (.string ⟨#[]⟩)) := by show _ = _; rw [hw00]; simp [go_sem]
    have K6 : Hid (∀ k, w00.frozen? ⟨w.heap.size + 1, k, none⟩ = false) := fun k => by rw [hw00]; simp [go_sem]
    have hbw : Hid (Below w.heap.size w w00) := by rw [hw00]; exact ((Below.refl _ _).alloc (Nat.le_refl _) _).alloc (by simp) _
    have harr0 : Hid (ArrB (w00.alloc (.cells (bvl (List.replicate nb 0)).toArray 5)) (w.heap.size + 1 + 1) 5 (List.replicate nb 0)) := by
      show ArrB _ _ _ _
      rw [← hsz]; exact heap_alloc_new w00 _
    rw [← hw00]
    have Hsz := Lib.hid hsz
    clear hw00 hsz
    go_loopw [44] (fun iv wr => ∃ i l, i ≤ nb ∧ iv = .int .i64 (i : Nat) ∧ Hid (l.length = nb ∧ l.drop (nb - i) = (lowd (Nm.val W X) i).reverse) ∧ Hid (ArrB wr (w.heap.size + 1 + 1) 5 l) ∧ Hid (Below (w.heap.size + 1 + 1) w00 wr))
      (fun iv _ => nb - (intOf iv).toNat)
    case atStart =>
      exact ⟨0, List.replicate nb 0, Nat.zero_le _, rfl, ⟨by simp, by simp [lowd]⟩, harr0, (Below.refl _ _).alloc (Nat.le_of_eq Hsz.out.symm) _⟩
    case round =>
      clear harr0
      obtain ⟨i, l, hi, rfl, hinv, harr, hbl2⟩ := hrel
      have hs2 : w.heap.size + 1 + 1 ≤ wr.heap.size := by have h5 := hbl2.out.size; have h6 : w00.heap.size = w.heap.size + 1 + 1 := Hsz.out; omega
      have f0 := (hbl2.out.cell (p := ⟨w.heap.size, 0, none⟩) (by simp; omega)).trans K0.out
      have f1 := (hbl2.out.cell (p := ⟨w.heap.size, 1, none⟩) (by simp; omega)).trans K1.out
      by_cases hlt2 : i < nb
      · obtain ⟨j, hj⟩ : ∃ j, j + i + 1 = nb := ⟨nb - 1 - i, by omega⟩
        have hjr : (nb : Int) - 1 - (i : Int) = (j : Int) := by omega
        have hqL : i / 8 < L + 1 := by have h5 : (64 * L + bl + 7) / 8 = nb := Hnb.out; omega
        have hqX : i / 8 < X.length := by have h5 : X.length = L + 1 := HLn.out; omega
        have f2 : wr.cell? ⟨b, o + i / 8, none⟩ = some (.int .u64 (X[i / 8] : Int)) := (hbl2.out.cell (p := ⟨b, o + i / 8, none⟩) (by simp; omega)).trans (at_old hbw.out (HX.out (i / 8) hqX))
        obtain ⟨u3, e3⟩ := harr.out.has j (by have h5 := hinv.out.1; omega)
        have e4 := harr.out.free j
        have hbyte := limb_byte hd i hqX
        obtain ⟨bt, hbt⟩ : ∃ bt, Nm.val W X / 256 ^ i % 256 = bt := ⟨_, rfl⟩
        rw [hbt] at hbyte
        have hq : (i : Int) / 8 = ((i / 8 : Nat) : Int) := by omega
        have hr : (i : Int) % 8 = ((i % 8 : Nat) : Int) := by omega
        obtain ⟨q, hqd⟩ : ∃ q, i / 8 = q := ⟨_, rfl⟩
        obtain ⟨r, hrd⟩ : ∃ r, i % 8 = r := ⟨_, rfl⟩
        have hr7 : r ≤ 7 := by omega
        simp only [hqd, hrd] at hq hr f2 hbyte hqL
        have HC : Hid (((X[q] : Int) / 2 ^ (8 * r) % 256) = (bt : Int)) := by show _ = _; rw [← hbyte]; simp
        have HI : Hid ((l.set j bt).length = nb ∧ (l.set j bt).drop (nb - (i + 1)) = (lowd (Nm.val W X) (i + 1)).reverse) := by
          obtain ⟨i1, i2⟩ := hinv.out
          refine ⟨by simpa using i1, ?_⟩
          rw [show nb - (i + 1) = j by omega, List.drop_set_of_lt_aux l j bt (by omega), show j + 1 = nb - i by omega, i2, lowd, List.reverse_append, List.reverse_singleton, hbt]
          rfl
        have HA := Lib.hid (harr.out.set j bt)
        have HB2 : Hid (Below (w.heap.size + 1 + 1) w00 (wr.setCell ⟨w.heap.size + 1 + 1, j, none⟩ (.int .u8 (bt : Int)))) := hbl2.out.setCell (p := ⟨w.heap.size + 1 + 1, j, none⟩) (Nat.le_refl _) _
        clear hinv harr hbl2
        go_wp2
        go_roundw
        case rel => exact ⟨i + 1, _, hlt2, by go_num, HI.out, by rw [HC.out]; exact HA.out, by rw [HC.out]; exact HB2.out⟩
        case measure => simp [intOf]; omega
      · obtain rfl : i = nb := by omega
        have g0 := (hbl2.out.cell (p := ⟨w.heap.size + 1, 0, none⟩) (by simp)).trans K4.out
        have g1 := (hbl2.out.cell (p := ⟨w.heap.size + 1, 1, none⟩) (by simp)).trans K5.out
        have g2 := (hbl2.out.frozen (p := ⟨w.heap.size + 1, 0, none⟩) (by simp)).trans (K6.out 0)
        have g3 := (hbl2.out.frozen (p := ⟨w.heap.size + 1, 1, none⟩) (by simp)).trans (K6.out 1)
        have n5 : ¬ (w.heap.size + 1 = w.heap.size) := by omega
        have h5 : (64 * L + bl + 7) / 8 = i := Hnb.out
        have hup : Nm.val W X / 256 ^ i = 0 := Nat.div_eq_of_lt (Nat.lt_of_lt_of_le HB4.out.2 (by
          rw [show (256 : Nat) ^ i = 2 ^ (8 * i) by rw [Nat.pow_mul]]
          exact Nat.pow_le_pow_right (by decide) (by omega)))
        have hlow : Nm.val W X / 256 ^ (i - 1) ≠ 0 := by
          have h6 : 256 ^ (i - 1) ≤ Nm.val W X := by
            refine Nat.le_trans ?_ HB4.out.1
            rw [show (256 : Nat) ^ (i - 1) = 2 ^ (8 * (i - 1)) by rw [Nat.pow_mul]]
            exact Nat.pow_le_pow_right (by decide) (by omega)
          have h7 := Nat.div_pos h6 (Nat.pow_pos (n := i - 1) (by decide : 0 < 256))
          omega
        have hV0 : Hid (Nm.val W X ≠ 0) := by
          intro h8
          rw [h8] at hlow
          simp at hlow
        have kc := conv_bytes harr.out 0 i i (Nm.val W X) (by have := hinv.out.1; omega) (by
          obtain ⟨i1, i2⟩ := hinv.out
          rw [Nat.sub_self] at i2
          rw [i2, lowd_dg _ i hup (Or.inr hlow), List.take_of_length_le]
          rw [← lowd_dg _ i hup (Or.inr hlow), List.length_reverse, lowd_length]
          exact Nat.le_refl _)
        have HB3 : Hid (Below w.heap.size w wr) := hbw.out.trans (hbl2.out.mono (by omega))
        clear hup hlow h5 hinv harr hbl2
        generalize Nm.val W X = V at *
        go_wp2
        exact bodyPost_ret (v := .tuple #[.agg #[.bool a, .string (bs V)], .int .i64 0]) (by simp [results, Tryz.results118, go_sem, g0, g1]) rfl
          ⟨by rw [wres_ok a hlt.out, werr_ok hlt.out, wd, decide_eq_true hV0.out, Bool.and_true], (HB3.out.setCell (p := ⟨w.heap.size + 1, 0, none⟩) (by simp) _).setCell (p := ⟨w.heap.size + 1, 1, none⟩) (by simp) _⟩

/-- The number, or the error. -/
theorem write_any (a : Bool) (v : Value) (m : Nat) (w : World) (h : Rd w v (Nm.dg W m)) (hl : (Nm.dg W m).length ≤ 1000000) :
    Calls Tryz.prog 118 #[.agg #[.bool a, v]] w (WPost (wres a m) (werr m) w) := by
  have hv := Nm.val_dg W2 m
  have hd := Nm.dig_dg W2 m
  have hn := Nm.nrm_dg W2 m
  generalize Nm.dg W m = X at *
  match X, hl, hv, hd, hn, h with
  | [], _, hv, _, _, h =>
    have : m = 0 := hv.symm
    subst this
    have ht : 0 < Top := Nat.lt_of_lt_of_le W0 W_Top
    rw [wres_ok a ht, werr_ok ht]
    exact write_zero a v w h
  | [x], _, hv, hd, hn, h =>
    have hx : x = m := by simpa [Nm.val] using hv
    subst hx
    have hxW := (Nm.dig_cons.1 hd).1
    have ht : x < Top := Nat.lt_of_lt_of_le hxW W_Top
    rw [wres_ok a ht, werr_ok ht]
    exact write_one a v x hn hxW w h
  | x :: y :: l, hl, hv, hd, hn, h =>
    rw [← hv]
    exact write_more a v (x :: y :: l) hd hn (by simp) hl w h
end Go.Proofs.YtlmklhffafcmmaaGreat

/- The functions wide.Valid, wide.Sign, wide.Len, wide.Compare, wide.Neg, wide.Of and wide.Int. -/
namespace Go.Proofs.YtlmklhffafcmmaaGreat
open Go.RowKit

/-- Is a wide integer valid? -/
def vld (a : Bool) (s : ByteArray) : Bool := if h : 0 < s.size then decide (s.size ≤ 8192) && (s[0] != 0) else !a

def BPost (b : Bool) (w : World) (e : Ending) (w' : World) : Prop := e = .returned (.bool b) ∧ Below w.heap.size w w'
def IPost (n : Int) (w : World) (e : Ending) (w' : World) : Prop := e = .returned (.int .i64 n) ∧ Below w.heap.size w w'

theorem chain {w0 W W' : World} (h : Below w0.heap.size w0 W) (k : Below W.heap.size W W') : Below w0.heap.size w0 W' := h.trans (k.mono h.size)
theorem keep1 {w0 W' : World} (hb : Below w0.heap.size w0 W') {p : Addr} {v : Value} (h : w0.cell? p = some v) : W'.cell? p = some v := at_old hb h
theorem keepf {w0 W' : World} (hb : Below w0.heap.size w0 W') {p : Addr} {v : Value} (h : w0.cell? p = some v) (hf : w0.frozen? p = false) : W'.frozen? p = false :=
  (hb.frozen (World.block_lt_of_cell? w0 p h)).trans hf

set_option maxHeartbeats 400000 in
theorem Valid_any (a : Bool) (s : ByteArray) (w : World) (hs : s.size ≤ 140737488351232) : Calls Tryz.prog 61 #[.agg #[.bool a, .string s]] w (BPost (vld a s) w) := by
  rcases Nat.eq_zero_or_pos s.size with h0 | h0
  · have E : Hid (vld a s = !a) := by show _ = _; unfold vld; rw [dif_neg (by omega)]
    have h1 : ((s.size : Int) == 0) = true := beq_iff_eq.2 (by omega)
    have hb : Hid (Below w.heap.size w (w.alloc (.cells #[.bool a, .string s] 23))) := (Below.refl _ _).alloc (Nat.le_refl _) _
    clear h0
    go_enter Tryz.func61, Tryz.ntmps61
    go_wp2
    go_ret
    exact ⟨by rw [E.out]; rfl, hb.out⟩
  · have E : Hid (vld a s = (decide (s.size ≤ 8192) && (s[0] != 0))) := by show _ = _; unfold vld; rw [dif_pos h0]
    have h1 : ((s.size : Int) == 0) = false := beq_eq_false_iff_ne.2 (by omega)
    have hb : Hid (Below w.heap.size w (w.alloc (.cells #[.bool a, .string s] 23))) := (Below.refl _ _).alloc (Nat.le_refl _) _
    by_cases h2 : s.size ≤ 8192
    · have e2 : Hid (((s[0].toNat : Int) != 0) = (s[0] != 0)) := by
        show _ = _
        by_cases hz : s[0] = 0
        · simp [hz]
        · have : s[0].toNat ≠ 0 := fun h => hz (UInt8.toNat_inj.1 h)
          have h3 : ((s[0].toNat : Int) != 0) = true := by simp; omega
          rw [h3]; symm; simpa using hz
      have hd : Hid (decide (s.size ≤ 8192) = true) := decide_eq_true h2
      go_enter Tryz.func61, Tryz.ntmps61
      go_wp2
      go_ret
      exact ⟨by rw [E.out, hd.out, Bool.true_and, ← e2.out]; rfl, hb.out⟩
    · have hd : Hid (decide (s.size ≤ 8192) = false) := decide_eq_false h2
      go_enter Tryz.func61, Tryz.ntmps61
      go_wp2
      go_ret
      exact ⟨by rw [E.out, hd.out, Bool.false_and]; rfl, hb.out⟩

theorem vld_can {a : Bool} {s : ByteArray} (h : vld a s = true) : Can s := by
  intro h0
  unfold vld at h
  rw [dif_pos h0] at h
  simp at h
  exact h.2
theorem vld_size {a : Bool} {s : ByteArray} (h : vld a s = true) : s.size ≤ 8192 := by
  unfold vld at h
  split at h
  · simp at h; exact h.1
  · omega

/-- The bits of a magnitude in bytes. -/
def lenB (s : ByteArray) : Int := if h : 0 < s.size then 8 * ((s.size : Int) - 1) + (Lib.bitLen s[0].toNat : Nat) else 0
def lenV (a : Bool) (s : ByteArray) : Int := if vld a s = true then lenB s else 0

theorem empty_of {s : ByteArray} (h0 : s.size = 0) : s = ⟨#[]⟩ := by
  have : s.data = #[] := Array.eq_empty_of_size_eq_zero h0
  cases s; simp_all

theorem bitsOf_any (s : ByteArray) (w : World) (hm : s.size ≤ 1000000000) : Calls Tryz.prog 126 #[.string s] w fun e w' => e = .returned (.int .i64 (lenB s)) ∧ w = w' := by
  rcases Nat.eq_zero_or_pos s.size with h0 | h0
  · rw [empty_of h0]; exact bitsOf_empty w
  · rw [lenB, dif_pos h0]; exact bitsOf_some s w h0 hm

set_option maxHeartbeats 400000 in
theorem Len_any (a : Bool) (s : ByteArray) (w : World) (hs : s.size ≤ 140737488351232) :
    Calls Tryz.prog 58 #[.agg #[.bool a, .string s]] w (IPost (lenV a s) w) := by
  have HV := Lib.hid (Valid_any a s)
  cases hv : vld a s with
  | false =>
    have E : Hid (lenV a s = 0) := by show _ = _; rw [lenV, hv]; rfl
    rw [hv] at HV
    clear hv
    go_enter Tryz.func58, Tryz.ntmps58
    go_wp2_with fail
    refine (HV.out _ hs).mono ?_
    rintro e w' ⟨rfl, hb⟩
    have HB := Lib.hid (chain ((Below.refl w.heap.size w).alloc (Nat.le_refl _) _) hb)
    clear hb
    go_wp2
    go_ret
    exact ⟨by rw [E.out]; rfl, HB.out⟩
  | true =>
    have E : Hid (lenV a s = lenB s) := by show _ = _; rw [lenV, hv]; rfl
    rw [hv] at HV
    have hz := vld_size hv
    have k1 : (w.alloc (.cells #[.bool a, .string s] 23)).cell? ⟨w.heap.size, 1, none⟩ = some (.string s) := by simp [go_sem]
    have K1 := Lib.hid k1
    clear hv k1
    go_enter Tryz.func58, Tryz.ntmps58
    go_wp2_with fail
    refine (HV.out _ hs).mono ?_
    rintro e w' ⟨rfl, hb⟩
    have q1 := keep1 hb K1.out
    have HB := Lib.hid (chain ((Below.refl w.heap.size w).alloc (Nat.le_refl _) _) hb)
    clear hb
    go_wp2_with fail
    refine (bitsOf_any s _ (by omega)).mono ?_
    rintro e w2 ⟨rfl, rfl⟩
    go_wp2
    go_ret
    exact ⟨by rw [E.out]; rfl, HB.out⟩
end Go.Proofs.YtlmklhffafcmmaaGreat

/- The reference's sign and negative of an integer. -/
namespace Go.Proofs.YtlmklhffafcmmaaGreat
open Go.RowKit

/-- A store into a cell that holds no digit leaves the digits. -/
theorem Ri.set {w : World} {p : Addr} {u old v : Value} {xs : List Nat} (h : Ri w v xs) (hp : w.cell? p = some old) (hno : ∀ n, old ≠ .int .i64 n) : Ri (w.setCell p u) v xs := by
  obtain ⟨q, b, off, cap, h1, h2, h3, h4, h5, h6⟩ := h
  refine ⟨q, b, off, cap, h1, h2, h3, h4, h5.imp id (fun g => ⟨g.1, by simpa [World.setCell] using g.2⟩), fun k hk => ?_⟩
  rw [World.cell?_setCell_other]
  · exact h6 k hk
  · intro e
    rw [e, h6 k hk] at hp
    exact hno _ (Option.some.inj hp).symm
/-- The two stores of a result leave the digits of what is stored. -/
theorem Ri.set2 {w : World} {b : Nat} {u1 u2 old1 v : Value} {c : Bool} {xs : List Nat} (h : Ri w v xs) (h1 : w.cell? ⟨b, 0, none⟩ = some (.bool c)) (h2 : w.cell? ⟨b, 1, none⟩ = some old1) (hno : ∀ n, old1 ≠ .int .i64 n) :
    Ri ((w.setCell ⟨b, 0, none⟩ u1).setCell ⟨b, 1, none⟩ u2) v xs :=
  (h.set h1 (fun _ => by simp)).set (old := old1) ((World.cell?_setCell_other w ⟨b, 0, none⟩ ⟨b, 1, none⟩ u1 (by simp)).trans h2) hno

def sgnI (b : Bool) (m : Nat) : Int := if m = 0 then 0 else if b = true then -1 else 1
def SignPost (c : Int) (w : World) (e : Ending) (w' : World) : Prop := e = .returned (.int .i64 c) ∧ Below w.heap.size w w'

set_option maxRecDepth 100000 in
set_option maxHeartbeats 1000000 in
theorem rsign_any (b : Bool) (v : Value) (m : Nat) (w : World) (h : Ri w v (Nm.dg D9 m)) :
    Calls Tryz.prog 19 #[.agg #[.bool b, v]] w (SignPost (sgnI b m) w) := by
  obtain ⟨p, b1, o1, c1, rfl, hr⟩ := h
  clear hr
  have E := Lib.hid (dg9_len (m := m))
  have HB := fun o => Lib.hid (below_new w o)
  by_cases h0 : m = 0
  · have hz : sgnI b m = 0 := by simp [sgnI, h0]
    have hl : (((Nm.dg D9 m).length : Int) == 0) = true := by rw [h0, Nm.dg_zero]; rfl
    rw [hz]
    clear hz h0
    go_enter Tryz.func19, Tryz.ntmps19
    go_wp2
    go_ret
    exact ⟨rfl, (HB _).out⟩
  · have hl : (((Nm.dg D9 m).length : Int) == 0) = false := by have h5 := E.out.2 h0; simp; intro e; rw [e] at h5; simp at h5
    cases b with
    | false =>
      have hz : sgnI false m = 1 := by simp [sgnI, h0]
      rw [hz]
      clear hz h0
      go_enter Tryz.func19, Tryz.ntmps19
      go_wp2
      go_ret
      exact ⟨rfl, (HB _).out⟩
    | true =>
      have hz : sgnI true m = -1 := by simp [sgnI, h0]
      rw [hz]
      clear hz h0
      go_enter Tryz.func19, Tryz.ntmps19
      go_wp2
      go_ret
      exact ⟨rfl, (HB _).out⟩

set_option maxRecDepth 100000 in
set_option maxHeartbeats 1000000 in
theorem rneg_any (b : Bool) (v : Value) (m : Nat) (w : World) (h : Ri w v (Nm.dg D9 m)) :
    Calls Tryz.prog 67 #[.agg #[.bool b, v]] w (MadeI (!b && m != 0) m w) := by
  have HR := Lib.hid h
  obtain ⟨p, b1, o1, c1, rfl, hr⟩ := h
  clear hr
  obtain ⟨vv, hvv⟩ : ∃ vv, vv = Value.slice p (Nm.dg D9 m).length c1 := ⟨_, rfl⟩
  obtain ⟨w0, hw0⟩ : ∃ w0 : World, w0 = (w.alloc (.cells #[.bool b, .slice p (Nm.dg D9 m).length c1] 38)).alloc (.cells #[.bool false, .slice none 0 0] 38) := ⟨_, rfl⟩
  have hb0 : Hid (Below w.heap.size w w0) := by rw [hw0]; exact ((Below.refl _ _).alloc (Nat.le_refl _) _).alloc (by simp) _
  have k4 : w0.cell? ⟨w.heap.size + 1, 0, none⟩ = some (.bool false) := by rw [hw0]; simp [go_sem]
  have k5 : w0.cell? ⟨w.heap.size + 1, 1, none⟩ = some (.slice none 0 0) := by rw [hw0]; simp [go_sem]
  have k6 : w0.frozen? ⟨w.heap.size + 1, 0, none⟩ = false := by rw [hw0]; simp [go_sem]
  have k7 : w0.frozen? ⟨w.heap.size + 1, 1, none⟩ = false := by rw [hw0]; simp [go_sem]
  have HM := Lib.hid (rmade_any (!b) _ m w0 (HR.out.below hb0.out (Nat.le_refl _)))
  have KK := Lib.hid (And.intro k4 (And.intro k5 (And.intro k6 k7)))
  have Hw0 := Lib.hid hw0
  clear k4 k5 k6 k7 hw0 hvv
  go_enter Tryz.func67, Tryz.ntmps67
  go_wp2_with fail
  rw [← Hw0.out]
  refine HM.out.mono ?_
  rintro e wa ⟨v2, rfl, h5, b5⟩
  have H5 := Lib.hid h5
  obtain ⟨p2, b2, o2, c2, rfl, hr⟩ := h5
  clear hr
  have q4 := keep1 b5 KK.out.1
  have q5 := keep1 b5 KK.out.2.1
  have q6 := keepf b5 KK.out.1 KK.out.2.2.1
  have q7 := keepf b5 KK.out.2.1 KK.out.2.2.2
  have HZ := Lib.hid (link hb0.out b5)
  clear b5
  go_wp2
  exact bodyPost_ret (v := .agg #[.bool (!b && m != 0), .slice p2 (Nm.dg D9 m).length c2]) (by simp [results, Tryz.results67, go_sem, q4, q5]) rfl ⟨_, rfl, H5.out.set2 q4 q5 (fun _ => by simp), (HZ.out.setCell (p := ⟨w.heap.size + 1, 0, none⟩) (by simp) _).setCell (p := ⟨w.heap.size + 1, 1, none⟩) (by simp) _⟩
end Go.Proofs.YtlmklhffafcmmaaGreat

/- The reference's product of two integers. -/
namespace Go.Proofs.YtlmklhffafcmmaaGreat
open Go.RowKit

set_option maxRecDepth 100000 in
set_option maxHeartbeats 2000000 in
theorem rmul_any (a b : Bool) (v1 v2 : Value) (m n : Nat) (w : World) (h1 : Ri w v1 (Nm.dg D9 m)) (h2 : Ri w v2 (Nm.dg D9 n)) (l1 : (Nm.dg D9 m).length ≤ 1000000) (l2 : (Nm.dg D9 n).length ≤ 1000000) :
    Calls Tryz.prog 74 #[.agg #[.bool a, v1], .agg #[.bool b, v2]] w (MadeI ((!a == b) && m * n != 0) (m * n) w) := by
  have H1 := Lib.hid h1
  have H2 := Lib.hid h2
  obtain ⟨pa, ba, oa, ca, rfl, hr1⟩ := h1
  obtain ⟨pb, bb, ob, cb, rfl, hr2⟩ := h2
  clear hr1 hr2
  have HT0 := Lib.hid (fun v1 v2 w' h1 h2 => rtimes_any v1 v2 m n w' h1 h2 l1 l2)
  clear l1 l2
  generalize (Nm.dg D9 m).length = ma at *
  generalize (Nm.dg D9 n).length = na at *
  obtain ⟨w0, hw0⟩ : ∃ w0 : World, w0 = ((w.alloc (.cells #[.bool a, .slice pa ma ca] 38)).alloc (.cells #[.bool b, .slice pb na cb] 38)).alloc (.cells #[.bool false, .slice none 0 0] 38) := ⟨_, rfl⟩
  have hb0 : Hid (Below w.heap.size w w0) := by rw [hw0]; exact (((Below.refl _ _).alloc (Nat.le_refl _) _).alloc (by simp) _).alloc (by simp; omega) _
  have k0 : w0.cell? ⟨w.heap.size, 0, none⟩ = some (.bool a) := by rw [hw0]; simp [go_sem]
  have k1 : w0.cell? ⟨w.heap.size, 1, none⟩ = some (.slice pa ma ca) := by rw [hw0]; simp [go_sem]
  have k2 : w0.cell? ⟨w.heap.size + 1, 0, none⟩ = some (.bool b) := by rw [hw0]; simp [go_sem]
  have k3 : w0.cell? ⟨w.heap.size + 1, 1, none⟩ = some (.slice pb na cb) := by rw [hw0]; simp [go_sem]
  have k4 : w0.cell? ⟨w.heap.size + 1 + 1, 0, none⟩ = some (.bool false) := by rw [hw0]; simp [go_sem]
  have k5 : w0.cell? ⟨w.heap.size + 1 + 1, 1, none⟩ = some (.slice none 0 0) := by rw [hw0]; simp [go_sem]
  have k6 : w0.frozen? ⟨w.heap.size + 1 + 1, 0, none⟩ = false := by rw [hw0]; simp [go_sem]
  have k7 : w0.frozen? ⟨w.heap.size + 1 + 1, 1, none⟩ = false := by rw [hw0]; simp [go_sem]
  have HTm := Lib.hid (fun w' (hb : Below w0.heap.size w0 w') => HT0.out _ _ w' (H1.out.below (chain hb0.out hb) (Nat.le_refl _)) (H2.out.below (chain hb0.out hb) (Nat.le_refl _)))
  have HMd := Lib.hid (fun v w h => rmade_any (!a == b) v (m * n) w h)
  have Hw0 := Lib.hid hw0
  have n1 : ¬ (w.heap.size = w.heap.size + 1 + 1) := by omega
  have n2 : ¬ (w.heap.size + 1 + 1 = w.heap.size) := by omega
  clear hw0
  go_enter Tryz.func74, Tryz.ntmps74
  go_wp2_with fail
  rw [← Hw0.out]
  go_region_held3 (fun W' => W'.cell? ⟨w.heap.size, 0, none⟩ = some (.bool a) ∧ W'.cell? ⟨w.heap.size, 1, none⟩ = some (.slice pa ma ca) ∧ W'.cell? ⟨w.heap.size + 1, 0, none⟩ = some (.bool b) ∧ W'.cell? ⟨w.heap.size + 1, 1, none⟩ = some (.slice pb na cb)) (go_keep)
    (first
      | (go_at_call 129; (with_reducible refine (HTm.out _ ((Below.refl _ _).drew)).mono ?_); rintro e w1 ⟨vt, rfl, r1, b1⟩; have c1 := chain ((Below.refl _ _).drew) b1; have p0 := keep1 c1 k0; have p1 := keep1 c1 k1; have p2 := keep1 c1 k2; have p3 := keep1 c1 k3; have G1 := Lib.hid (And.intro r1 c1); clear r1 b1 c1)
      | (go_at_call 68; (with_reducible refine (HMd.out _ _ G1.out.1).mono ?_); rintro e w2 ⟨vm, rfl, r2, b2⟩; have c2 := chain G1.out.2 b2; have p0 := keep1 c2 k0; have p1 := keep1 c2 k1; have p2 := keep1 c2 k2; have p3 := keep1 c2 k3; have p4 := keep1 c2 k4; have p5 := keep1 c2 k5; have p6 := keepf c2 k4 k6; have p7 := keepf c2 k5 k7; have G2 := Lib.hid (And.intro r2 c2); obtain ⟨pm, bm, om, cm, rfl, hrm⟩ := r2; clear hrm b2 c2))
  have HZ := Lib.hid (chain hb0.out G2.out.2)
  go_wp2
  exact bodyPost_ret (v := .agg #[.bool ((!a == b) && m * n != 0), .slice pm (Nm.dg D9 (m * n)).length cm]) (by simp [results, Tryz.results74, go_sem, p4, p5]) rfl ⟨_, rfl, G2.out.1.set2 p4 p5 (fun _ => by simp), (HZ.out.setCell (p := ⟨w.heap.size + 1 + 1, 0, none⟩) (by simp; omega) _).setCell (p := ⟨w.heap.size + 1 + 1, 1, none⟩) (by simp; omega) _⟩
end Go.Proofs.YtlmklhffafcmmaaGreat
