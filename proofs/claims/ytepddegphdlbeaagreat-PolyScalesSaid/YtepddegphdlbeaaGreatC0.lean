/- What the theorem leans on, part C0. -/
import Derived.Test.YtepddegphdlbeaaGreatG5
import Derived.Test.YtepddegphdlbeaaGreatG4
import Derived.Test.YtepddegphdlbeaaGreatG2
import Derived.Test.YtepddegphdlbeaaGreatG1
import Derived.Test.YtepddegphdlbeaaGreatG0
import Derived.Test.YtepddegphdlbeaaGreatProg
import Derived.WalkKit
import Derived.WalkSpells
import Derived.WalkLawsBesides
import Derived.Lib.Hide
import Derived.Deep.QuietTactic
import Derived.BigQuiet
import Derived.Shelf.Small.Bits
import Derived.Shelf.Small.Wraps
import Derived.Shelf.Strconv.Itoa0
import Derived.Shelf.Bits.Mul64
import Derived.Ground.Names2Prog
import Derived.Shelf.Slices.SearchI
import Derived.Shelf.Spec.BitsCarry
import Derived.Deep.LoopGhost
import Derived.Deep.RegionHeld3
import Derived.Laws.AppendOwnNone
import Derived.Test.YtepddegphdlbeaaGreatG6
import Derived.Test.YtepddegphdlbeaaGreatG3
import Derived.Deep.DeepCutAuto
set_option maxRecDepth 100000
set_option maxHeartbeats 16000000
set_option linter.all false
namespace Go.Proofs.YtepddegphdlbeaaGreat
open Go.RowKit
theorem k'6m (v1 v2 : Value) (m n : Nat) (w : World) (h1 : Ri w v1 (Nm.dg D9 m)) (h2 : Ri w v2 (Nm.dg D9 n)) (l1 : (Nm.dg D9 m).length ≤ 1000000) (l2 : (Nm.dg D9 n).length ≤ 1000000) :
 Calls Tryz.prog 124 #[v1, v2] w (GivesI (m * n) w) := by
 have h := k'6l v1 v2 _ _ w h1 h2 l1 l2 (Nm.dig_dg D92 m) (Nm.dig_dg D92 n)
 rwa [Nm.val_dg D92, Nm.val_dg D92] at h
theorem k'6s {x R : Nat} (hx : x < D9) : Nm.trimL (x :: Nm.dg D9 R) = Nm.dg D9 (x + D9 * R) := by
 rw [Nm.trimL_dg D92 (Nm.dig_cons.2 ⟨hx, Nm.dig_dg D92 R⟩), Nm.val_cons, Nm.val_dg D92]
theorem k'6t {x n : Nat} (h : x < D9 * n) : (Nm.dg D9 x).length ≤ (Nm.dg D9 n).length + 1 := by
 refine Nm.len_le_of_val D92 (Nm.nrm_dg D92 x) ?_
 rw [Nm.val_dg D92, Nat.pow_succ, Nat.mul_comm]
 have h1 := Nm.val_lt (Nm.dig_dg D92 n)
 rw [Nm.val_dg D92] at h1
 exact Nat.lt_of_lt_of_le h (Nat.mul_le_mul_left _ (Nat.le_of_lt h1))
theorem k'6u {n R a b : Nat} (hn : 0 < n) (ha : a ≤ R / n) (hb : R / n ≤ b) (hab : a < b) :
 a < (a + b + 1) / 2 ∧ (a + b + 1) / 2 ≤ b ∧ (n * ((a + b + 1) / 2) ≤ R → (a + b + 1) / 2 ≤ R / n) ∧ (¬ n * ((a + b + 1) / 2) ≤ R → R / n ≤ (a + b + 1) / 2 - 1) := by
 refine ⟨by omega, by omega, fun h => by rw [Nat.le_div_iff_mul_le hn, Nat.mul_comm]; exact h, fun h => ?_⟩
 have : ¬ (a + b + 1) / 2 ≤ R / n := fun g => h (by rw [Nat.le_div_iff_mul_le hn, Nat.mul_comm] at g; exact g)
 omega
theorem k'6v (B : Nat) (v : Value) (xs : List Nat) (w : World) (h : RiAt B w v xs) : Calls Tryz.prog 95 #[v] w (TrimAt B xs w) := by
 obtain ⟨p, b, off, cap, rfl, h2, h3, h4, h5, h6⟩ := h
 have hc := h3
 unfold maxLen at hc
 have hl : xs.length ≤ 9223372036854775807 := by omega
 have H4 := i' h4
 have H5 := i' h5
 have H6 := i' h6
 have H23 := i' (And.intro h2 h3)
 clear h2 h3 h4 h5 h6 hc
 go_enter Tryz.func95, Tryz.ntmps95
 go_wp2
 go_loop [0] (fun v => ∃ k : Nat, k ≤ xs.length ∧ v = .slice p k cap ∧ Hid (∀ i (h : i < xs.length), k ≤ i → xs[i] = 0)) (fun v => lenOf v)
 case atStart => exact ⟨xs.length, Nat.le_refl _, rfl, fun i h hi => absurd h (by omega)⟩
 case round =>
  obtain ⟨k, hk, rfl, hz⟩ := hrel
  have htake : ∀ n, n ≤ xs.length → RiAt B w (.slice p n cap) (xs.take n) := by
   intro n hn
   have e : (xs.take n).length = n := by simp; omega
   refine ⟨p, b, off, cap, by rw [e], by have := H23.out.1; omega, H23.out.2, fun hne => H4.out (fun e0 => hne (by rw [e0]; simp)), H5.out, fun j hj => ?_⟩
   rw [e] at hj
   rw [H6.out j (by omega)]; simp
  have HT := i' htake
  clear htake
  rcases Nat.eq_zero_or_pos k with h0 | h0
  ·subst h0
   have e0 : Hid (Nm.trimL xs = xs.take 0) := Nm.trimL_take (Nat.zero_le _) (fun i h _ => hz.out i h (Nat.zero_le _)) trivial
   go_wp2
   go_ret
   exact ⟨_, rfl, by rw [e0.out]; exact HT.out 0 (Nat.zero_le _), rfl⟩
  ·obtain ⟨j, rfl⟩ : ∃ j, k = j + 1 := ⟨k - 1, by omega⟩
   have hj : j < xs.length := by omega
   obtain rfl := H4.out (by intro e; rw [e] at hj; exact absurd hj (Nat.not_lt_zero _))
   have hcell := H6.out j hj
   have hjc : j ≤ cap := by have := H23.out.1; omega
   by_cases hv : xs[j] = 0
   ·have HV := i' hv
    have hvi : ((xs[j] : Int) == 0) = true := by simp [hv]
    clear hv
    go_wp2
    go_round
    case rel =>
     refine ⟨j, by omega, rfl, fun i h hi => ?_⟩
     rcases Nat.lt_or_ge j i with g | g
     ·exact hz.out i h g
     ·obtain rfl : i = j := by omega
      exact HV.out
    case measure => simp [lenOf]
   ·have e0 : Hid (Nm.trimL xs = xs.take (j + 1)) := Nm.trimL_take hk hz.out (Nm.nrm_take_last hj hv)
    have hvi : ((xs[j] : Int) == 0) = false := by simp [hv]
    clear hv
    go_wp2
    go_ret
    exact ⟨_, rfl, by rw [e0.out]; exact HT.out (j + 1) hk, rfl⟩
theorem k'6w {a b : Nat} (h : a ≤ b) : cmpN a b ≤ 0 := by unfold cmpN; split <;> (try split) <;> omega
theorem k'6x {a b : Nat} (h : ¬ a ≤ b) : ¬ cmpN a b ≤ 0 := by rw [k'29 (by omega)]; omega
theorem k'70 (w : World) (x : Nat) : (w.alloc (.cells #[.int .i64 (x : Int)] 3)).ownsRow w.heap.size 3 1 (.slice (some ⟨w.heap.size, 0, none⟩) 1 1) 1 [.int .i64 (x : Int)] :=
 ⟨by simp, .inr ⟨w.heap.size, 1, _, rfl, Nat.le_refl _, heap_alloc_new w _, Nat.le_refl _, by decide, by simp, by simp⟩⟩
theorem k'71 (v1 v2 : Value) (m n : Nat) (w : World) (hn : 0 < n) (h1 : Ri w v1 (Nm.dg D9 m)) (h2 : Ri w v2 (Nm.dg D9 n)) (l1 : (Nm.dg D9 m).length ≤ 100000) (l2 : (Nm.dg D9 n).length ≤ 100000) :
 Calls Tryz.prog 130 #[v1, v2] w (OverPost m n w) := by
 have dx := Nm.dig_dg D92 m
 have HV := i' (Nm.val_dg D92 m)
 rw [← HV.out]
 clear HV
 generalize Nm.dg D9 m = X at *
 obtain ⟨p1, b1, o1, c1, rfl, _, _, hp1, _, g1⟩ := h1
 have hmk := fun w => k'6b X.length w (by omega)
 have H2 := i' h2
 have L2 := i' l2
 have Hp1 := i' hp1
 have G1 := i' g1
 have DX := i' dx
 have HN := i' hn
 have hi3 : (Tryz.prog.info? 3).map (fun i => (i.zero, i.size, i.bytes)) = some (some (.int .i64 0), 1, 8) := by kernel_rfl
 obtain ⟨i0, hi0, hz0, hz1, hz2⟩ := info_parts hi3
 have HI := i' (And.intro hi0 (And.intro hz0 (And.intro hz1 hz2)))
 have HT := i' (fun v xs w h => k'5z v xs w h)
 have HTA := i' (fun B v xs w h => k'6v B v xs w h)
 have HO := i' (fun v1 v2 m n w h1 h2 l1 l2 => k'66 v1 v2 m n w h1 h2 l1 l2)
 clear hi3 hi0 hz0 hz1 hz2 hp1 g1 dx h2 l2 hn
 go_enter Tryz.func130, Tryz.ntmps130
 go_wp2
 clear hmk
 go_loopw [7, 8] (fun rv iv wr => ∃ (k Q R : Nat) (l : List Nat), k ≤ X.length ∧ iv = .int .i64 ((k : Int) - 1) ∧ Hid (OvInv X n k Q R l) ∧ Hid (Ri wr rv (Nm.dg D9 R)) ∧ Hid (Ari wr w.heap.size l) ∧ Hid (Below w.heap.size w wr))
  (fun _ iv _ => (intOf iv + 1).toNat)
 case atStart =>
  exact ⟨X.length, 0, 0, _, Nat.le_refl _, rfl, OvInv.start X HN.out, Ri.nil _, Ari.made w _, (Below.refl _ _).alloc (Nat.le_refl _) _⟩
 case round =>
  rename_i wr _
  obtain ⟨k, Q, R, l, hk, rfl, hinv, hrest, harr, hbl⟩ := hrel
  rcases Nat.eq_zero_or_pos k with h0 | h0
  ·subst h0
   have HE : Hid (Nm.trimL l = Nm.dg D9 (Nm.val D9 X / n) ∧ R = Nm.val D9 X % n) := hinv.out.finish
   have HW := i' (Ri.of_ari harr.out X.length hinv.out.2.2.1 (by unfold maxLen; omega))
   clear hinv
   go_wp2_with (go_at_call 95; (with_reducible refine (HT.out _ _ _ HW.out).mono ?_); rintro e w5 ⟨v5, rfl, h5, rfl⟩)
   go_ret2
   exact ⟨_, _, rfl, by rw [← HE.out.1]; exact h5, by rw [← HE.out.2]; exact hrest.out, hbl.out⟩
  ·obtain ⟨j, rfl⟩ : ∃ j, k = j + 1 := ⟨k - 1, by omega⟩
   have hx : j < X.length := by omega
   obtain rfl := Hp1.out (by intro e; rw [e] at hx; exact absurd hx (Nat.not_lt_zero _))
   have e1 := k'd hbl.out (G1.out j hx)
   have hxd : X[j] < D9 := Nm.dig_get DX.out j hx
   have hst := hinv.out.step hx DX.out
   have hst0 := hinv.out.step0 hx DX.out
   have hRn : R < n := hinv.out.1
   have hll : l.length = X.length := hinv.out.2.2.1
   have HRR : Hid (X[j] + D9 * R < D9 * n) := ov_lt hxd hRn
   have HTL := i' (k'6s (R := R) hxd)
   obtain ⟨x, hxx⟩ : ∃ x, X[j] = x := ⟨_, rfl⟩
   simp only [hxx] at e1 hxd hst hst0 HRR HTL
   obtain ⟨R', hR'⟩ : ∃ R', x + D9 * R = R' := ⟨_, rfl⟩
   rw [hR'] at hst hst0 HRR HTL
   have HRL : Hid ((Nm.dg D9 R').length ≤ 100001) := by have h5 := k'6t HRR.out; have h6 := L2.out; show _ ≤ _; omega
   have HRL0 : Hid ((Nm.dg D9 R).length ≤ 100000) := by
    have h5 := Nm.len_le_of_val D92 (Nm.nrm_dg D92 R) (k := (Nm.dg D9 n).length) (by have h6 := Nm.val_lt (Nm.dig_dg D92 n); rw [Nm.val_dg D92] at h6 ⊢; omega)
    have h6 := L2.out; show _ ≤ _; omega
   have HS := i' hst
   have HS0 := i' hst0
   have HLL := i' hll
   have hbs : Hid (w.heap.size ≤ wr.heap.size) := hbl.out.size
   obtain ⟨pr, br, or, cr, rfl, hr1, hr2, hr3, hr4, hr5⟩ := hrest.out
   have HR5 := i' hr5
   have HR3 := i' hr3
   have HR12 := i' (And.intro hr1 hr2)
   clear hst hst0 hRn hll hinv hr5 hr3 hr1 hr2 hR' hxd hxx hrest
   have e2 : ((j + 1 : Nat) : Int) - 1 = (j : Int) := by omega
   rw [e2]
   have HXB := i' (k'70 wr x)
   have HGW : Hid (w.heap.size < wr.heap.size) := harr.out.lt
   rcases hr4 with ⟨rfl, rfl⟩ | ⟨rfl, hr4, -⟩
   ·have hnil : Hid (Nm.dg D9 R = []) := by
     show _ = _
     cases hd : Nm.dg D9 R with
     | nil => rfl
     | cons a b => have h5 := HR3.out (by rw [hd]; simp); exact absurd h5 (by simp)
    have hr4 := hnil
    have HW1 : Hid (RiAt wr.heap.size (wr.alloc (.cells #[.int .i64 (x : Int)] 3)) (.slice (some ⟨wr.heap.size, 0, none⟩) 1 1) (x :: Nm.dg D9 R)) := by
     show RiAt _ _ _ _
     rw [hnil.out]; exact RiAt.of_own HXB.out
    have HB1 := i' (k'6n wr (.cells #[.int .i64 (x : Int)] 3))
    rw [hnil.out, List.length_nil]
    clear hnil
    go_wp2_with (first | (at_builtin; refine wpList_append_own_none rfl _ _ 24 rfl wr.heap.size 3 i0 1 Tryz.underlying24 HI.out.1 _ _ _ rfl HXB.out rfl ?_) | (go_at_call 95; (with_reducible refine (HTA.out _ _ _ _ HW1.out).mono ?_); rintro e w5 ⟨v5, rfl, h5, rfl⟩))
    rw [HTL.out] at h5
    obtain ⟨w1, hw1⟩ : ∃ w1, w1 = wr.alloc (.cells #[.int .i64 (x : Int)] 3) := ⟨_, rfl⟩
    rw [← hw1] at h5 HB1 HW1 ⊢
    clear hw1
    have HA1 : Hid (Ari w1 w.heap.size l) := harr.out.keep (HB1.out.block _ harr.out.lt)
    have HBB : Hid (Below w.heap.size w w1) := link hbl.out HB1.out
    have HR6 := i' h5
    clear h5 HW1 HB1 harr hbl e1 HXB HTL HR5 HR3 HR12 HRL0 hr4
    have H2w : Hid (Ri w1 v2 (Nm.dg D9 n)) := H2.out.below HBB.out (Nat.le_refl _)
    have HO1 := i' (HO.out v5 v2 R' n w1 HR6.out.ri H2w.out (by have h6 := HRL.out; omega) (by have h6 := L2.out; omega))
    by_cases hlt : R' < n
    ·obtain ⟨cc, hcc⟩ : ∃ cc, cmpN R' n = cc := ⟨_, rfl⟩
     have hc := k'6z hlt
     rw [hcc] at hc HO1
     have HF := i' (HS0.out hlt)
     clear hcc hlt
     go_wp2_with (go_at_call 122; (with_reducible refine HO1.out.mono ?_); rintro e w6 ⟨rfl, nq, rfl⟩)
     go_roundw
     case rel => exact ⟨j, _, R', l, by omega, by go_num, HF, HR6.out.ri.drewN _, HA1.out.drewN _, below_drew' HBB.out _⟩
     case measure => simp [intOf]
    ·obtain ⟨cc, hcc⟩ : ∃ cc, cmpN R' n = cc := ⟨_, rfl⟩
     have hc := k'6y (Nat.le_of_not_lt hlt)
     rw [hcc] at hc HO1
     clear hcc hlt HS0
     go_wp2_with (go_at_call 122; (with_reducible refine HO1.out.mono ?_); rintro e w6 ⟨rfl, nq, rfl⟩)
     have HR7 : Hid (RiAt wr.heap.size (w1.drewN nq) v5 (Nm.dg D9 R')) := HR6.out.below (below_drew' (Below.refl w1.heap.size w1) nq) (Nat.le_refl _)
     have HA2 : Hid (Ari (w1.drewN nq) w.heap.size l) := HA1.out.drewN nq
     have HB2 : Hid (Below w.heap.size w (w1.drewN nq)) := below_drew' HBB.out nq
     have H2x : Hid (Ri (w1.drewN nq) v2 (Nm.dg D9 n)) := H2w.out.drewN nq
     have HT9 : Hid (R' / n ≤ 999999999) := by
      have h5 : R' / n < D9 := by rw [Nat.div_lt_iff_lt_mul HN.out]; exact HRR.out
      unfold D9 at h5
      show _ ≤ _
      omega
     have hgw : Hid (w.heap.size < wr.heap.size) := HGW.out
     generalize w1.drewN nq = w2 at *
     clear HR6 HA1 HBB H2w HO1 hc
     go_loopw [9, 10] (fun lo hi wq => ∃ (wz : World) (a b : Nat) (ai bi : Int), wz = wq ∧ lo = .int .i64 ai ∧ hi = .int .i64 bi ∧ Hid (ai = (a : Int)) ∧ Hid (bi = (b : Int)) ∧ 0 ≤ ai ∧ ai ≤ bi ∧ bi ≤ 999999999 ∧ Hid (a ≤ R' / n) ∧ Hid (R' / n ≤ b) ∧ Hid (Below w2.heap.size w2 wz))
      (fun lo hi _ => (intOf hi - intOf lo).toNat)
     case atStart => exact ⟨_, 0, 999999999, 0, 999999999, rfl, rfl, rfl, rfl, rfl, by omega, by omega, by omega, Nat.zero_le _, HT9, Below.refl _ _⟩
     case round =>
      obtain ⟨wq, a, b, ai, bi, rfl, rfl, rfl, hai, hbi, ha0, hab, hb9, hta, htb, hbl2⟩ := hrel
      by_cases hlh : ai < bi
      ·obtain ⟨m1, m2, m3, m4⟩ := k'6u HN.out hta.out htb.out (show a < b by have h5 := hai.out; have h6 := hbi.out; omega)
       obtain ⟨mid, hmid⟩ : ∃ mid, (a + b + 1) / 2 = mid := ⟨_, rfl⟩
       rw [hmid] at m1 m2 m3 m4
       obtain ⟨mi, hmi⟩ : ∃ mi : Int, (mid : Int) = mi := ⟨_, rfl⟩
       have hme : (ai + bi + 1) / 2 = mi := by rw [← hmi, ← hmid, hai.out, hbi.out]; omega
       have hm1 : ai < mi := by rw [← hmi, hai.out]; omega
       have hm2 : mi ≤ bi := by rw [← hmi, hbi.out]; omega
       have hm9 : mid < D9 := by unfold D9; omega
       have HSM := k'6o v2 n mid wq hm9 (H2x.out.below hbl2.out (Nat.le_refl _)) (by have h5 := L2.out; omega)
       rw [hmi] at HSM
       have HSM := i' HSM
       have HML : Hid ((Nm.dg D9 (n * mid)).length ≤ 100001) := by
        have h5 := k'6t (show n * mid < D9 * n by rw [Nat.mul_comm]; exact Nat.mul_lt_mul_of_pos_right hm9 HN.out)
        have h6 := L2.out
        show _ ≤ _
        omega
       have HMI := i' hmi
       have HM34 := i' (And.intro m3 m4)
       have HRQ := i' (HR7.out.ri.below hbl2.out (Nat.le_refl _))
       clear hmid hm9 m1 m2 m3 m4 hmi
       obtain ⟨cc, hcc⟩ : ∃ cc, cmpN (n * mid) R' = cc := ⟨_, rfl⟩
       have HOm := i' (fun v w h1 h2 => HO.out v v5 (n * mid) R' w h1 h2 (by have h6 := HML.out; omega) (by have h6 := HRL.out; omega))
       simp only [hcc] at HOm
       by_cases hle : n * mid ≤ R'
       ·have hc : cc ≤ 0 := by rw [← hcc]; exact k'6w hle
        have HF := i' (HM34.out.1 hle)
        clear hcc hle HM34
        go_wp2_with (first | (go_at_call 94; (with_reducible refine HSM.out.mono ?_); rintro e w3 ⟨v3, rfl, h3, b3⟩; have HR8 := i' (And.intro h3 b3); clear h3 b3) | (go_at_call 122; (with_reducible refine (HOm.out _ _ HR8.out.1 (HRQ.out.below HR8.out.2 (Nat.le_refl _))).mono ?_); rintro e w4 ⟨rfl, nq2, rfl⟩))
        go_roundw
        case rel => exact ⟨_, mid, b, mi, bi, rfl, by first | rfl | rw [hme], rfl, HMI.out.symm, hbi, by omega, by omega, hb9, HF, htb, below_drew' (link hbl2.out HR8.out.2) _⟩
        case measure => simp [intOf, hme]; omega
       ·have hc : ¬ cc ≤ 0 := by rw [← hcc]; exact k'6x hle
        have HF := i' (HM34.out.2 hle)
        clear hcc hle HM34
        go_wp2_with (first | (go_at_call 94; (with_reducible refine HSM.out.mono ?_); rintro e w3 ⟨v3, rfl, h3, b3⟩; have HR8 := i' (And.intro h3 b3); clear h3 b3) | (go_at_call 122; (with_reducible refine (HOm.out _ _ HR8.out.1 (HRQ.out.below HR8.out.2 (Nat.le_refl _))).mono ?_); rintro e w4 ⟨rfl, nq2, rfl⟩))
        go_roundw
        case rel => exact ⟨_, a, mid - 1, ai, mi - 1, rfl, rfl, by first | rfl | rw [hme], hai, by have h5 := HMI.out; have h6 := hai.out; show _ = _; omega, ha0, by omega, by omega, hta, HF, below_drew' (link hbl2.out HR8.out.2) _⟩
        case measure => simp [intOf, hme]; omega
      ·have hae : a = R' / n := by have h5 := hai.out; have h6 := hbi.out; have h7 := hta.out; have h8 := htb.out; omega
       have hjl : j < l.length := by rw [HLL.out]; exact hx
       have HA3 := HA2.out.keep (hbl2.out.block _ HA2.out.lt)
       obtain ⟨ov, e3⟩ := HA3.has j hjl
       have e4 := HA3.free j
       have HA4 := HA3.set j a
       rw [← hai.out] at HA4
       have HA4 := i' HA4
       have HB4 : Hid (Below w.heap.size w (wq.setCell ⟨w.heap.size, j, none⟩ (.int .i64 ai))) := (link HB2.out hbl2.out).setCell (p := ⟨w.heap.size, j, none⟩) (Nat.le_refl _) _
       have H24 : Hid (Ri (wq.setCell ⟨w.heap.size, j, none⟩ (.int .i64 ai)) v2 (Nm.dg D9 n)) := H2.out.below HB4.out (Nat.le_refl _)
       have HR9 : Hid (Ri (wq.setCell ⟨w.heap.size, j, none⟩ (.int .i64 ai)) v5 (Nm.dg D9 R')) := ((HR7.out.below hbl2.out (Nat.le_refl _)).set hgw.out).ri
       have hsz := Nat.lt_of_lt_of_le HA2.out.lt hbl2.out.size
       have Hsz := i' hsz
       generalize hw4 : wq.setCell ⟨w.heap.size, j, none⟩ (.int .i64 ai) = w4 at *
       have hk9 : a < D9 := by unfold D9; have h5 := hai.out; omega
       have HSM := k'6o v2 n a w4 hk9 H24.out (by have h5 := L2.out; omega)
       rw [← hai.out] at HSM
       have HSM := i' HSM
       have HML : Hid ((Nm.dg D9 (n * a)).length ≤ 100001) := by
        have h5 := k'6t (show n * a < D9 * n by rw [Nat.mul_comm]; exact Nat.mul_lt_mul_of_pos_right hk9 HN.out)
        have h6 := L2.out
        show _ ≤ _
        omega
       have hle : n * a ≤ R' := by rw [hae, Nat.mul_comm]; exact Nat.div_mul_le_self _ _
       have HMm := i' (fun v w h1 h2 => k'69 v5 v R' (n * a) w hle h1 h2 (by have h6 := HRL.out; omega) (by have h6 := HML.out; omega))
       have hmm : R' - n * a = R' % n := by rw [hae]; have h5 := Nat.div_add_mod R' n; omega
       rw [hmm] at HMm
       have hsF := HS.out
       rw [← hae] at hsF
       have HF := i' hsF
       have Hw4 := i' hw4
       clear hae hle hmm hk9 hjl hw4 hsz hsF HA3
       go_wp2_with (first | (go_at_call 94; (with_reducible rw [Hw4.out]); (with_reducible refine HSM.out.mono ?_); rintro e w6 ⟨v3, rfl, h3, b3⟩; have HR8 := i' (And.intro h3 b3); clear h3 b3) | (go_at_call 123; (with_reducible refine (HMm.out _ _ (HR9.out.below HR8.out.2 (Nat.le_refl _)) HR8.out.1).mono ?_); rintro e w7 ⟨v7, rfl, h7, b7⟩; have HR10 := i' (And.intro h7 b7); clear h7 b7))
       go_roundw
       case rel => exact ⟨j, _, _, _, by omega, by go_num, HF, HR10.out.1, (HA4.out.keep (HR8.out.2.block _ HA4.out.lt)).keep (HR10.out.2.block _ (Nat.lt_of_lt_of_le HA4.out.lt HR8.out.2.size)), link (link HB4.out HR8.out.2) HR10.out.2⟩
       case measure => simp [intOf]
   ·go_wp2_with (at_builtin; refine wpList_append_own _ rfl _ _ 24 rfl wr.heap.size 3 i0 (.int .i64 0) 1 8 Tryz.underlying24 HI.out.1 HI.out.2.1 HI.out.2.2.1 HI.out.2.2.2 rfl (by decide) _ _ _ rfl HXB.out ⟨br, or, none⟩ (Nm.dg D9 R).length cr (iv (Nm.dg D9 R)) rfl (by rw [k'5w, Nat.mul_one]) ?c1 ?c2 ?c3 ?c4 ?c5 ?_)
    case c1 =>
     intro i u hi
     have hi2 : i < (Nm.dg D9 R).length := by
      rcases Nat.lt_or_ge i (Nm.dg D9 R).length with g | g
      ·exact g
      ·rw [List.getElem?_eq_none (by rw [k'5w]; exact g)] at hi; simp at hi
     rw [k'5x _ i hi2] at hi
     obtain rfl := Option.some.inj hi
     exact HR5.out i hi2
    case c2 =>
     intro u hu
     obtain ⟨d, _, rfl⟩ := List.mem_map.1 hu
     rfl
    case c3 => have h6 := HRL0.out; unfold maxLen; omega
    case c4 => have h6 := HRL0.out; omega
    intro v' w1 hown1 hgrow1 _
    have HB1 : Hid (Below wr.heap.size wr w1) := (k'6n wr _).grown hgrow1 (by simp) (fun q hq => (HXB.out.lt q hq).1)
    have HW1 : Hid (RiAt wr.heap.size w1 v' (x :: Nm.dg D9 R)) := by
     refine RiAt.of_own (B := wr.heap.size) ?_
     rw [List.length_cons, Nat.add_comm]
     exact hown1
    clear hown1 hgrow1
    go_wp2_with (go_at_call 95; (with_reducible refine (HTA.out _ _ _ _ HW1.out).mono ?_); rintro e w5 ⟨v5, rfl, h5, rfl⟩)
    rw [HTL.out] at h5
    have HA1 : Hid (Ari w1 w.heap.size l) := harr.out.keep (HB1.out.block _ harr.out.lt)
    have HBB : Hid (Below w.heap.size w w1) := link hbl.out HB1.out
    have HR6 := i' h5
    clear h5 HW1 HB1 harr hbl e1 HXB HTL HR5 HR3 HR12 HRL0 hr4
    have H2w : Hid (Ri w1 v2 (Nm.dg D9 n)) := H2.out.below HBB.out (Nat.le_refl _)
    have HO1 := i' (HO.out v5 v2 R' n w1 HR6.out.ri H2w.out (by have h6 := HRL.out; omega) (by have h6 := L2.out; omega))
    by_cases hlt : R' < n
    ·obtain ⟨cc, hcc⟩ : ∃ cc, cmpN R' n = cc := ⟨_, rfl⟩
     have hc := k'6z hlt
     rw [hcc] at hc HO1
     have HF := i' (HS0.out hlt)
     clear hcc hlt
     go_wp2_with (go_at_call 122; (with_reducible refine HO1.out.mono ?_); rintro e w6 ⟨rfl, nq, rfl⟩)
     go_roundw
     case rel => exact ⟨j, _, R', l, by omega, by go_num, HF, HR6.out.ri.drewN _, HA1.out.drewN _, below_drew' HBB.out _⟩
     case measure => simp [intOf]
    ·obtain ⟨cc, hcc⟩ : ∃ cc, cmpN R' n = cc := ⟨_, rfl⟩
     have hc := k'6y (Nat.le_of_not_lt hlt)
     rw [hcc] at hc HO1
     clear hcc hlt HS0
     go_wp2_with (go_at_call 122; (with_reducible refine HO1.out.mono ?_); rintro e w6 ⟨rfl, nq, rfl⟩)
     have HR7 : Hid (RiAt wr.heap.size (w1.drewN nq) v5 (Nm.dg D9 R')) := HR6.out.below (below_drew' (Below.refl w1.heap.size w1) nq) (Nat.le_refl _)
     have HA2 : Hid (Ari (w1.drewN nq) w.heap.size l) := HA1.out.drewN nq
     have HB2 : Hid (Below w.heap.size w (w1.drewN nq)) := below_drew' HBB.out nq
     have H2x : Hid (Ri (w1.drewN nq) v2 (Nm.dg D9 n)) := H2w.out.drewN nq
     have HT9 : Hid (R' / n ≤ 999999999) := by
      have h5 : R' / n < D9 := by rw [Nat.div_lt_iff_lt_mul HN.out]; exact HRR.out
      unfold D9 at h5
      show _ ≤ _
      omega
     have hgw : Hid (w.heap.size < wr.heap.size) := HGW.out
     generalize w1.drewN nq = w2 at *
     clear HR6 HA1 HBB H2w HO1 hc
     go_loopw [9, 10] (fun lo hi wq => ∃ (wz : World) (a b : Nat) (ai bi : Int), wz = wq ∧ lo = .int .i64 ai ∧ hi = .int .i64 bi ∧ Hid (ai = (a : Int)) ∧ Hid (bi = (b : Int)) ∧ 0 ≤ ai ∧ ai ≤ bi ∧ bi ≤ 999999999 ∧ Hid (a ≤ R' / n) ∧ Hid (R' / n ≤ b) ∧ Hid (Below w2.heap.size w2 wz))
      (fun lo hi _ => (intOf hi - intOf lo).toNat)
     case atStart => exact ⟨_, 0, 999999999, 0, 999999999, rfl, rfl, rfl, rfl, rfl, by omega, by omega, by omega, Nat.zero_le _, HT9, Below.refl _ _⟩
     case round =>
      obtain ⟨wq, a, b, ai, bi, rfl, rfl, rfl, hai, hbi, ha0, hab, hb9, hta, htb, hbl2⟩ := hrel
      by_cases hlh : ai < bi
      ·obtain ⟨m1, m2, m3, m4⟩ := k'6u HN.out hta.out htb.out (show a < b by have h5 := hai.out; have h6 := hbi.out; omega)
       obtain ⟨mid, hmid⟩ : ∃ mid, (a + b + 1) / 2 = mid := ⟨_, rfl⟩
       rw [hmid] at m1 m2 m3 m4
       obtain ⟨mi, hmi⟩ : ∃ mi : Int, (mid : Int) = mi := ⟨_, rfl⟩
       have hme : (ai + bi + 1) / 2 = mi := by rw [← hmi, ← hmid, hai.out, hbi.out]; omega
       have hm1 : ai < mi := by rw [← hmi, hai.out]; omega
       have hm2 : mi ≤ bi := by rw [← hmi, hbi.out]; omega
       have hm9 : mid < D9 := by unfold D9; omega
       have HSM := k'6o v2 n mid wq hm9 (H2x.out.below hbl2.out (Nat.le_refl _)) (by have h5 := L2.out; omega)
       rw [hmi] at HSM
       have HSM := i' HSM
       have HML : Hid ((Nm.dg D9 (n * mid)).length ≤ 100001) := by
        have h5 := k'6t (show n * mid < D9 * n by rw [Nat.mul_comm]; exact Nat.mul_lt_mul_of_pos_right hm9 HN.out)
        have h6 := L2.out
        show _ ≤ _
        omega
       have HMI := i' hmi
       have HM34 := i' (And.intro m3 m4)
       have HRQ := i' (HR7.out.ri.below hbl2.out (Nat.le_refl _))
       clear hmid hm9 m1 m2 m3 m4 hmi
       obtain ⟨cc, hcc⟩ : ∃ cc, cmpN (n * mid) R' = cc := ⟨_, rfl⟩
       have HOm := i' (fun v w h1 h2 => HO.out v v5 (n * mid) R' w h1 h2 (by have h6 := HML.out; omega) (by have h6 := HRL.out; omega))
       simp only [hcc] at HOm
       by_cases hle : n * mid ≤ R'
       ·have hc : cc ≤ 0 := by rw [← hcc]; exact k'6w hle
        have HF := i' (HM34.out.1 hle)
        clear hcc hle HM34
        go_wp2_with (first | (go_at_call 94; (with_reducible refine HSM.out.mono ?_); rintro e w3 ⟨v3, rfl, h3, b3⟩; have HR8 := i' (And.intro h3 b3); clear h3 b3) | (go_at_call 122; (with_reducible refine (HOm.out _ _ HR8.out.1 (HRQ.out.below HR8.out.2 (Nat.le_refl _))).mono ?_); rintro e w4 ⟨rfl, nq2, rfl⟩))
        go_roundw
        case rel => exact ⟨_, mid, b, mi, bi, rfl, by first | rfl | rw [hme], rfl, HMI.out.symm, hbi, by omega, by omega, hb9, HF, htb, below_drew' (link hbl2.out HR8.out.2) _⟩
        case measure => simp [intOf, hme]; omega
       ·have hc : ¬ cc ≤ 0 := by rw [← hcc]; exact k'6x hle
        have HF := i' (HM34.out.2 hle)
        clear hcc hle HM34
        go_wp2_with (first | (go_at_call 94; (with_reducible refine HSM.out.mono ?_); rintro e w3 ⟨v3, rfl, h3, b3⟩; have HR8 := i' (And.intro h3 b3); clear h3 b3) | (go_at_call 122; (with_reducible refine (HOm.out _ _ HR8.out.1 (HRQ.out.below HR8.out.2 (Nat.le_refl _))).mono ?_); rintro e w4 ⟨rfl, nq2, rfl⟩))
        go_roundw
        case rel => exact ⟨_, a, mid - 1, ai, mi - 1, rfl, rfl, by first | rfl | rw [hme], hai, by have h5 := HMI.out; have h6 := hai.out; show _ = _; omega, ha0, by omega, by omega, hta, HF, below_drew' (link hbl2.out HR8.out.2) _⟩
        case measure => simp [intOf, hme]; omega
      ·have hae : a = R' / n := by have h5 := hai.out; have h6 := hbi.out; have h7 := hta.out; have h8 := htb.out; omega
       have hjl : j < l.length := by rw [HLL.out]; exact hx
       have HA3 := HA2.out.keep (hbl2.out.block _ HA2.out.lt)
       obtain ⟨ov, e3⟩ := HA3.has j hjl
       have e4 := HA3.free j
       have HA4 := HA3.set j a
       rw [← hai.out] at HA4
       have HA4 := i' HA4
       have HB4 : Hid (Below w.heap.size w (wq.setCell ⟨w.heap.size, j, none⟩ (.int .i64 ai))) := (link HB2.out hbl2.out).setCell (p := ⟨w.heap.size, j, none⟩) (Nat.le_refl _) _
       have H24 : Hid (Ri (wq.setCell ⟨w.heap.size, j, none⟩ (.int .i64 ai)) v2 (Nm.dg D9 n)) := H2.out.below HB4.out (Nat.le_refl _)
       have HR9 : Hid (Ri (wq.setCell ⟨w.heap.size, j, none⟩ (.int .i64 ai)) v5 (Nm.dg D9 R')) := ((HR7.out.below hbl2.out (Nat.le_refl _)).set hgw.out).ri
       have hsz := Nat.lt_of_lt_of_le HA2.out.lt hbl2.out.size
       have Hsz := i' hsz
       generalize hw4 : wq.setCell ⟨w.heap.size, j, none⟩ (.int .i64 ai) = w4 at *
       have hk9 : a < D9 := by unfold D9; have h5 := hai.out; omega
       have HSM := k'6o v2 n a w4 hk9 H24.out (by have h5 := L2.out; omega)
       rw [← hai.out] at HSM
       have HSM := i' HSM
       have HML : Hid ((Nm.dg D9 (n * a)).length ≤ 100001) := by
        have h5 := k'6t (show n * a < D9 * n by rw [Nat.mul_comm]; exact Nat.mul_lt_mul_of_pos_right hk9 HN.out)
        have h6 := L2.out
        show _ ≤ _
        omega
       have hle : n * a ≤ R' := by rw [hae, Nat.mul_comm]; exact Nat.div_mul_le_self _ _
       have HMm := i' (fun v w h1 h2 => k'69 v5 v R' (n * a) w hle h1 h2 (by have h6 := HRL.out; omega) (by have h6 := HML.out; omega))
       have hmm : R' - n * a = R' % n := by rw [hae]; have h5 := Nat.div_add_mod R' n; omega
       rw [hmm] at HMm
       have hsF := HS.out
       rw [← hae] at hsF
       have HF := i' hsF
       have Hw4 := i' hw4
       clear hae hle hmm hk9 hjl hw4 hsz hsF HA3
       go_wp2_with (first | (go_at_call 94; (with_reducible rw [Hw4.out]); (with_reducible refine HSM.out.mono ?_); rintro e w6 ⟨v3, rfl, h3, b3⟩; have HR8 := i' (And.intro h3 b3); clear h3 b3) | (go_at_call 123; (with_reducible refine (HMm.out _ _ (HR9.out.below HR8.out.2 (Nat.le_refl _)) HR8.out.1).mono ?_); rintro e w7 ⟨v7, rfl, h7, b7⟩; have HR10 := i' (And.intro h7 b7); clear h7 b7))
       go_roundw
       case rel => exact ⟨j, _, _, _, by omega, by go_num, HF, HR10.out.1, (HA4.out.keep (HR8.out.2.block _ HA4.out.lt)).keep (HR10.out.2.block _ (Nat.lt_of_lt_of_le HA4.out.lt HR8.out.2.size)), link (link HB4.out HR8.out.2) HR10.out.2⟩
       case measure => simp [intOf]
theorem k'74 (a b : Bool) (v1 v2 : Value) (m n : Nat) (w : World) (h1 : Ri w v1 (Nm.dg D9 m)) (h2 : Ri w v2 (Nm.dg D9 n)) (l1 : (Nm.dg D9 m).length ≤ 1000000) (l2 : (Nm.dg D9 n).length ≤ 1000000) :
 Calls Tryz.prog 83 #[.agg #[.bool a, v1], .agg #[.bool b, v2]] w (MadeI ((!a == b) && m * n != 0) (m * n) w) := by
 have H1 := i' h1
 have H2 := i' h2
 obtain ⟨pa, ba, oa, ca, rfl, hr1⟩ := h1
 obtain ⟨pb, bb, ob, cb, rfl, hr2⟩ := h2
 clear hr1 hr2
 have HT0 := i' (fun v1 v2 w' h1 h2 => k'6m v1 v2 m n w' h1 h2 l1 l2)
 clear l1 l2
 generalize (Nm.dg D9 m).length = ma at *
 generalize (Nm.dg D9 n).length = na at *
 obtain ⟨w0, hw0⟩ : ∃ w0 : World, w0 = ((w.alloc (.cells #[.bool a, .slice pa ma ca] 52)).alloc (.cells #[.bool b, .slice pb na cb] 52)).alloc (.cells #[.bool false, .slice none 0 0] 52) := ⟨_, rfl⟩
 have hb0 : Hid (Below w.heap.size w w0) := by rw [hw0]; exact (((Below.refl _ _).alloc (Nat.le_refl _) _).alloc (by simp) _).alloc (by simp; omega) _
 have k0 : w0.cell? ⟨w.heap.size, 0, none⟩ = some (.bool a) := by rw [hw0]; simp [go_sem]
 have k1 : w0.cell? ⟨w.heap.size, 1, none⟩ = some (.slice pa ma ca) := by rw [hw0]; simp [go_sem]
 have k2 : w0.cell? ⟨w.heap.size + 1, 0, none⟩ = some (.bool b) := by rw [hw0]; simp [go_sem]
 have k3 : w0.cell? ⟨w.heap.size + 1, 1, none⟩ = some (.slice pb na cb) := by rw [hw0]; simp [go_sem]
 have k4 : w0.cell? ⟨w.heap.size + 1 + 1, 0, none⟩ = some (.bool false) := by rw [hw0]; simp [go_sem]
 have k5 : w0.cell? ⟨w.heap.size + 1 + 1, 1, none⟩ = some (.slice none 0 0) := by rw [hw0]; simp [go_sem]
 have k6 : w0.frozen? ⟨w.heap.size + 1 + 1, 0, none⟩ = false := by rw [hw0]; simp [go_sem]
 have k7 : w0.frozen? ⟨w.heap.size + 1 + 1, 1, none⟩ = false := by rw [hw0]; simp [go_sem]
 have HTm := i' (fun w' (hb : Below w0.heap.size w0 w') => HT0.out _ _ w' (H1.out.below (chain hb0.out hb) (Nat.le_refl _)) (H2.out.below (chain hb0.out hb) (Nat.le_refl _)))
 have HMd := i' (fun v w h => k'6q (!a == b) v (m * n) w h)
 have Hw0 := i' hw0
 have n1 : ¬ (w.heap.size = w.heap.size + 1 + 1) := by omega
 have n2 : ¬ (w.heap.size + 1 + 1 = w.heap.size) := by omega
 clear hw0
 go_enter Tryz.func83, Tryz.ntmps83
 go_wp2_with fail
 rw [← Hw0.out]
 go_region_held3 (fun W' => W'.cell? ⟨w.heap.size, 0, none⟩ = some (.bool a) ∧ W'.cell? ⟨w.heap.size, 1, none⟩ = some (.slice pa ma ca) ∧ W'.cell? ⟨w.heap.size + 1, 0, none⟩ = some (.bool b) ∧ W'.cell? ⟨w.heap.size + 1, 1, none⟩ = some (.slice pb na cb)) (go_keep)
  (first
   | (go_at_call 124; (with_reducible refine (HTm.out _ ((Below.refl _ _).drew)).mono ?_); rintro e w1 ⟨vt, rfl, r1, b1⟩; have c1 := chain ((Below.refl _ _).drew) b1; have p0 := keep1 c1 k0; have p1 := keep1 c1 k1; have p2 := keep1 c1 k2; have p3 := keep1 c1 k3; have G1 := i' (And.intro r1 c1); clear r1 b1 c1)
   | (go_at_call 96; (with_reducible refine (HMd.out _ _ G1.out.1).mono ?_); rintro e w2 ⟨vm, rfl, r2, b2⟩; have c2 := chain G1.out.2 b2; have p0 := keep1 c2 k0; have p1 := keep1 c2 k1; have p2 := keep1 c2 k2; have p3 := keep1 c2 k3; have p4 := keep1 c2 k4; have p5 := keep1 c2 k5; have p6 := keepf c2 k4 k6; have p7 := keepf c2 k5 k7; have G2 := i' (And.intro r2 c2); obtain ⟨pm, bm, om, cm, rfl, hrm⟩ := r2; clear hrm b2 c2))
 have HZ := i' (chain hb0.out G2.out.2)
 go_wp2
 exact bodyPost_ret (v := .agg #[.bool ((!a == b) && m * n != 0), .slice pm (Nm.dg D9 (m * n)).length cm]) (by simp [results, Tryz.results83, go_sem, p4, p5]) rfl ⟨_, rfl, G2.out.1.set2 p4 p5 (fun _ => by simp), (HZ.out.setCell (p := ⟨w.heap.size + 1 + 1, 0, none⟩) (by simp; omega) _).setCell (p := ⟨w.heap.size + 1 + 1, 1, none⟩) (by simp; omega) _⟩
theorem k'7b (x y : Int) (v1 v2 : Value) (w : World) (h1 : Rz w v1 x) (h2 : Rz w v2 y) (l1 : (Nm.dg D9 x.natAbs).length ≤ 1000000) (l2 : (Nm.dg D9 y.natAbs).length ≤ 1000000) :
 Calls Tryz.prog 83 #[iV x v1, iV y v2] w (IntPost (x * y) w) := by
 refine (k'74 (decide (x < 0)) (decide (y < 0)) v1 v2 x.natAbs y.natAbs w h1 h2 l1 l2).mono (k'78 ?_)
 rcases Int.natAbs_eq x with ex | ex <;> rcases Int.natAbs_eq y with ey | ey
 all_goals
  generalize x.natAbs = m at *
  generalize y.natAbs = n at *
  subst ex ey
  rcases Nat.eq_zero_or_pos m with h0 | h0 <;> rcases Nat.eq_zero_or_pos n with g0 | g0
 all_goals first
  | (subst h0; simp)
  | (subst g0; simp)
  | (have p1 : ¬ ((m : Int) < 0) := by omega
     have p2 : ¬ ((n : Int) < 0) := by omega
     have p3 : (-(m : Int) < 0) := by omega
     have p4 : (-(n : Int) < 0) := by omega
     simp [p1, p2, p3, p4, h0, g0, Int.mul_neg, Int.neg_mul])
theorem k'7h {w : World} {v : Value} {n : Nat} (h : Ri w v (Nm.dg D9 n)) : numOf w v = n := by
 have hx : ∃ n, Ri w v (Nm.dg D9 n) := ⟨n, h⟩
 unfold numOf
 rw [dif_pos hx]
 have e := hx.choose_spec.uniq h
 have e2 := congrArg (Nm.val D9) e
 rwa [Nm.val_dg D92, Nm.val_dg D92] at e2
theorem k'7i {a b : Nat} (h : a ≤ b) : (Nm.dg D9 a).length ≤ (Nm.dg D9 b).length := by
 refine Nm.len_le_of_val D92 (Nm.nrm_dg D92 a) ?_
 rw [Nm.val_dg D92]
 have h1 := Nm.val_lt (Nm.dig_dg D92 b)
 rw [Nm.val_dg D92] at h1
 omega
theorem k'7j (x y : Int) (v1 v2 : Value) (w : World) (h1 : Rz w v1 x) (h2 : Rz w v2 y) (l1 : (Nm.dg D9 x.natAbs).length ≤ 100000) (l2 : (Nm.dg D9 y.natAbs).length ≤ 100000) :
 Calls Tryz.prog 97 #[iV x v1, iV y v2] w (IntPost (Nat.gcd x.natAbs y.natAbs : Nat) w) := by
 have H1 := i' (show Ri w v1 (Nm.dg D9 x.natAbs) from h1)
 have H2 := i' (show Ri w v2 (Nm.dg D9 y.natAbs) from h2)
 have L := i' (And.intro l1 l2)
 obtain ⟨pa, ba, oa, ca, rfl, hr1⟩ := h1
 obtain ⟨pb, bb, ob, cb, rfl, hr2⟩ := h2
 clear hr1 hr2 l1 l2
 unfold iV at *
 generalize x.natAbs = m0 at *
 generalize y.natAbs = n0 at *
 generalize decide (x < 0) = a at *
 generalize decide (y < 0) = b at *
 obtain ⟨G, hG⟩ : ∃ G, Nat.gcd m0 n0 = G := ⟨_, rfl⟩
 rw [hG]
 have HG := i' hG
 clear hG
 have HM := i' (fun v w h => (k'6q false v G w h).mono (k'78 (z := (G : Int)) (by simp)))
 have HO := i' (fun v1 v2 m n w hn h1 h2 l1 l2 => k'71 v1 v2 m n w hn h1 h2 l1 l2)
 generalize hma : (Nm.dg D9 m0).length = ma at *
 generalize hna : (Nm.dg D9 n0).length = na at *
 obtain ⟨w0, hw0⟩ : ∃ w0 : World, w0 = ((w.alloc (.cells #[.bool a, .slice pa ma ca] 52)).alloc (.cells #[.bool b, .slice pb na cb] 52)).alloc (.cells #[.bool false, .slice none 0 0] 52) := ⟨_, rfl⟩
 have hb0 : Hid (Below w.heap.size w w0) := by rw [hw0]; exact (((Below.refl _ _).alloc (Nat.le_refl _) _).alloc (by simp) _).alloc (by simp; omega) _
 have k1 : w0.cell? ⟨w.heap.size, 1, none⟩ = some (.slice pa ma ca) := by rw [hw0]; simp [go_sem]
 have k3 : w0.cell? ⟨w.heap.size + 1, 1, none⟩ = some (.slice pb na cb) := by rw [hw0]; simp [go_sem]
 have k4 : w0.cell? ⟨w.heap.size + 1 + 1, 0, none⟩ = some (.bool false) := by rw [hw0]; simp [go_sem]
 have k5 : w0.cell? ⟨w.heap.size + 1 + 1, 1, none⟩ = some (.slice none 0 0) := by rw [hw0]; simp [go_sem]
 have k6 : w0.frozen? ⟨w.heap.size + 1 + 1, 0, none⟩ = false := by rw [hw0]; simp [go_sem]
 have k7 : w0.frozen? ⟨w.heap.size + 1 + 1, 1, none⟩ = false := by rw [hw0]; simp [go_sem]
 have KK := i' (And.intro k4 (And.intro k5 (And.intro k6 k7)))
 have Hw0 := i' hw0
 have HA := i' (And.intro hma hna)
 clear hw0 k4 k5 k6 k7 hma hna
 go_enter Tryz.func97, Tryz.ntmps97
 go_wp2_with fail
 rw [← Hw0.out]
 go_quiet (fail)
 go_wp2_with fail
 go_loopw [5, 6] (fun av bv wr => ∃ (wz : World) (m n : Nat), wz = wr ∧ Hid (Ri wz av (Nm.dg D9 m)) ∧ Hid (Ri wz bv (Nm.dg D9 n)) ∧ Hid (Nat.gcd m n = G) ∧ Hid ((Nm.dg D9 m).length ≤ 100000) ∧ Hid ((Nm.dg D9 n).length ≤ 100000) ∧ Hid (Below w0.heap.size w0 wz))
  (fun _ bv wr => numOf wr bv)
 case atStart =>
  have hbq := below_drew' (Below.refl w0.heap.size w0) nq
  exact ⟨_, m0, n0, rfl, H1.out.below (link hb0.out hbq) (Nat.le_refl _), H2.out.below (link hb0.out hbq) (Nat.le_refl _), HG, by have := L.out.1; have h5 := HA.out.1; show _ ≤ _; omega, by have := L.out.2; have h5 := HA.out.2; show _ ≤ _; omega, hbq⟩
 case round =>
  obtain ⟨wr, m, n, rfl, hra, hrb, hg, hlm, hln, hbl⟩ := hrel
  obtain ⟨pq, bq, oq, cq, rfl, hrq⟩ := hrb.out
  clear hrq
  rcases Nat.eq_zero_or_pos n with hn0 | hn0
  ·have hl0 : ¬ (0 < ((Nm.dg D9 n).length : Int)) := fun h => k'6p.1 h hn0
   have HGm : Hid (m = G) := by have h5 := hg.out; rw [hn0, Nat.gcd_zero_right] at h5; exact h5
   clear hn0
   have HMm := i' (HM.out _ _ (by rw [← HGm.out]; exact hra.out))
   go_wp2_with fail
   refine HMm.out.mono ?_
   rintro e w6 ⟨v6, he, h6, b6⟩
   unfold iV at he
   obtain ⟨zb, hzb⟩ : ∃ zb, decide ((G : Int) < 0) = zb := ⟨_, rfl⟩
   rw [hzb] at he
   have HZB := i' hzb
   clear hzb
   subst he
   have c6 := link hbl.out b6
   have q4 := keep1 c6 KK.out.1
   have q5 := keep1 c6 KK.out.2.1
   have q6 := keepf c6 KK.out.1 KK.out.2.2.1
   have q7 := keepf c6 KK.out.2.1 KK.out.2.2.2
   have H6 := i' h6
   have HZ := i' (link hb0.out c6)
   obtain ⟨pm, bm, om, cm, rfl, hrm⟩ := h6
   clear hrm b6 c6
   go_wp2
   exact bodyPost_ret (v := .agg #[.bool zb, .slice pm (Nm.dg D9 (G : Int).natAbs).length cm]) (by simp [results, Tryz.results97, go_sem, q4, q5]) rfl ⟨_, by rw [iV, HZB.out], H6.out.set2 q4 q5 (fun _ => by simp), (HZ.out.setCell (p := ⟨w.heap.size + 1 + 1, 0, none⟩) (by simp; omega) _).setCell (p := ⟨w.heap.size + 1 + 1, 1, none⟩) (by simp; omega) _⟩
  ·have hl0 : 0 < ((Nm.dg D9 n).length : Int) := k'6p.2 (by omega)
   have HOv := i' (HO.out _ _ m n wr hn0 hra.out hrb.out hlm.out hln.out)
   have Hn0 := i' hn0
   clear hn0
   go_wp2_with fail
   refine HOv.out.mono ?_
   rintro e w6 ⟨q, r, rfl, hq, hr, b6⟩
   have HR := i' hr
   have HN2 := i' (hrb.out.below b6 (Nat.le_refl _))
   have HB := i' (link hbl.out b6)
   have HGG : Hid (Nat.gcd n (m % n) = G) := by have h5 := hg.out; rw [Nat.gcd_comm, Nat.gcd_rec] at h5; rw [Nat.gcd_comm]; exact h5
   have HLR : Hid ((Nm.dg D9 (m % n)).length ≤ 100000) := by have h5 := k'7i (Nat.le_of_lt (Nat.mod_lt m Hn0.out)); have h6 := hln.out; show _ ≤ _; omega
   have HNUM : Hid (numOf w6 r < numOf wr (.slice pq (Nm.dg D9 n).length cq)) := by
    show _ < _
    rw [k'7h hr, k'7h hrb.out]
    exact Nat.mod_lt m Hn0.out
   clear hq hr b6
   go_wp2
   go_roundw
   case rel => exact ⟨_, n, m % n, rfl, HN2, HR, HGG, hln, HLR, HB⟩
   case measure => exact HNUM.out
theorem k'a3 (x y : Int) : (q0 x y).natAbs = x.natAbs / y.natAbs := by
 unfold q0
 generalize x.natAbs / y.natAbs = d
 split <;> omega
theorem q0_eq (x y : Int) (hy : y ≠ 0) : x - q0 x y * y = if x < 0 then -((x.natAbs % y.natAbs : Nat) : Int) else ((x.natAbs % y.natAbs : Nat) : Int) := by
 have hd := Nat.div_add_mod x.natAbs y.natAbs
 have h : ((y.natAbs : Nat) : Int) * ((x.natAbs / y.natAbs : Nat) : Int) + ((x.natAbs % y.natAbs : Nat) : Int) = ((x.natAbs : Nat) : Int) := by exact_mod_cast hd
 unfold q0
 generalize ((x.natAbs / y.natAbs : Nat) : Int) = d at *
 generalize ((x.natAbs % y.natAbs : Nat) : Int) = r at *
 by_cases hx : x < 0
 ·have ex : ((x.natAbs : Nat) : Int) = -x := by omega
  rw [ex] at h
  by_cases hy0 : y < 0
  ·have ey : ((y.natAbs : Nat) : Int) = -y := by omega
   rw [ey] at h
   simp only [hx, hy0, decide_true, bne_self_eq_false, if_true]
   simp only [Bool.false_eq_true, if_false]
   grind
  ·have ey : ((y.natAbs : Nat) : Int) = y := by omega
   rw [ey] at h
   simp only [hx, hy0, decide_true, decide_false, if_true]
   simp
   grind
 ·have ex : ((x.natAbs : Nat) : Int) = x := by omega
  rw [ex] at h
  by_cases hy0 : y < 0
  ·have ey : ((y.natAbs : Nat) : Int) = -y := by omega
   rw [ey] at h
   simp only [hx, hy0, decide_true, decide_false, if_false]
   simp
   grind
  ·have ey : ((y.natAbs : Nat) : Int) = y := by omega
   rw [ey] at h
   simp only [hx, hy0, decide_false, if_false]
   simp
   grind
theorem k'a4 {x y q r : Int} (h : x - q * y = r) (h0 : 0 ≤ r) (h1 : r < y.natAbs) (hy : y ≠ 0) : q = x / y ∧ r = x % y := by
 have e1 : x = r + q * y := by omega
 have e2 : x % y = r := by
  rw [e1, Int.add_mul_emod_self_right]
  rcases Int.lt_or_lt_of_ne hy with g | g
  ·rw [← Int.emod_neg]
   exact Int.emod_eq_of_lt h0 (by omega)
  ·exact Int.emod_eq_of_lt h0 (by omega)
 have e3 := Int.emod_add_mul_ediv x y
 have e4 : y * (x / y) = y * q := by rw [Int.mul_comm y q]; omega
 exact ⟨(Int.eq_of_mul_eq_mul_left hy e4).symm, e2.symm⟩
theorem k'a5 (x y : Int) (hy : y ≠ 0) : ((x.natAbs % y.natAbs : Nat) : Int) < ((y.natAbs : Nat) : Int) := by
 have := Nat.mod_lt x.natAbs (by omega : 0 < y.natAbs)
 omega
theorem k'a6 {x y : Int} (hy : y ≠ 0) (h : 0 ≤ x - q0 x y * y) : q0 x y = x / y ∧ x - q0 x y * y = x % y := by
 refine k'a4 rfl h ?_ hy
 have h1 := q0_eq x y hy
 have h2 := k'a5 x y hy
 rw [h1]
 split <;> omega
theorem k'a7 {x y : Int} (hy : 0 < y) (h : x - q0 x y * y < 0) : q0 x y - 1 = x / y ∧ x - (q0 x y - 1) * y = x % y := by
 have h1 := q0_eq x y (by omega)
 have h2 := k'a5 x y (by omega)
 have e : x - (q0 x y - 1) * y = x - q0 x y * y + y := by rw [Int.sub_mul, Int.one_mul]; omega
 refine k'a4 rfl ?_ ?_ (by omega)
 ·rw [e]; split at h1 <;> omega
 ·rw [e]; omega
theorem k'a8 {x y : Int} (hy : y < 0) (h : x - q0 x y * y < 0) : q0 x y + 1 = x / y ∧ x - (q0 x y + 1) * y = x % y := by
 have h1 := q0_eq x y (by omega)
 have h2 := k'a5 x y (by omega)
 have e : x - (q0 x y + 1) * y = x - q0 x y * y - y := by rw [Int.add_mul, Int.one_mul]; omega
 refine k'a4 rfl ?_ ?_ (by omega)
 ·rw [e]; split at h1 <;> omega
 ·rw [e]; omega
theorem lenD {m k : Nat} (h : m < D9 ^ k) : (Nm.dg D9 m).length ≤ k := by
 refine Nm.len_le_of_val D92 (Nm.nrm_dg D92 _) ?_
 rw [Nm.val_dg D92]
 exact h
theorem q0_le (x y : Int) : (q0 x y).natAbs ≤ x.natAbs := by rw [k'a3]; exact Nat.div_le_self _ _
theorem k'a9 (x y : Int) : (q0 x y * y).natAbs ≤ x.natAbs := by rw [Int.natAbs_mul, k'a3]; exact Nat.div_mul_le_self _ _
theorem twice {m k : Nat} (h : m < 2 * D9 ^ k) : m < D9 ^ (k + 1) := by
 rw [Nat.pow_succ]
 have e : D9 = 1000000000 := rfl
 generalize D9 ^ k = p at *
 rw [e]
 omega
theorem far8q {a x : Nat} (h : a + 4 ≤ x) : ¬ x = a ∧ ¬ x = a+1 ∧ ¬ x = a+1+1 ∧ ¬ x = a+1+1+1 ∧ ¬ a = x ∧ ¬ a+1 = x ∧ ¬ a+1+1 = x ∧ ¬ a+1+1+1 = x ∧ a < x ∧ a+1 < x ∧ a+1+1 < x ∧ a+1+1+1 < x := ⟨by omega, by omega, by omega, by omega, by omega, by omega, by omega, by omega, by omega, by omega, by omega, by omega⟩
theorem k'aa (x y : Int) (v1 v2 : Value) (w : World) (k : Nat) (hk : k ≤ 90000) (hx : x.natAbs < D9 ^ k) (hy : y.natAbs < D9 ^ k) (h1 : Rz w v1 x) (h2 : Rz w v2 y) (hy0 : y ≠ 0) (hr : 0 ≤ x - q0 x y * y) :
 Calls Tryz.prog 98 #[iV x v1, iV y v2] w (QIPost (q0 x y) (x - q0 x y * y) w) := by
 have lx := lenD hx
 have ly := lenD hy
 have H_over := i' (fun v1 v2 w g1 g2 => k'71 v1 v2 x.natAbs y.natAbs w (by omega) g1 g2 (by omega) (by omega))
 have H_made := i' (fun v w g => (k'6q (decide (x < 0) != decide (y < 0)) v (x.natAbs / y.natAbs) w g).mono (k'78 (z := q0 x y) rfl))
 have lq := Nat.le_trans (lenD (Nat.lt_of_le_of_lt (q0_le x y) hx)) (by omega : k ≤ 1000000)
 have lqy := Nat.le_trans (lenD (Nat.lt_of_le_of_lt (k'a9 x y) hx)) (by omega : k ≤ 1000000)
 have H_mul := i' (fun v1 v2 w g1 g2 => k'7b (q0 x y) y v1 v2 w g1 g2 lq (by omega))
 have H_sub := i' (fun v1 v2 w g1 g2 => k'7d x (q0 x y * y) v1 v2 w g1 g2 (by omega) lqy)
 have H_sgn := i' (fun v w g => k'7a (x - q0 x y * y) v w g)
 obtain ⟨sg, hsg⟩ : ∃ sg, (x - q0 x y * y).sign = sg := ⟨_, rfl⟩
 have hsg0 : ¬ sg < 0 := by
  rw [← hsg]
  rcases Int.lt_or_eq_of_le hr with g | g
  ·rw [Int.sign_eq_one_of_pos g]; decide
  ·rw [← g]; decide
 rw [hsg] at H_sgn
 clear hsg
 obtain ⟨sb, hsb⟩ : ∃ sb, (decide (x < 0) != decide (y < 0)) = sb := ⟨_, rfl⟩
 rw [hsb] at H_made
 have HX := i' h1
 have HY := i' h2
 clear lq lqy lx ly hx hy hk hr
 clear hy0
 unfold IntPost iV at H_made H_mul H_sub
 unfold iV at H_sgn
 unfold SignPost at H_sgn
 unfold OverPost at H_over
 unfold QIPost iV
 generalize x.natAbs / y.natAbs = dd at *
 generalize x.natAbs % y.natAbs = de at *
 obtain ⟨bx, hbx⟩ : ∃ b, decide (x < 0) = b := ⟨_, rfl⟩
 obtain ⟨by', hby⟩ : ∃ b, decide (y < 0) = b := ⟨_, rfl⟩
 rw [hbx, hby] at hsb
 have hsb2 : (!(bx == by')) = sb := hsb
 rw [hby] at H_mul
 rw [hbx] at H_sub ⊢
 rw [hby]
 clear hbx hby hsb
 generalize x - q0 x y * y = r at *
 generalize q0 x y * y = qy at *
 generalize q0 x y = q at *
 generalize decide (qy < 0) = bqy at *
 obtain ⟨bq, hbq⟩ : ∃ b, decide (q < 0) = b := ⟨_, rfl⟩
 rw [hbq] at H_made H_mul
 obtain ⟨pa, ba, oa, ca, rfl, hra⟩ := h1
 obtain ⟨pb, bb, ob, cb, rfl, hrb⟩ := h2
 clear hra hrb
 generalize (Nm.dg D9 x.natAbs).length = la at *
 generalize (Nm.dg D9 y.natAbs).length = lb at *
 obtain ⟨w0, hw0⟩ : ∃ w0 : World, w0 = (((w.alloc (.cells #[.bool bx, .slice pa la ca] 52)).alloc (.cells #[.bool by', .slice pb lb cb] 52)).alloc (.cells #[.bool false, .slice none 0 0] 52)).alloc (.cells #[.bool false, .slice none 0 0] 52) := ⟨_, rfl⟩
 have hb0 : Hid (Below w.heap.size w w0) := by rw [hw0]; exact ((((Below.refl _ _).alloc (Nat.le_refl _) _).alloc (by simp) _).alloc (by simp; omega) _).alloc (by simp; omega) _
 have I1 : Hid (ZC (.bool bx) (.slice pa la ca) w0 w.heap.size) := by rw [hw0]; exact (((ZC.new rfl).alloc _).alloc _).alloc _
 have I2 : Hid (ZC (.bool by') (.slice pb lb cb) w0 (w.heap.size + 1)) := by rw [hw0]; exact ((ZC.new (by simp)).alloc _).alloc _
 have I3 : Hid (ZC (.bool false) (.slice none 0 0) w0 (w.heap.size + 1 + 1)) := by rw [hw0]; exact (ZC.new (by simp)).alloc _
 have I4 : Hid (ZC (.bool false) (.slice none 0 0) w0 (w.heap.size + 1 + 1 + 1)) := by rw [hw0]; exact ZC.new (by simp)
 have Hsz : Hid (w.heap.size + 4 ≤ w0.heap.size) := by rw [hw0]; show _ ≤ _; simp
 have RX := i' (Ri.below HX.out hb0.out (Nat.le_refl _))
 have RY := i' (Ri.below HY.out hb0.out (Nat.le_refl _))
 have Hw0 := i' hw0
 clear hw0 HX HY
 go_enter Tryz.func98, Tryz.ntmps98
 go_wp2_with fail
 rw [← Hw0.out]
 clear Hw0
 refine (H_over.out _ _ _ RX.out RY.out).mono ?_
 rintro e y1 ⟨vq, vr, rfl, rq, rr, b1⟩
 have D := i' b1
 obtain ⟨k0, k1, _⟩ := I1.out.next D.out
 obtain ⟨k2, k3, _⟩ := I2.out.next D.out
 have RQ := i' rq
 obtain ⟨pq, bq', oq, cq, rfl, hrq⟩ := rq
 clear b1 rr hrq
 go_wp2_with fail
 refine (H_made.out _ _ RQ.out).mono ?_
 rintro e y2 ⟨v8, rfl, r8, b2⟩
 have D := i' (chain D.out b2)
 obtain ⟨u2, hu2⟩ : ∃ u : World, u = y2.alloc (.cells #[.bool bq, v8] 52) := ⟨_, rfl⟩
 have R8 : Hid (Rz u2 v8 q) := by rw [hu2]; exact Ri.allocd r8 _
 have T8 : Hid (ZC (.bool bq) v8 u2 y2.heap.size) := by rw [hu2]; exact ZC.new rfl
 have hy2 : Hid (w.heap.size + 4 ≤ y2.heap.size) := Nat.le_trans Hsz.out D.out.size
 have D : Hid (Below w0.heap.size w0 u2) := by rw [hu2]; exact D.out.alloc D.out.size _
 obtain ⟨p8, bb8, o8, c8, rfl, rr8⟩ := r8
 clear rr8
 generalize (Nm.dg D9 q.natAbs).length = l8 at *
 obtain ⟨k0, k1, _⟩ := I1.out.next D.out
 obtain ⟨k2, k3, _⟩ := I2.out.next D.out
 obtain ⟨k4, k5, _⟩ := T8.out
 have HSB : Hid (w.heap.size + 4 ≤ u2.heap.size) := Nat.le_trans Hsz.out D.out.size
 have hu2g : Hid (y2.heap.size < u2.heap.size) := T8.out.lt
 have Hu2 := i' hu2
 clear b2 hu2 RQ
 have RXu := i' (Ri.below RX.out D.out (Nat.le_refl _))
 have RYu := i' (Ri.below RY.out D.out (Nat.le_refl _))
 go_upto_region 3 with (fail)
 rw [← Hu2.out]
 clear Hu2
 obtain ⟨ja, jb, jc, jd, je, jf, jg, jh, ji, jj, jk, jl⟩ := far8q HSB.out
 have jm := hu2g.out
 have jn : ¬ y2.heap.size = u2.heap.size := Nat.ne_of_lt jm
 have jo : ¬ u2.heap.size = y2.heap.size := Nat.ne_of_gt jm
 go_cut [9] (fun s9 wx => ∃ (g9 : Nat) (p9 : Option Addr) (n9 c9 : Nat), s9 = .pointer (some ⟨g9, 0, none⟩) ∧ Hid (CutO (decide (r < 0)) (.slice p9 n9 c9) (Nm.dg D9 r.natAbs) u2.heap.size u2 wx g9))
 case first =>
  rename_i J0 K0 hRJ hMK
  go_region_held3 (fun W' => W'.cell? ⟨w.heap.size, 0, none⟩ = some (.bool bx) ∧ W'.cell? ⟨w.heap.size, 1, none⟩ = some (.slice pa la ca) ∧ W'.cell? ⟨w.heap.size + 1, 0, none⟩ = some (.bool by') ∧ W'.cell? ⟨w.heap.size + 1, 1, none⟩ = some (.slice pb lb cb) ∧ W'.cell? ⟨y2.heap.size, 0, none⟩ = some (.bool bq) ∧ W'.cell? ⟨y2.heap.size, 1, none⟩ = some (.slice p8 l8 c8)) (go_keep)
   (first
    | (go_at_call 83; (with_reducible refine (H_mul.out _ _ _ (by first | exact Ri.drew R8.out | exact Ri.allocd (Ri.drew R8.out) _ | exact Ri.drew (Ri.allocd R8.out _)) (by first | exact Ri.drew RYu.out | exact Ri.allocd (Ri.drew RYu.out) _ | exact Ri.drew (Ri.allocd RYu.out _))).mono ?_); rintro e w1 ⟨vm, rfl, rz1, bz1⟩; (try (have bz1 := k'5b bz1)); have d1 : Below u2.heap.size u2 w1 := chain (by first | exact Below.refl _ _ | exact (Below.refl _ _).drew | exact k'56 _ _ | exact ((Below.refl _ _).drew).alloc (Nat.le_refl _) _) bz1; have e1 : Below u2.heap.size u2 w1 := d1; have p0 := keep1 e1 k0; have p1 := keep1 e1 k1; have p2 := keep1 e1 k2; have p3 := keep1 e1 k3; have p4 := keep1 e1 k4; have p5 := keep1 e1 k5; obtain ⟨j1a, j1b, j1c, j1d, j1e, j1f, j1g, j1h, j1i, j1j, j1k, j1l⟩ := far8q (Nat.le_trans HSB.out e1.size); have j1m := Nat.lt_of_lt_of_le hu2g.out e1.size; have j1n : ¬ y2.heap.size = w1.heap.size := Nat.ne_of_lt j1m; have j1o : ¬ w1.heap.size = y2.heap.size := Nat.ne_of_gt j1m; (try (have A0 := i' (ZC.made (g := u2.heap.size) rfl bz1); obtain ⟨A0a, A0b, A0c, A0d⟩ := A0.out)); (try (have L01 := i' (k'58 (g := u2.heap.size) rfl bz1); obtain ⟨l01x, l01y, l01z⟩ := L01.out)); have G1 := i' rz1; obtain ⟨pr1, br1, or1, cr1, rfl, rr1⟩ := rz1; clear rr1)
    | (go_at_call 117; (with_reducible refine (H_sub.out _ _ _ (by first | exact Ri.below RXu.out e1 (Nat.le_refl _) | exact Ri.allocd (Ri.below RXu.out e1 (Nat.le_refl _)) _) (by first | exact G1.out | exact Ri.allocd G1.out _)).mono ?_); rintro e w2 ⟨vs, rfl, rz2, bz2⟩; (try (have bz2 := k'5b bz2)); have d2 : Below w1.heap.size w1 w2 := chain (by first | exact Below.refl _ _ | exact (Below.refl _ _).drew | exact k'56 _ _ | exact ((Below.refl _ _).drew).alloc (Nat.le_refl _) _) bz2; have e2 : Below u2.heap.size u2 w2 := chain e1 d2; have p0 := keep1 e2 k0; have p1 := keep1 e2 k1; have p2 := keep1 e2 k2; have p3 := keep1 e2 k3; have p4 := keep1 e2 k4; have p5 := keep1 e2 k5; obtain ⟨j2a, j2b, j2c, j2d, j2e, j2f, j2g, j2h, j2i, j2j, j2k, j2l⟩ := far8q (Nat.le_trans HSB.out e2.size); have j2m := Nat.lt_of_lt_of_le hu2g.out e2.size; have j2n : ¬ y2.heap.size = w2.heap.size := Nat.ne_of_lt j2m; have j2o : ¬ w2.heap.size = y2.heap.size := Nat.ne_of_gt j2m; (try (have A1 := i' (ZC.made (g := w1.heap.size) rfl bz2); obtain ⟨A1a, A1b, A1c, A1d⟩ := A1.out)); (try (have A0 := i' (A0.out.next d2); obtain ⟨A0a, A0b, A0c, A0d⟩ := A0.out)); (try (have L02 := i' (k'5a L01.out d2.size); obtain ⟨l02x, l02y, l02z⟩ := L02.out)); (try (have L12 := i' (k'58 (g := w1.heap.size) rfl bz2); obtain ⟨l12x, l12y, l12z⟩ := L12.out)); have G2 := i' rz2; obtain ⟨pr2, br2, or2, cr2, rfl, rr2⟩ := rz2; clear rr2)
    | fail)
  all_goals
   refine hMK _ _ (Met.intro (hRJ _ _ ?_))
   (repeat apply Exists.intro)
   refine ⟨?_, rfl⟩
   refine ⟨_, pr2, (Nm.dg D9 r.natAbs).length, cr2, rfl, ?_⟩
   show CutO _ (.slice pr2 _ cr2) _ u2.heap.size u2 _ _
   have sA0 : u2.heap.size ≤ u2.heap.size := Nat.le_refl _
   have sA1 : u2.heap.size ≤ w1.heap.size := e1.size
   have sA2 : u2.heap.size ≤ w2.heap.size := e2.size
   first
    | with_reducible exact CutO.k1 G2.out e2 sA2
    | with_reducible exact CutO.k2 A0.out sA0 G2.out e2
    | with_reducible exact CutO.k2 A1.out sA1 G2.out e2
    | fail
 obtain ⟨g9, p9, n9, c9, rfl, hcut⟩ := hcut
 obtain ⟨hg9, t9, r9, b9⟩ := hcut.out
 have D := i' (chain D.out b9)
 have T8 := i' (T8.out.next b9)
 have R8 := i' (Ri.below R8.out b9 (Nat.le_refl _))
 have T9 := i' t9
 have R9 := i' r9
 have hg9' : Hid (w.heap.size + 4 ≤ g9) := Nat.le_trans HSB.out hg9
 have hg89 : Hid (y2.heap.size < g9) := Nat.lt_of_lt_of_le hu2g.out hg9
 obtain ⟨k0, k1, _⟩ := T9.out
 clear hcut hg9 t9 r9 b9 ja jb jc jd je jf jg jh ji jj jk jl jm jn jo k2 k3 k4 k5
 obtain ⟨br, hbr⟩ : ∃ b, decide (r < 0) = b := ⟨_, rfl⟩
 rw [hbr] at T9 k0 H_sgn
 go_wp2_with fail
 refine (H_sgn.out _ _ R9.out).mono ?_
 rintro e y3 ⟨rfl, b3⟩
 have D := i' (chain D.out b3)
 have T8 := i' (T8.out.next b3)
 have R8 := i' (Ri.below R8.out b3 (Nat.le_refl _))
 have T9 := i' (T9.out.next b3)
 have R9 := i' (Ri.below R9.out b3 (Nat.le_refl _))
 clear b3 k0 k1
 have HQQ := i' hbq
 have HRR := i' hbr
 clear hbq hbr
 obtain ⟨f0, f1, f2, f3⟩ := T8.out
 obtain ⟨f4, f5, f6, f7⟩ := T9.out
 obtain ⟨m0, m1, m2, m3⟩ := I3.out.next D.out
 obtain ⟨n0, n1, n2, n3⟩ := I4.out.next D.out
 obtain ⟨ja, jb, jc, jd, je, jf, jg, jh, _⟩ := far8q hy2.out
 obtain ⟨qa, qb, qc, qd, qe, qf, qg, qh, _⟩ := far8q hg9'.out
 have i5 := (I4.out.next D.out).other (g2 := w.heap.size + 1 + 1) (u := .bool bq) (v := (.slice p8 l8 c8)) (by omega)
 have HZ := i' ((k'5c (k'5c (chain hb0.out D.out) (g := w.heap.size + 1 + 1) (by omega) (.bool bq) (.slice p8 l8 c8)) (g := w.heap.size + 1 + 1 + 1) (by omega) (.bool br) (.slice p9 n9 c9)).drew)
 have RQf := i' (Ri.drew ((R8.out.setq (I3.out.next D.out) (.bool bq) (.slice p8 l8 c8)).setq i5 (.bool br) (.slice p9 n9 c9)))
 have RRf := i' (Ri.drew ((R9.out.setq (I3.out.next D.out) (.bool bq) (.slice p8 l8 c8)).setq i5 (.bool br) (.slice p9 n9 c9)))
 clear i5
 go_wp2_with fail
 go_region
 go_wp2
 exact bodyPost_ret (v := .tuple #[.agg #[.bool bq, (.slice p8 l8 c8)], .agg #[.bool br, (.slice p9 n9 c9)]]) (by simp [results, Tryz.results98, go_sem, m0, m1, n0, n1]) rfl ⟨_, _, by rw [HQQ.out, HRR.out], RQf.out, RRf.out, HZ.out⟩
theorem k'ab (x y : Int) (v1 v2 : Value) (w : World) (k : Nat) (hk : k ≤ 90000) (hx : x.natAbs < D9 ^ k) (hy : y.natAbs < D9 ^ k) (h1 : Rz w v1 x) (h2 : Rz w v2 y) (hs : 0 < y) (hr : x - q0 x y * y < 0) :
 Calls Tryz.prog 98 #[iV x v1, iV y v2] w (QIPost (q0 x y - 1) (x - (q0 x y - 1) * y) w) := by
 have lx := lenD hx
 have ly := lenD hy
 have H_over := i' (fun v1 v2 w g1 g2 => k'71 v1 v2 x.natAbs y.natAbs w (by omega) g1 g2 (by omega) (by omega))
 have H_made := i' (fun v w g => (k'6q (decide (x < 0) != decide (y < 0)) v (x.natAbs / y.natAbs) w g).mono (k'78 (z := q0 x y) rfl))
 have lq := Nat.le_trans (lenD (Nat.lt_of_le_of_lt (q0_le x y) hx)) (by omega : k ≤ 1000000)
 have lqy := Nat.le_trans (lenD (Nat.lt_of_le_of_lt (k'a9 x y) hx)) (by omega : k ≤ 1000000)
 have H_mul := i' (fun v1 v2 w g1 g2 => k'7b (q0 x y) y v1 v2 w g1 g2 lq (by omega))
 have H_sub := i' (fun v1 v2 w g1 g2 => k'7d x (q0 x y * y) v1 v2 w g1 g2 (by omega) lqy)
 have H_sgn := i' (fun v w g => k'7a (x - q0 x y * y) v w g)
 have H_sgy := i' (fun v w g => k'7a y v w g)
 rw [Int.sign_eq_one_of_pos hs] at H_sgy
 rw [Int.sign_eq_neg_one_of_neg hr] at H_sgn
 obtain ⟨zi, hzi⟩ : ∃ z : Int, z = 1 := ⟨_, rfl⟩
 have H_n1 : Hid (∀ w, Calls Tryz.prog 74 #[.int .i64 1] w (IntPost zi w)) := by rw [hzi]; exact fun w => k'8f 1 w (by decide) (by decide)
 have H_adj0 : ∀ z : Int, z = 1 → ∀ v1 v2 w, Rz w v1 (q0 x y) → Rz w v2 z → Calls Tryz.prog 117 #[iV (q0 x y) v1, iV z v2] w (IntPost (q0 x y - 1) w) := by
  intro z hz v1 v2 w g1 g2
  subst hz
  exact k'7d (q0 x y) 1 v1 v2 w g1 g2 lq (Nat.le_trans (lenD (k := 3) (by decide)) (by decide))
 have H_adj := i' (H_adj0 zi hzi)
 clear H_adj0
 have lq1 : (Nm.dg D9 (q0 x y - 1).natAbs).length ≤ 1000000 := by
  have a1 := q0_le x y
  refine Nat.le_trans (lenD (k := k + 1) (twice ?_)) (by omega)
  have : 0 < D9 ^ k := Nat.pow_pos D90
  omega
 have lqy1 : (Nm.dg D9 ((q0 x y - 1) * y).natAbs).length ≤ 1000000 := by
  have a1 := k'a9 x y
  rw [Int.sub_mul, Int.one_mul]
  refine Nat.le_trans (lenD (k := k + 1) (twice ?_)) (by omega)
  omega
 have H_mul2 := i' (fun v1 v2 w g1 g2 => k'7b (q0 x y - 1) y v1 v2 w g1 g2 lq1 (by omega))
 have H_sub2 := i' (fun v1 v2 w g1 g2 => k'7d x ((q0 x y - 1) * y) v1 v2 w g1 g2 (by omega) lqy1)
 clear hzi lq1 lqy1
 obtain ⟨sb, hsb⟩ : ∃ sb, (decide (x < 0) != decide (y < 0)) = sb := ⟨_, rfl⟩
 rw [hsb] at H_made
 have HX := i' h1
 have HY := i' h2
 clear lq lqy lx ly hx hy hk hr
 clear hs
 unfold IntPost iV at H_made H_mul H_sub H_adj H_mul2 H_sub2
 unfold IntPost at H_n1
 unfold iV at H_n1
 unfold iV at H_sgn
 unfold iV at H_sgy
 unfold SignPost at H_sgn H_sgy
 unfold OverPost at H_over
 unfold QIPost iV
 generalize x.natAbs / y.natAbs = dd at *
 generalize x.natAbs % y.natAbs = de at *
 obtain ⟨bx, hbx⟩ : ∃ b, decide (x < 0) = b := ⟨_, rfl⟩
 obtain ⟨by', hby⟩ : ∃ b, decide (y < 0) = b := ⟨_, rfl⟩
 rw [hbx, hby] at hsb
 have hsb2 : (!(bx == by')) = sb := hsb
 rw [hby] at H_mul H_mul2 H_sgy
 rw [hbx] at H_sub H_sub2 ⊢
 rw [hby]
 clear hbx hby hsb
 generalize hr1 : x - (q0 x y - 1) * y = r1 at *
 generalize (q0 x y - 1) * y = q1y at *
 generalize hq1 : q0 x y - 1 = q1 at *
 clear hr1 hq1
 generalize x - q0 x y * y = r at *
 generalize q0 x y * y = qy at *
 generalize q0 x y = q at *
 generalize decide (qy < 0) = bqy at *
 generalize decide (q1y < 0) = bq1y at *
 generalize decide (zi < 0) = bzi at *
 obtain ⟨bq1, hbq1⟩ : ∃ b, decide (q1 < 0) = b := ⟨_, rfl⟩
 obtain ⟨br1, hbr1⟩ : ∃ b, decide (r1 < 0) = b := ⟨_, rfl⟩
 rw [hbq1] at H_adj H_mul2
 rw [hbr1] at H_sub2
 have HQQ := i' hbq1
 have HRR := i' hbr1
 clear hbq1 hbr1
 obtain ⟨bq, hbq⟩ : ∃ b, decide (q < 0) = b := ⟨_, rfl⟩
 rw [hbq] at H_made H_mul H_adj
 obtain ⟨pa, ba, oa, ca, rfl, hra⟩ := h1
 obtain ⟨pb, bb, ob, cb, rfl, hrb⟩ := h2
 clear hra hrb
 generalize (Nm.dg D9 x.natAbs).length = la at *
 generalize (Nm.dg D9 y.natAbs).length = lb at *
 obtain ⟨w0, hw0⟩ : ∃ w0 : World, w0 = (((w.alloc (.cells #[.bool bx, .slice pa la ca] 52)).alloc (.cells #[.bool by', .slice pb lb cb] 52)).alloc (.cells #[.bool false, .slice none 0 0] 52)).alloc (.cells #[.bool false, .slice none 0 0] 52) := ⟨_, rfl⟩
 have hb0 : Hid (Below w.heap.size w w0) := by rw [hw0]; exact ((((Below.refl _ _).alloc (Nat.le_refl _) _).alloc (by simp) _).alloc (by simp; omega) _).alloc (by simp; omega) _
 have I1 : Hid (ZC (.bool bx) (.slice pa la ca) w0 w.heap.size) := by rw [hw0]; exact (((ZC.new rfl).alloc _).alloc _).alloc _
 have I2 : Hid (ZC (.bool by') (.slice pb lb cb) w0 (w.heap.size + 1)) := by rw [hw0]; exact ((ZC.new (by simp)).alloc _).alloc _
 have I3 : Hid (ZC (.bool false) (.slice none 0 0) w0 (w.heap.size + 1 + 1)) := by rw [hw0]; exact (ZC.new (by simp)).alloc _
 have I4 : Hid (ZC (.bool false) (.slice none 0 0) w0 (w.heap.size + 1 + 1 + 1)) := by rw [hw0]; exact ZC.new (by simp)
 have Hsz : Hid (w.heap.size + 4 ≤ w0.heap.size) := by rw [hw0]; show _ ≤ _; simp
 have RX := i' (Ri.below HX.out hb0.out (Nat.le_refl _))
 have RY := i' (Ri.below HY.out hb0.out (Nat.le_refl _))
 have Hw0 := i' hw0
 clear hw0 HX HY
 go_enter Tryz.func98, Tryz.ntmps98
 go_wp2_with fail
 rw [← Hw0.out]
 clear Hw0
 refine (H_over.out _ _ _ RX.out RY.out).mono ?_
 rintro e y1 ⟨vq, vr, rfl, rq, rr, b1⟩
 have D := i' b1
 obtain ⟨k0, k1, _⟩ := I1.out.next D.out
 obtain ⟨k2, k3, _⟩ := I2.out.next D.out
 have RQ := i' rq
 obtain ⟨pq, bq', oq, cq, rfl, hrq⟩ := rq
 clear b1 rr hrq
 go_wp2_with fail
 refine (H_made.out _ _ RQ.out).mono ?_
 rintro e y2 ⟨v8, rfl, r8, b2⟩
 have D := i' (chain D.out b2)
 obtain ⟨u2, hu2⟩ : ∃ u : World, u = y2.alloc (.cells #[.bool bq, v8] 52) := ⟨_, rfl⟩
 have R8 : Hid (Rz u2 v8 q) := by rw [hu2]; exact Ri.allocd r8 _
 have T8 : Hid (ZC (.bool bq) v8 u2 y2.heap.size) := by rw [hu2]; exact ZC.new rfl
 have hw8 : Hid (w0.heap.size ≤ y2.heap.size) := D.out.size
 have hy2 : Hid (w.heap.size + 4 ≤ y2.heap.size) := Nat.le_trans Hsz.out D.out.size
 have D : Hid (Below w0.heap.size w0 u2) := by rw [hu2]; exact D.out.alloc D.out.size _
 obtain ⟨p8, bb8, o8, c8, rfl, rr8⟩ := r8
 clear rr8
 generalize (Nm.dg D9 q.natAbs).length = l8 at *
 obtain ⟨k0, k1, _⟩ := I1.out.next D.out
 obtain ⟨k2, k3, _⟩ := I2.out.next D.out
 obtain ⟨k4, k5, _⟩ := T8.out
 have HSB : Hid (w.heap.size + 4 ≤ u2.heap.size) := Nat.le_trans Hsz.out D.out.size
 have hu2g : Hid (y2.heap.size < u2.heap.size) := T8.out.lt
 have Hu2 := i' hu2
 clear b2 hu2 RQ
 have RXu := i' (Ri.below RX.out D.out (Nat.le_refl _))
 have RYu := i' (Ri.below RY.out D.out (Nat.le_refl _))
 go_upto_region 3 with (fail)
 rw [← Hu2.out]
 clear Hu2
 obtain ⟨ja, jb, jc, jd, je, jf, jg, jh, ji, jj, jk, jl⟩ := far8q HSB.out
 have jm := hu2g.out
 have jn : ¬ y2.heap.size = u2.heap.size := Nat.ne_of_lt jm
 have jo : ¬ u2.heap.size = y2.heap.size := Nat.ne_of_gt jm
 go_cut [9] (fun s9 wx => ∃ (g9 : Nat) (p9 : Option Addr) (n9 c9 : Nat), s9 = .pointer (some ⟨g9, 0, none⟩) ∧ Hid (CutO (decide (r < 0)) (.slice p9 n9 c9) (Nm.dg D9 r.natAbs) u2.heap.size u2 wx g9))
 case first =>
  rename_i J0 K0 hRJ hMK
  go_region_held3 (fun W' => W'.cell? ⟨w.heap.size, 0, none⟩ = some (.bool bx) ∧ W'.cell? ⟨w.heap.size, 1, none⟩ = some (.slice pa la ca) ∧ W'.cell? ⟨w.heap.size + 1, 0, none⟩ = some (.bool by') ∧ W'.cell? ⟨w.heap.size + 1, 1, none⟩ = some (.slice pb lb cb) ∧ W'.cell? ⟨y2.heap.size, 0, none⟩ = some (.bool bq) ∧ W'.cell? ⟨y2.heap.size, 1, none⟩ = some (.slice p8 l8 c8)) (go_keep)
   (first
    | (go_at_call 83; (with_reducible refine (H_mul.out _ _ _ (by first | exact Ri.drew R8.out | exact Ri.allocd (Ri.drew R8.out) _ | exact Ri.drew (Ri.allocd R8.out _)) (by first | exact Ri.drew RYu.out | exact Ri.allocd (Ri.drew RYu.out) _ | exact Ri.drew (Ri.allocd RYu.out _))).mono ?_); rintro e w1 ⟨vm, rfl, rz1, bz1⟩; (try (have bz1 := k'5b bz1)); have d1 : Below u2.heap.size u2 w1 := chain (by first | exact Below.refl _ _ | exact (Below.refl _ _).drew | exact k'56 _ _ | exact ((Below.refl _ _).drew).alloc (Nat.le_refl _) _) bz1; have e1 : Below u2.heap.size u2 w1 := d1; have p0 := keep1 e1 k0; have p1 := keep1 e1 k1; have p2 := keep1 e1 k2; have p3 := keep1 e1 k3; have p4 := keep1 e1 k4; have p5 := keep1 e1 k5; obtain ⟨j1a, j1b, j1c, j1d, j1e, j1f, j1g, j1h, j1i, j1j, j1k, j1l⟩ := far8q (Nat.le_trans HSB.out e1.size); have j1m := Nat.lt_of_lt_of_le hu2g.out e1.size; have j1n : ¬ y2.heap.size = w1.heap.size := Nat.ne_of_lt j1m; have j1o : ¬ w1.heap.size = y2.heap.size := Nat.ne_of_gt j1m; (try (have A0 := i' (ZC.made (g := u2.heap.size) rfl bz1); obtain ⟨A0a, A0b, A0c, A0d⟩ := A0.out)); (try (have L01 := i' (k'58 (g := u2.heap.size) rfl bz1); obtain ⟨l01x, l01y, l01z⟩ := L01.out)); have G1 := i' rz1; obtain ⟨pr1, br1, or1, cr1, rfl, rr1⟩ := rz1; clear rr1)
    | (go_at_call 117; (with_reducible refine (H_sub.out _ _ _ (by first | exact Ri.below RXu.out e1 (Nat.le_refl _) | exact Ri.allocd (Ri.below RXu.out e1 (Nat.le_refl _)) _) (by first | exact G1.out | exact Ri.allocd G1.out _)).mono ?_); rintro e w2 ⟨vs, rfl, rz2, bz2⟩; (try (have bz2 := k'5b bz2)); have d2 : Below w1.heap.size w1 w2 := chain (by first | exact Below.refl _ _ | exact (Below.refl _ _).drew | exact k'56 _ _ | exact ((Below.refl _ _).drew).alloc (Nat.le_refl _) _) bz2; have e2 : Below u2.heap.size u2 w2 := chain e1 d2; have p0 := keep1 e2 k0; have p1 := keep1 e2 k1; have p2 := keep1 e2 k2; have p3 := keep1 e2 k3; have p4 := keep1 e2 k4; have p5 := keep1 e2 k5; obtain ⟨j2a, j2b, j2c, j2d, j2e, j2f, j2g, j2h, j2i, j2j, j2k, j2l⟩ := far8q (Nat.le_trans HSB.out e2.size); have j2m := Nat.lt_of_lt_of_le hu2g.out e2.size; have j2n : ¬ y2.heap.size = w2.heap.size := Nat.ne_of_lt j2m; have j2o : ¬ w2.heap.size = y2.heap.size := Nat.ne_of_gt j2m; (try (have A1 := i' (ZC.made (g := w1.heap.size) rfl bz2); obtain ⟨A1a, A1b, A1c, A1d⟩ := A1.out)); (try (have A0 := i' (A0.out.next d2); obtain ⟨A0a, A0b, A0c, A0d⟩ := A0.out)); (try (have L02 := i' (k'5a L01.out d2.size); obtain ⟨l02x, l02y, l02z⟩ := L02.out)); (try (have L12 := i' (k'58 (g := w1.heap.size) rfl bz2); obtain ⟨l12x, l12y, l12z⟩ := L12.out)); have G2 := i' rz2; obtain ⟨pr2, br2, or2, cr2, rfl, rr2⟩ := rz2; clear rr2)
    | fail)
  all_goals
   refine hMK _ _ (Met.intro (hRJ _ _ ?_))
   (repeat apply Exists.intro)
   refine ⟨?_, rfl⟩
   refine ⟨_, pr2, (Nm.dg D9 r.natAbs).length, cr2, rfl, ?_⟩
   show CutO _ (.slice pr2 _ cr2) _ u2.heap.size u2 _ _
   have sA0 : u2.heap.size ≤ u2.heap.size := Nat.le_refl _
   have sA1 : u2.heap.size ≤ w1.heap.size := e1.size
   have sA2 : u2.heap.size ≤ w2.heap.size := e2.size
   first
    | with_reducible exact CutO.k1 G2.out e2 sA2
    | with_reducible exact CutO.k2 A0.out sA0 G2.out e2
    | with_reducible exact CutO.k2 A1.out sA1 G2.out e2
    | fail
 obtain ⟨g9, p9, n9, c9, rfl, hcut⟩ := hcut
 obtain ⟨hg9, t9, r9, b9⟩ := hcut.out
 have D := i' (chain D.out b9)
 have T8 := i' (T8.out.next b9)
 have R8 := i' (Ri.below R8.out b9 (Nat.le_refl _))
 have T9 := i' t9
 have R9 := i' r9
 have hg9' : Hid (w.heap.size + 4 ≤ g9) := Nat.le_trans HSB.out hg9
 have hg9w : Hid (w0.heap.size ≤ g9) := Nat.le_trans hw8.out (Nat.le_of_lt (Nat.lt_of_lt_of_le hu2g.out hg9))
 have hg89 : Hid (y2.heap.size < g9) := Nat.lt_of_lt_of_le hu2g.out hg9
 obtain ⟨k0, k1, _⟩ := T9.out
 clear hcut hg9 t9 r9 b9 ja jb jc jd je jf jg jh ji jj jk jl jm jn jo k2 k3 k4 k5
 obtain ⟨br, hbr⟩ : ∃ b, decide (r < 0) = b := ⟨_, rfl⟩
 rw [hbr] at T9 k0 H_sgn
 go_wp2_with fail
 refine (H_sgn.out _ _ R9.out).mono ?_
 rintro e y3 ⟨rfl, b3⟩
 have D := i' (chain D.out b3)
 have T8 := i' (T8.out.next b3)
 have R8 := i' (Ri.below R8.out b3 (Nat.le_refl _))
 have T9 := i' (T9.out.next b3)
 have R9 := i' (Ri.below R9.out b3 (Nat.le_refl _))
 clear b3 k0 k1
 obtain ⟨k2, k3, _⟩ := I2.out.next D.out
 have HRRn := i' hbr
 clear hbr hbq
 go_wp2_with fail
 refine (H_sgy.out _ _ (Ri.below RY.out D.out (Nat.le_refl _))).mono ?_
 rintro e y4 ⟨rfl, b4⟩
 have D := i' (chain D.out b4)
 have T8 := i' (T8.out.next b4)
 have R8 := i' (Ri.below R8.out b4 (Nat.le_refl _))
 have T9 := i' (T9.out.next b4)
 clear b4 k2 k3 R9
 obtain ⟨k4, k5, k6, k7⟩ := T8.out
 have R8d := i' (Ri.drew R8.out)
 go_upto_region 6 with (fail)
 go_cut [38] (fun _ wx => ∃ (p : Option Addr) (n c : Nat), Hid (ZC (.bool bq1) (.slice p n c) wx y2.heap.size) ∧ Hid (Rz wx (.slice p n c) q1) ∧ Hid (ZC (.bool br) (.slice p9 n9 c9) wx g9) ∧ Hid (Below w0.heap.size w0 wx))
 case first =>
  rename_i J0 K0 hRJ hMK
  go_region_with
   (first
    | (go_at_call 74; (with_reducible refine (H_n1.out _).mono ?_); rintro e z1 ⟨v1, rfl, r1, b1⟩; have d1 := chain ((Below.refl y4.heap.size y4).drew) b1; have p4 := keep1 d1 k4; have p5 := keep1 d1 k5; have G1 := i' (And.intro (Ri.below R8d.out b1 (Nat.le_refl _)) r1); have D1 := i' d1; obtain ⟨pq1, bb1, oo1, cc1, rfl, rr1⟩ := r1; clear rr1 b1)
    | (go_at_call 117; (with_reducible refine (H_adj.out _ _ _ G1.out.1 G1.out.2).mono ?_); rintro e z2 ⟨v2, rfl, r2, b2⟩; have d2 := chain D1.out b2; have p4 := keep1 d2 k4; have p5 := keep1 d2 k5; have p6 := keepf d2 k4 k6; have p7 := keepf d2 k5 k7; have G2 := i' r2; have D2 := i' d2; obtain ⟨pq2, bb2, oo2, cq2, rfl, rr2⟩ := r2; clear rr2 b2)
    | fail)
  all_goals
   have ZZ := i' (T8.out.next D2.out)
   refine hMK _ _ (Met.intro (hRJ _ _ ?_))
   (repeat apply Exists.intro)
   refine ⟨?_, rfl⟩
   exact ⟨pq2, _, cq2, ZZ.out.set, G2.out.setq ZZ.out _ _, (T9.out.next D2.out).other (Nat.ne_of_gt hg89.out), k'5c (chain D.out D2.out) (by have := hy2.out; have := Hsz.out; have := hw8.out; omega) _ _⟩
 obtain ⟨p8', n8', c8', T8, R8, T9, D⟩ := hcut
 clear k4 k5 k6 k7 R8d
 have R8d := i' (Ri.drew R8.out)
 have RXu := i' (Ri.below RX.out D.out (Nat.le_refl _))
 have RYd := i' (Ri.drew (Ri.below RY.out D.out (Nat.le_refl _)))
 obtain ⟨k0, k1, _⟩ := I1.out.next D.out
 obtain ⟨k2, k3, _⟩ := I2.out.next D.out
 obtain ⟨k4, k5, _⟩ := T8.out
 obtain ⟨k6, k7, k8, k9⟩ := T9.out
 obtain ⟨y5, hy5⟩ : ∃ y5 : World, y5 = wc := ⟨_, rfl⟩
 subst hy5
 go_upto_region 8 with (fail)
 go_cut [46] (fun _ wx => ∃ (p : Option Addr) (n c : Nat), Hid (ZC (.bool br1) (.slice p n c) wx g9) ∧ Hid (Rz wx (.slice p n c) r1) ∧ Hid (ZC (.bool bq1) (.slice p8' n8' c8') wx y2.heap.size) ∧ Hid (Rz wx (.slice p8' n8' c8') q1) ∧ Hid (Below w0.heap.size w0 wx))
 case first =>
  rename_i J0 K0 hRJ hMK
  go_region_with
   (first
    | (go_at_call 83; (with_reducible refine (H_mul2.out _ _ _ R8d.out RYd.out).mono ?_); rintro e z1 ⟨v1, rfl, rz1, b1⟩; have d1 := chain ((Below.refl y5.heap.size y5).drew) b1; have q0 := keep1 d1 k0; have q1 := keep1 d1 k1; have q2 := keep1 d1 k2; have q3 := keep1 d1 k3; have q4 := keep1 d1 k4; have q5 := keep1 d1 k5; have q6 := keep1 d1 k6; have q7 := keep1 d1 k7; have G1 := i' (And.intro (Ri.below RXu.out d1 (Nat.le_refl _)) rz1); have D1 := i' d1; obtain ⟨pq1, bb1, oo1, cc1, rfl, rr1⟩ := rz1; clear rr1 b1)
    | (go_at_call 117; (with_reducible refine (H_sub2.out _ _ _ G1.out.1 G1.out.2).mono ?_); rintro e z2 ⟨v2, rfl, rz2, b2⟩; have d2 := chain D1.out b2; have q0 := keep1 d2 k0; have q1 := keep1 d2 k1; have q2 := keep1 d2 k2; have q3 := keep1 d2 k3; have q4 := keep1 d2 k4; have q5 := keep1 d2 k5; have q6 := keep1 d2 k6; have q7 := keep1 d2 k7; have p8 := keepf d2 k6 k8; have p9' := keepf d2 k7 k9; have G2 := i' rz2; have D2 := i' d2; obtain ⟨pq2, bb2, oo2, cq2, rfl, rr2⟩ := rz2; clear rr2 b2)
    | fail)
  all_goals
   have ZZ := i' (T9.out.next D2.out)
   refine hMK _ _ (Met.intro (hRJ _ _ ?_))
   (repeat apply Exists.intro)
   refine ⟨?_, rfl⟩
   exact ⟨pq2, _, cq2, ZZ.out.set, G2.out.setq ZZ.out _ _, (T8.out.next D2.out).other (Nat.ne_of_lt hg89.out), (Ri.below R8.out D2.out (Nat.le_refl _)).setq ZZ.out _ _, k'5c (chain D.out D2.out) (by have := hg9w.out; omega) _ _⟩
 obtain ⟨p9', n9', c9', T9, R9, T8, R8, D⟩ := hcut
 clear k0 k1 k2 k3 k4 k5 k6 k7 k8 k9 R8d RXu RYd
 obtain ⟨f0, f1, f2, f3⟩ := T8.out
 obtain ⟨f4, f5, f6, f7⟩ := T9.out
 obtain ⟨m0, m1, m2, m3⟩ := I3.out.next D.out
 obtain ⟨n0, n1, n2, n3⟩ := I4.out.next D.out
 obtain ⟨ja, jb, jc, jd, je, jf, jg, jh, _⟩ := far8q hy2.out
 obtain ⟨qa, qb, qc, qd, qe, qf, qg, qh, _⟩ := far8q hg9'.out
 have i5 := (I4.out.next D.out).other (g2 := w.heap.size + 1 + 1) (u := .bool bq1) (v := (.slice p8' n8' c8')) (by omega)
 have HZ := i' ((k'5c (k'5c (chain hb0.out D.out) (g := w.heap.size + 1 + 1) (by omega) (.bool bq1) (.slice p8' n8' c8')) (g := w.heap.size + 1 + 1 + 1) (by omega) (.bool br1) (.slice p9' n9' c9')).drew)
 have RQf := i' (Ri.drew ((R8.out.setq (I3.out.next D.out) (.bool bq1) (.slice p8' n8' c8')).setq i5 (.bool br1) (.slice p9' n9' c9')))
 have RRf := i' (Ri.drew ((R9.out.setq (I3.out.next D.out) (.bool bq1) (.slice p8' n8' c8')).setq i5 (.bool br1) (.slice p9' n9' c9')))
 clear i5
 go_wp2_with fail
 go_region
 go_wp2
 exact bodyPost_ret (v := .tuple #[.agg #[.bool bq1, (.slice p8' n8' c8')], .agg #[.bool br1, (.slice p9' n9' c9')]]) (by simp [results, Tryz.results98, go_sem, m0, m1, n0, n1]) rfl ⟨_, _, by rw [HQQ.out, HRR.out], RQf.out, RRf.out, HZ.out⟩
theorem k'ac (x y : Int) (v1 v2 : Value) (w : World) (k : Nat) (hk : k ≤ 90000) (hx : x.natAbs < D9 ^ k) (hy : y.natAbs < D9 ^ k) (h1 : Rz w v1 x) (h2 : Rz w v2 y) (hs : y < 0) (hr : x - q0 x y * y < 0) :
 Calls Tryz.prog 98 #[iV x v1, iV y v2] w (QIPost (q0 x y + 1) (x - (q0 x y + 1) * y) w) := by
 have lx := lenD hx
 have ly := lenD hy
 have H_over := i' (fun v1 v2 w g1 g2 => k'71 v1 v2 x.natAbs y.natAbs w (by omega) g1 g2 (by omega) (by omega))
 have H_made := i' (fun v w g => (k'6q (decide (x < 0) != decide (y < 0)) v (x.natAbs / y.natAbs) w g).mono (k'78 (z := q0 x y) rfl))
 have lq := Nat.le_trans (lenD (Nat.lt_of_le_of_lt (q0_le x y) hx)) (by omega : k ≤ 1000000)
 have lqy := Nat.le_trans (lenD (Nat.lt_of_le_of_lt (k'a9 x y) hx)) (by omega : k ≤ 1000000)
 have H_mul := i' (fun v1 v2 w g1 g2 => k'7b (q0 x y) y v1 v2 w g1 g2 lq (by omega))
 have H_sub := i' (fun v1 v2 w g1 g2 => k'7d x (q0 x y * y) v1 v2 w g1 g2 (by omega) lqy)
 have H_sgn := i' (fun v w g => k'7a (x - q0 x y * y) v w g)
 have H_sgy := i' (fun v w g => k'7a y v w g)
 rw [Int.sign_eq_neg_one_of_neg hs] at H_sgy
 rw [Int.sign_eq_neg_one_of_neg hr] at H_sgn
 obtain ⟨zi, hzi⟩ : ∃ z : Int, z = 1 := ⟨_, rfl⟩
 have H_n1 : Hid (∀ w, Calls Tryz.prog 74 #[.int .i64 1] w (IntPost zi w)) := by rw [hzi]; exact fun w => k'8f 1 w (by decide) (by decide)
 have H_adj0 : ∀ z : Int, z = 1 → ∀ v1 v2 w, Rz w v1 (q0 x y) → Rz w v2 z → Calls Tryz.prog 82 #[iV (q0 x y) v1, iV z v2] w (IntPost (q0 x y + 1) w) := by
  intro z hz v1 v2 w g1 g2
  subst hz
  exact k'7c (q0 x y) 1 v1 v2 w g1 g2 lq (Nat.le_trans (lenD (k := 3) (by decide)) (by decide))
 have H_adj := i' (H_adj0 zi hzi)
 clear H_adj0
 have lq1 : (Nm.dg D9 (q0 x y + 1).natAbs).length ≤ 1000000 := by
  have a1 := q0_le x y
  refine Nat.le_trans (lenD (k := k + 1) (twice ?_)) (by omega)
  have : 0 < D9 ^ k := Nat.pow_pos D90
  omega
 have lqy1 : (Nm.dg D9 ((q0 x y + 1) * y).natAbs).length ≤ 1000000 := by
  have a1 := k'a9 x y
  rw [Int.add_mul, Int.one_mul]
  refine Nat.le_trans (lenD (k := k + 1) (twice ?_)) (by omega)
  omega
 have H_mul2 := i' (fun v1 v2 w g1 g2 => k'7b (q0 x y + 1) y v1 v2 w g1 g2 lq1 (by omega))
 have H_sub2 := i' (fun v1 v2 w g1 g2 => k'7d x ((q0 x y + 1) * y) v1 v2 w g1 g2 (by omega) lqy1)
 clear hzi lq1 lqy1
 obtain ⟨sb, hsb⟩ : ∃ sb, (decide (x < 0) != decide (y < 0)) = sb := ⟨_, rfl⟩
 rw [hsb] at H_made
 have HX := i' h1
 have HY := i' h2
 clear lq lqy lx ly hx hy hk hr
 clear hs
 unfold IntPost iV at H_made H_mul H_sub H_adj H_mul2 H_sub2
 unfold IntPost at H_n1
 unfold iV at H_n1
 unfold iV at H_sgn
 unfold iV at H_sgy
 unfold SignPost at H_sgn H_sgy
 unfold OverPost at H_over
 unfold QIPost iV
 generalize x.natAbs / y.natAbs = dd at *
 generalize x.natAbs % y.natAbs = de at *
 obtain ⟨bx, hbx⟩ : ∃ b, decide (x < 0) = b := ⟨_, rfl⟩
 obtain ⟨by', hby⟩ : ∃ b, decide (y < 0) = b := ⟨_, rfl⟩
 rw [hbx, hby] at hsb
 have hsb2 : (!(bx == by')) = sb := hsb
 rw [hby] at H_mul H_mul2 H_sgy
 rw [hbx] at H_sub H_sub2 ⊢
 rw [hby]
 clear hbx hby hsb
 generalize hr1 : x - (q0 x y + 1) * y = r1 at *
 generalize (q0 x y + 1) * y = q1y at *
 generalize hq1 : q0 x y + 1 = q1 at *
 clear hr1 hq1
 generalize x - q0 x y * y = r at *
 generalize q0 x y * y = qy at *
 generalize q0 x y = q at *
 generalize decide (qy < 0) = bqy at *
 generalize decide (q1y < 0) = bq1y at *
 generalize decide (zi < 0) = bzi at *
 obtain ⟨bq1, hbq1⟩ : ∃ b, decide (q1 < 0) = b := ⟨_, rfl⟩
 obtain ⟨br1, hbr1⟩ : ∃ b, decide (r1 < 0) = b := ⟨_, rfl⟩
 rw [hbq1] at H_adj H_mul2
 rw [hbr1] at H_sub2
 have HQQ := i' hbq1
 have HRR := i' hbr1
 clear hbq1 hbr1
 obtain ⟨bq, hbq⟩ : ∃ b, decide (q < 0) = b := ⟨_, rfl⟩
 rw [hbq] at H_made H_mul H_adj
 obtain ⟨pa, ba, oa, ca, rfl, hra⟩ := h1
 obtain ⟨pb, bb, ob, cb, rfl, hrb⟩ := h2
 clear hra hrb
 generalize (Nm.dg D9 x.natAbs).length = la at *
 generalize (Nm.dg D9 y.natAbs).length = lb at *
 obtain ⟨w0, hw0⟩ : ∃ w0 : World, w0 = (((w.alloc (.cells #[.bool bx, .slice pa la ca] 52)).alloc (.cells #[.bool by', .slice pb lb cb] 52)).alloc (.cells #[.bool false, .slice none 0 0] 52)).alloc (.cells #[.bool false, .slice none 0 0] 52) := ⟨_, rfl⟩
 have hb0 : Hid (Below w.heap.size w w0) := by rw [hw0]; exact ((((Below.refl _ _).alloc (Nat.le_refl _) _).alloc (by simp) _).alloc (by simp; omega) _).alloc (by simp; omega) _
 have I1 : Hid (ZC (.bool bx) (.slice pa la ca) w0 w.heap.size) := by rw [hw0]; exact (((ZC.new rfl).alloc _).alloc _).alloc _
 have I2 : Hid (ZC (.bool by') (.slice pb lb cb) w0 (w.heap.size + 1)) := by rw [hw0]; exact ((ZC.new (by simp)).alloc _).alloc _
 have I3 : Hid (ZC (.bool false) (.slice none 0 0) w0 (w.heap.size + 1 + 1)) := by rw [hw0]; exact (ZC.new (by simp)).alloc _
 have I4 : Hid (ZC (.bool false) (.slice none 0 0) w0 (w.heap.size + 1 + 1 + 1)) := by rw [hw0]; exact ZC.new (by simp)
 have Hsz : Hid (w.heap.size + 4 ≤ w0.heap.size) := by rw [hw0]; show _ ≤ _; simp
 have RX := i' (Ri.below HX.out hb0.out (Nat.le_refl _))
 have RY := i' (Ri.below HY.out hb0.out (Nat.le_refl _))
 have Hw0 := i' hw0
 clear hw0 HX HY
 go_enter Tryz.func98, Tryz.ntmps98
 go_wp2_with fail
 rw [← Hw0.out]
 clear Hw0
 refine (H_over.out _ _ _ RX.out RY.out).mono ?_
 rintro e y1 ⟨vq, vr, rfl, rq, rr, b1⟩
 have D := i' b1
 obtain ⟨k0, k1, _⟩ := I1.out.next D.out
 obtain ⟨k2, k3, _⟩ := I2.out.next D.out
 have RQ := i' rq
 obtain ⟨pq, bq', oq, cq, rfl, hrq⟩ := rq
 clear b1 rr hrq
 go_wp2_with fail
 refine (H_made.out _ _ RQ.out).mono ?_
 rintro e y2 ⟨v8, rfl, r8, b2⟩
 have D := i' (chain D.out b2)
 obtain ⟨u2, hu2⟩ : ∃ u : World, u = y2.alloc (.cells #[.bool bq, v8] 52) := ⟨_, rfl⟩
 have R8 : Hid (Rz u2 v8 q) := by rw [hu2]; exact Ri.allocd r8 _
 have T8 : Hid (ZC (.bool bq) v8 u2 y2.heap.size) := by rw [hu2]; exact ZC.new rfl
 have hw8 : Hid (w0.heap.size ≤ y2.heap.size) := D.out.size
 have hy2 : Hid (w.heap.size + 4 ≤ y2.heap.size) := Nat.le_trans Hsz.out D.out.size
 have D : Hid (Below w0.heap.size w0 u2) := by rw [hu2]; exact D.out.alloc D.out.size _
 obtain ⟨p8, bb8, o8, c8, rfl, rr8⟩ := r8
 clear rr8
 generalize (Nm.dg D9 q.natAbs).length = l8 at *
 obtain ⟨k0, k1, _⟩ := I1.out.next D.out
 obtain ⟨k2, k3, _⟩ := I2.out.next D.out
 obtain ⟨k4, k5, _⟩ := T8.out
 have HSB : Hid (w.heap.size + 4 ≤ u2.heap.size) := Nat.le_trans Hsz.out D.out.size
 have hu2g : Hid (y2.heap.size < u2.heap.size) := T8.out.lt
 have Hu2 := i' hu2
 clear b2 hu2 RQ
 have RXu := i' (Ri.below RX.out D.out (Nat.le_refl _))
 have RYu := i' (Ri.below RY.out D.out (Nat.le_refl _))
 go_upto_region 3 with (fail)
 rw [← Hu2.out]
 clear Hu2
 obtain ⟨ja, jb, jc, jd, je, jf, jg, jh, ji, jj, jk, jl⟩ := far8q HSB.out
 have jm := hu2g.out
 have jn : ¬ y2.heap.size = u2.heap.size := Nat.ne_of_lt jm
 have jo : ¬ u2.heap.size = y2.heap.size := Nat.ne_of_gt jm
 go_cut [9] (fun s9 wx => ∃ (g9 : Nat) (p9 : Option Addr) (n9 c9 : Nat), s9 = .pointer (some ⟨g9, 0, none⟩) ∧ Hid (CutO (decide (r < 0)) (.slice p9 n9 c9) (Nm.dg D9 r.natAbs) u2.heap.size u2 wx g9))
 case first =>
  rename_i J0 K0 hRJ hMK
  go_region_held3 (fun W' => W'.cell? ⟨w.heap.size, 0, none⟩ = some (.bool bx) ∧ W'.cell? ⟨w.heap.size, 1, none⟩ = some (.slice pa la ca) ∧ W'.cell? ⟨w.heap.size + 1, 0, none⟩ = some (.bool by') ∧ W'.cell? ⟨w.heap.size + 1, 1, none⟩ = some (.slice pb lb cb) ∧ W'.cell? ⟨y2.heap.size, 0, none⟩ = some (.bool bq) ∧ W'.cell? ⟨y2.heap.size, 1, none⟩ = some (.slice p8 l8 c8)) (go_keep)
   (first
    | (go_at_call 83; (with_reducible refine (H_mul.out _ _ _ (by first | exact Ri.drew R8.out | exact Ri.allocd (Ri.drew R8.out) _ | exact Ri.drew (Ri.allocd R8.out _)) (by first | exact Ri.drew RYu.out | exact Ri.allocd (Ri.drew RYu.out) _ | exact Ri.drew (Ri.allocd RYu.out _))).mono ?_); rintro e w1 ⟨vm, rfl, rz1, bz1⟩; (try (have bz1 := k'5b bz1)); have d1 : Below u2.heap.size u2 w1 := chain (by first | exact Below.refl _ _ | exact (Below.refl _ _).drew | exact k'56 _ _ | exact ((Below.refl _ _).drew).alloc (Nat.le_refl _) _) bz1; have e1 : Below u2.heap.size u2 w1 := d1; have p0 := keep1 e1 k0; have p1 := keep1 e1 k1; have p2 := keep1 e1 k2; have p3 := keep1 e1 k3; have p4 := keep1 e1 k4; have p5 := keep1 e1 k5; obtain ⟨j1a, j1b, j1c, j1d, j1e, j1f, j1g, j1h, j1i, j1j, j1k, j1l⟩ := far8q (Nat.le_trans HSB.out e1.size); have j1m := Nat.lt_of_lt_of_le hu2g.out e1.size; have j1n : ¬ y2.heap.size = w1.heap.size := Nat.ne_of_lt j1m; have j1o : ¬ w1.heap.size = y2.heap.size := Nat.ne_of_gt j1m; (try (have A0 := i' (ZC.made (g := u2.heap.size) rfl bz1); obtain ⟨A0a, A0b, A0c, A0d⟩ := A0.out)); (try (have L01 := i' (k'58 (g := u2.heap.size) rfl bz1); obtain ⟨l01x, l01y, l01z⟩ := L01.out)); have G1 := i' rz1; obtain ⟨pr1, br1, or1, cr1, rfl, rr1⟩ := rz1; clear rr1)
    | (go_at_call 117; (with_reducible refine (H_sub.out _ _ _ (by first | exact Ri.below RXu.out e1 (Nat.le_refl _) | exact Ri.allocd (Ri.below RXu.out e1 (Nat.le_refl _)) _) (by first | exact G1.out | exact Ri.allocd G1.out _)).mono ?_); rintro e w2 ⟨vs, rfl, rz2, bz2⟩; (try (have bz2 := k'5b bz2)); have d2 : Below w1.heap.size w1 w2 := chain (by first | exact Below.refl _ _ | exact (Below.refl _ _).drew | exact k'56 _ _ | exact ((Below.refl _ _).drew).alloc (Nat.le_refl _) _) bz2; have e2 : Below u2.heap.size u2 w2 := chain e1 d2; have p0 := keep1 e2 k0; have p1 := keep1 e2 k1; have p2 := keep1 e2 k2; have p3 := keep1 e2 k3; have p4 := keep1 e2 k4; have p5 := keep1 e2 k5; obtain ⟨j2a, j2b, j2c, j2d, j2e, j2f, j2g, j2h, j2i, j2j, j2k, j2l⟩ := far8q (Nat.le_trans HSB.out e2.size); have j2m := Nat.lt_of_lt_of_le hu2g.out e2.size; have j2n : ¬ y2.heap.size = w2.heap.size := Nat.ne_of_lt j2m; have j2o : ¬ w2.heap.size = y2.heap.size := Nat.ne_of_gt j2m; (try (have A1 := i' (ZC.made (g := w1.heap.size) rfl bz2); obtain ⟨A1a, A1b, A1c, A1d⟩ := A1.out)); (try (have A0 := i' (A0.out.next d2); obtain ⟨A0a, A0b, A0c, A0d⟩ := A0.out)); (try (have L02 := i' (k'5a L01.out d2.size); obtain ⟨l02x, l02y, l02z⟩ := L02.out)); (try (have L12 := i' (k'58 (g := w1.heap.size) rfl bz2); obtain ⟨l12x, l12y, l12z⟩ := L12.out)); have G2 := i' rz2; obtain ⟨pr2, br2, or2, cr2, rfl, rr2⟩ := rz2; clear rr2)
    | fail)
  all_goals
   refine hMK _ _ (Met.intro (hRJ _ _ ?_))
   (repeat apply Exists.intro)
   refine ⟨?_, rfl⟩
   refine ⟨_, pr2, (Nm.dg D9 r.natAbs).length, cr2, rfl, ?_⟩
   show CutO _ (.slice pr2 _ cr2) _ u2.heap.size u2 _ _
   have sA0 : u2.heap.size ≤ u2.heap.size := Nat.le_refl _
   have sA1 : u2.heap.size ≤ w1.heap.size := e1.size
   have sA2 : u2.heap.size ≤ w2.heap.size := e2.size
   first
    | with_reducible exact CutO.k1 G2.out e2 sA2
    | with_reducible exact CutO.k2 A0.out sA0 G2.out e2
    | with_reducible exact CutO.k2 A1.out sA1 G2.out e2
    | fail
 obtain ⟨g9, p9, n9, c9, rfl, hcut⟩ := hcut
 obtain ⟨hg9, t9, r9, b9⟩ := hcut.out
 have D := i' (chain D.out b9)
 have T8 := i' (T8.out.next b9)
 have R8 := i' (Ri.below R8.out b9 (Nat.le_refl _))
 have T9 := i' t9
 have R9 := i' r9
 have hg9' : Hid (w.heap.size + 4 ≤ g9) := Nat.le_trans HSB.out hg9
 have hg9w : Hid (w0.heap.size ≤ g9) := Nat.le_trans hw8.out (Nat.le_of_lt (Nat.lt_of_lt_of_le hu2g.out hg9))
 have hg89 : Hid (y2.heap.size < g9) := Nat.lt_of_lt_of_le hu2g.out hg9
 obtain ⟨k0, k1, _⟩ := T9.out
 clear hcut hg9 t9 r9 b9 ja jb jc jd je jf jg jh ji jj jk jl jm jn jo k2 k3 k4 k5
 obtain ⟨br, hbr⟩ : ∃ b, decide (r < 0) = b := ⟨_, rfl⟩
 rw [hbr] at T9 k0 H_sgn
 go_wp2_with fail
 refine (H_sgn.out _ _ R9.out).mono ?_
 rintro e y3 ⟨rfl, b3⟩
 have D := i' (chain D.out b3)
 have T8 := i' (T8.out.next b3)
 have R8 := i' (Ri.below R8.out b3 (Nat.le_refl _))
 have T9 := i' (T9.out.next b3)
 have R9 := i' (Ri.below R9.out b3 (Nat.le_refl _))
 clear b3 k0 k1
 obtain ⟨k2, k3, _⟩ := I2.out.next D.out
 have HRRn := i' hbr
 clear hbr hbq
 go_wp2_with fail
 refine (H_sgy.out _ _ (Ri.below RY.out D.out (Nat.le_refl _))).mono ?_
 rintro e y4 ⟨rfl, b4⟩
 have D := i' (chain D.out b4)
 have T8 := i' (T8.out.next b4)
 have R8 := i' (Ri.below R8.out b4 (Nat.le_refl _))
 have T9 := i' (T9.out.next b4)
 clear b4 k2 k3 R9
 obtain ⟨k4, k5, k6, k7⟩ := T8.out
 have R8d := i' (Ri.drew R8.out)
 go_upto_region 7 with (fail)
 go_cut [41] (fun _ wx => ∃ (p : Option Addr) (n c : Nat), Hid (ZC (.bool bq1) (.slice p n c) wx y2.heap.size) ∧ Hid (Rz wx (.slice p n c) q1) ∧ Hid (ZC (.bool br) (.slice p9 n9 c9) wx g9) ∧ Hid (Below w0.heap.size w0 wx))
 case first =>
  rename_i J0 K0 hRJ hMK
  go_region_with
   (first
    | (go_at_call 74; (with_reducible refine (H_n1.out _).mono ?_); rintro e z1 ⟨v1, rfl, r1, b1⟩; have d1 := chain ((Below.refl y4.heap.size y4).drew) b1; have p4 := keep1 d1 k4; have p5 := keep1 d1 k5; have G1 := i' (And.intro (Ri.below R8d.out b1 (Nat.le_refl _)) r1); have D1 := i' d1; obtain ⟨pq1, bb1, oo1, cc1, rfl, rr1⟩ := r1; clear rr1 b1)
    | (go_at_call 82; (with_reducible refine (H_adj.out _ _ _ G1.out.1 G1.out.2).mono ?_); rintro e z2 ⟨v2, rfl, r2, b2⟩; have d2 := chain D1.out b2; have p4 := keep1 d2 k4; have p5 := keep1 d2 k5; have p6 := keepf d2 k4 k6; have p7 := keepf d2 k5 k7; have G2 := i' r2; have D2 := i' d2; obtain ⟨pq2, bb2, oo2, cq2, rfl, rr2⟩ := r2; clear rr2 b2)
    | fail)
  all_goals
   have ZZ := i' (T8.out.next D2.out)
   refine hMK _ _ (Met.intro (hRJ _ _ ?_))
   (repeat apply Exists.intro)
   refine ⟨?_, rfl⟩
   exact ⟨pq2, _, cq2, ZZ.out.set, G2.out.setq ZZ.out _ _, (T9.out.next D2.out).other (Nat.ne_of_gt hg89.out), k'5c (chain D.out D2.out) (by have := hy2.out; have := Hsz.out; have := hw8.out; omega) _ _⟩
 obtain ⟨p8', n8', c8', T8, R8, T9, D⟩ := hcut
 clear k4 k5 k6 k7 R8d
 have R8d := i' (Ri.drew R8.out)
 have RXu := i' (Ri.below RX.out D.out (Nat.le_refl _))
 have RYd := i' (Ri.drew (Ri.below RY.out D.out (Nat.le_refl _)))
 obtain ⟨k0, k1, _⟩ := I1.out.next D.out
 obtain ⟨k2, k3, _⟩ := I2.out.next D.out
 obtain ⟨k4, k5, _⟩ := T8.out
 obtain ⟨k6, k7, k8, k9⟩ := T9.out
 obtain ⟨y5, hy5⟩ : ∃ y5 : World, y5 = wc := ⟨_, rfl⟩
 subst hy5
 go_upto_region 8 with (fail)
 go_cut [46] (fun _ wx => ∃ (p : Option Addr) (n c : Nat), Hid (ZC (.bool br1) (.slice p n c) wx g9) ∧ Hid (Rz wx (.slice p n c) r1) ∧ Hid (ZC (.bool bq1) (.slice p8' n8' c8') wx y2.heap.size) ∧ Hid (Rz wx (.slice p8' n8' c8') q1) ∧ Hid (Below w0.heap.size w0 wx))
 case first =>
  rename_i J0 K0 hRJ hMK
  go_region_with
   (first
    | (go_at_call 83; (with_reducible refine (H_mul2.out _ _ _ R8d.out RYd.out).mono ?_); rintro e z1 ⟨v1, rfl, rz1, b1⟩; have d1 := chain ((Below.refl y5.heap.size y5).drew) b1; have q0 := keep1 d1 k0; have q1 := keep1 d1 k1; have q2 := keep1 d1 k2; have q3 := keep1 d1 k3; have q4 := keep1 d1 k4; have q5 := keep1 d1 k5; have q6 := keep1 d1 k6; have q7 := keep1 d1 k7; have G1 := i' (And.intro (Ri.below RXu.out d1 (Nat.le_refl _)) rz1); have D1 := i' d1; obtain ⟨pq1, bb1, oo1, cc1, rfl, rr1⟩ := rz1; clear rr1 b1)
    | (go_at_call 117; (with_reducible refine (H_sub2.out _ _ _ G1.out.1 G1.out.2).mono ?_); rintro e z2 ⟨v2, rfl, rz2, b2⟩; have d2 := chain D1.out b2; have q0 := keep1 d2 k0; have q1 := keep1 d2 k1; have q2 := keep1 d2 k2; have q3 := keep1 d2 k3; have q4 := keep1 d2 k4; have q5 := keep1 d2 k5; have q6 := keep1 d2 k6; have q7 := keep1 d2 k7; have p8 := keepf d2 k6 k8; have p9' := keepf d2 k7 k9; have G2 := i' rz2; have D2 := i' d2; obtain ⟨pq2, bb2, oo2, cq2, rfl, rr2⟩ := rz2; clear rr2 b2)
    | fail)
  all_goals
   have ZZ := i' (T9.out.next D2.out)
   refine hMK _ _ (Met.intro (hRJ _ _ ?_))
   (repeat apply Exists.intro)
   refine ⟨?_, rfl⟩
   exact ⟨pq2, _, cq2, ZZ.out.set, G2.out.setq ZZ.out _ _, (T8.out.next D2.out).other (Nat.ne_of_lt hg89.out), (Ri.below R8.out D2.out (Nat.le_refl _)).setq ZZ.out _ _, k'5c (chain D.out D2.out) (by have := hg9w.out; omega) _ _⟩
 obtain ⟨p9', n9', c9', T9, R9, T8, R8, D⟩ := hcut
 clear k0 k1 k2 k3 k4 k5 k6 k7 k8 k9 R8d RXu RYd
 obtain ⟨f0, f1, f2, f3⟩ := T8.out
 obtain ⟨f4, f5, f6, f7⟩ := T9.out
 obtain ⟨m0, m1, m2, m3⟩ := I3.out.next D.out
 obtain ⟨n0, n1, n2, n3⟩ := I4.out.next D.out
 obtain ⟨ja, jb, jc, jd, je, jf, jg, jh, _⟩ := far8q hy2.out
 obtain ⟨qa, qb, qc, qd, qe, qf, qg, qh, _⟩ := far8q hg9'.out
 have i5 := (I4.out.next D.out).other (g2 := w.heap.size + 1 + 1) (u := .bool bq1) (v := (.slice p8' n8' c8')) (by omega)
 have HZ := i' ((k'5c (k'5c (chain hb0.out D.out) (g := w.heap.size + 1 + 1) (by omega) (.bool bq1) (.slice p8' n8' c8')) (g := w.heap.size + 1 + 1 + 1) (by omega) (.bool br1) (.slice p9' n9' c9')).drew)
 have RQf := i' (Ri.drew ((R8.out.setq (I3.out.next D.out) (.bool bq1) (.slice p8' n8' c8')).setq i5 (.bool br1) (.slice p9' n9' c9')))
 have RRf := i' (Ri.drew ((R9.out.setq (I3.out.next D.out) (.bool bq1) (.slice p8' n8' c8')).setq i5 (.bool br1) (.slice p9' n9' c9')))
 clear i5
 go_wp2_with fail
 go_region
 go_wp2
 exact bodyPost_ret (v := .tuple #[.agg #[.bool bq1, (.slice p8' n8' c8')], .agg #[.bool br1, (.slice p9' n9' c9')]]) (by simp [results, Tryz.results98, go_sem, m0, m1, n0, n1]) rfl ⟨_, _, by rw [HQQ.out, HRR.out], RQf.out, RRf.out, HZ.out⟩
theorem k'ad (x y : Int) (v1 v2 : Value) (w : World) (k : Nat) (hk : k ≤ 90000) (hx : x.natAbs < D9 ^ k) (hy : y.natAbs < D9 ^ k) (h1 : Rz w v1 x) (h2 : Rz w v2 y) (hy0 : y ≠ 0) :
 Calls Tryz.prog 98 #[iV x v1, iV y v2] w (QIPost (x / y) (x % y) w) := by
 rcases Int.lt_or_le (x - q0 x y * y) 0 with hr | hr
 ·rcases Int.lt_or_gt_of_ne hy0 with hs | hs
  ·have h := k'ac x y v1 v2 w k hk hx hy h1 h2 hs hr
   obtain ⟨e1, e2⟩ := k'a8 hs hr
   rwa [e2, e1] at h
  ·have h := k'ab x y v1 v2 w k hk hx hy h1 h2 hs hr
   obtain ⟨e1, e2⟩ := k'a7 hs hr
   rwa [e2, e1] at h
 ·have h := k'aa x y v1 v2 w k hk hx hy h1 h2 hy0 hr
  obtain ⟨e1, e2⟩ := k'a6 hy0 hr
  rwa [e2, e1] at h
end Go.Proofs.YtepddegphdlbeaaGreat
