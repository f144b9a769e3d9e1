/- What the theorem leans on, part 13: Rq8, Lpa, Rpo, Pof, Rq5, Pe8, Rps, Pcv. -/
import Derived.Test.YtepddegphdlbeaaGreatD12
import Derived.Test.YtepddegphdlbeaaGreatD9
import Derived.Test.YtepddegphdlbeaaGreatD11
import Derived.Test.YtepddegphdlbeaaGreatD6
import Derived.Test.YtepddegphdlbeaaGreatD8
import Derived.Test.YtepddegphdlbeaaGreatD5
import Derived.Test.YtepddegphdlbeaaGreatD10
import Derived.Deep.QuietTactic
import Derived.BigQuiet
import Derived.Laws.StructEq
import Derived.Test.YtepddegphdlbeaaGreatD3

/- The reference's Mul. -/
namespace Go.Proofs.YtepddegphdlbeaaGreat
open Go.RowKit

theorem rat_int (p : List Int) (v : Value) (d : Int) (w : World) (h : RP w v p) (h0 : 0 ≤ d) (hk : d ≤ 9223372036854775807) : Calls Tryz.prog 84 #[v, .int .i64 d] w (IntPost (Pl.cf p d.toNat) w) := by
  have := rat_any p v d.toNat w h (by omega)
  rwa [Int.toNat_of_nonneg h0] at this
theorem conv_bd {n m : Nat} {p q : List Int} (s1 : Sz n p) (s2 : Sz m q) (j i : Nat) : (Pl.conv p q j i).natAbs ≤ j * D9 ^ (n + m) := by
  induction j with
  | zero => simp [Pl.conv]
  | succ j ih =>
    rw [Pl.conv]
    have h2 : (if j ≤ i then Pl.cf p j * Pl.cf q (i - j) else 0).natAbs ≤ D9 ^ (n + m) := by
      split
      · rw [Int.natAbs_mul]; exact Nat.le_of_lt (mulD9 (s1 _) (s2 _))
      · simp
    refine Nat.le_trans (Int.natAbs_add_le _ _) ?_
    rw [Nat.succ_mul]
    omega
theorem conv_lt {n m : Nat} {p q : List Int} (s1 : Sz n p) (s2 : Sz m q) (j i : Nat) (hj : j ≤ 100000) : (Pl.conv p q j i).natAbs < D9 ^ (n + m + 1) := by
  refine Nat.lt_of_le_of_lt (conv_bd s1 s2 j i) ?_
  rw [Nat.pow_succ, Nat.mul_comm j]
  exact Nat.mul_lt_mul_of_pos_left (by show j < 1000000000; omega) (Nat.pow_pos (by decide))
theorem Sz.mul {n m : Nat} {p q : List Int} (s1 : Sz n p) (s2 : Sz m q) (l : p.length ≤ 1000) : Sz (n + m + 1) (Pl.mul p q) := fun k => by
  rw [Pl.cf_mul]; exact conv_lt s1 s2 _ _ (by omega)

set_option maxRecDepth 100000 in
set_option maxHeartbeats 4000000 in
theorem rMul2_any (n m : Nat) (hn : n + m ≤ 90000) (p q : List Int) (v1 v2 : Value) (w : World) (h1 : RP w v1 p) (h2 : RP w v2 q) (l1 : p.length ≤ 1000) (l2 : q.length ≤ 1000) (s1 : Sz n p) (s2 : Sz m q) :
    Calls Tryz.prog 28 #[v1, v2] w (RPPost (Pl.trim (Pl.mul p q)) w) := by
  have HA1 := Lib.hid (fun (d : Int) (h0 : 0 ≤ d) (hk : d ≤ 9223372036854775807) w' (hb : Below w.heap.size w w') => rat_int p v1 d w' (h1.below hb) h0 hk)
  have HA2 := Lib.hid (fun (d : Int) (h0 : 0 ≤ d) (hk : d ≤ 9223372036854775807) w' (hb : Below w.heap.size w w') => rat_int q v2 d w' (h2.below hb) h0 hk)
  obtain ⟨f, hf⟩ : ∃ f : Nat → Int, f = fun i => Pl.cf (Pl.mul p q) i := ⟨_, rfl⟩
  have HM := Lib.hid (fun j i u1 u2 w' (g1 : Rz w' u1 (Pl.cf p j)) (g2 : Rz w' u2 (Pl.cf q i)) => rmul_int (Pl.cf p j) (Pl.cf q i) u1 u2 w' g1 g2 (Nat.le_trans (s1.len j) (by omega)) (Nat.le_trans (s2.len i) (by omega)))
  have HS := Lib.hid (fun j i (hj : j ≤ 10000) (hji : j ≤ i) u1 u2 w' (g1 : Rz w' u1 (Pl.conv p q j i)) (g2 : Rz w' u2 (Pl.cf p j * Pl.cf q (i - j))) => show Calls Tryz.prog 82 #[iV (Pl.conv p q j i) u1, iV (Pl.cf p j * Pl.cf q (i - j)) u2] w' (IntPost (Pl.conv p q (j + 1) i) w') by
    have := radd_int _ _ u1 u2 w' g1 g2 (Nat.le_trans (len9 (conv_lt s1 s2 j i (by omega))) (by omega)) (Nat.le_trans (len9 (by rw [Int.natAbs_mul]; exact mulD9 (s1 j) (s2 (i - j)))) (by omega))
    rw [Pl.conv, if_pos hji]
    exact this)
  have HE := Lib.hid (fun i => show Pl.conv p q (i + 1) i = f i by rw [hf]; exact Pl.conv_full p q i)
  have HT : Hid (¬ p = [] → ¬ q = [] → Pl.trim (tab f (p.length + q.length - 1)) = Pl.trim (Pl.mul p q)) := fun hp hq => Pl.trim_ext fun k => by
    rw [cf_tab, hf]
    split
    · rfl
    · next h => rw [Pl.cf_ge (p := Pl.mul p q) (by rw [Pl.mul_length p q hp hq]; omega)]
  have HNil : Hid (p = [] ∨ q = [] → Pl.trim (Pl.mul p q) = []) := by
    rintro (h | h)
    · subst h; rfl
    · subst h; exact Pl.mul_nil p
  obtain ⟨a1, b1, o1, c1, rfl, -, -, -, -⟩ := h1
  obtain ⟨a2, b2, o2, c2, rfl, -, -, -, -⟩ := h2
  have HNil2 : Hid (p.length = 0 ∨ q.length = 0 → Pl.trim (Pl.mul p q) = []) := fun h => HNil.out (h.imp List.eq_nil_of_length_eq_zero List.eq_nil_of_length_eq_zero)
  have HT2 : Hid (¬ p.length = 0 → ¬ q.length = 0 → Pl.trim (tab f (p.length + q.length - 1)) = Pl.trim (Pl.mul p q)) := fun h k => HT.out (fun e => h (by rw [e]; rfl)) (fun e => k (by rw [e]; rfl))
  generalize Pl.trim (Pl.mul p q) = res at *
  clear s1 s2 hn hf HNil HT
  obtain ⟨n1, hn1⟩ : ∃ n, n = p.length := ⟨_, rfl⟩
  obtain ⟨n2, hn2⟩ : ∃ n, n = q.length := ⟨_, rfl⟩
  rw [← hn1] at HA1 HNil2 HT2 l1 ⊢
  rw [← hn2] at HA2 HNil2 HT2 l2 ⊢
  clear hn1 hn2
  obtain ⟨N, hN⟩ : ∃ N, N = n1 + n2 - 1 := ⟨_, rfl⟩
  rw [← hN] at HT2
  have HNN := Lib.hid hN
  have hN1 : N ≤ 2000 := by omega
  clear hN
  go_enter Tryz.func28, Tryz.ntmps28
  go_wp2
  go_loopw [5, 6] (fun v iv wr => ∃ (wz : World) (k : Nat), wz = wr ∧ k ≤ N ∧ iv = .int .i64 (k : Int) ∧ Hid (RowP wz w.heap.size v (tab f k)) ∧ Hid (Below w.heap.size w wz))
    (fun _ iv _ => N - (intOf iv).toNat)
  case atStart => exact ⟨w, 0, rfl, Nat.zero_le _, rfl, RowP.nil _ _, Below.refl _ _⟩
  case round =>
    obtain ⟨wz, i, rfl, hi, rfl, hrow, hbl⟩ := hrel
    have hi0 : (0 : Int) ≤ (i : Int) := by omega
    by_cases hlt : i < N
    · have hii : (i : Int) < (n1 : Int) + (n2 : Int) - 1 := by have := HNN.out; omega
      have HS := Lib.hid (fun j (hj : j ≤ i) => HS.out j i (by omega) hj)
      have HE := Lib.hid (HE.out i)
      obtain ⟨g, hg⟩ : ∃ g : Nat → Int, g = fun j => Pl.conv p q j i := ⟨_, rfl⟩
      have HG : ∀ j, Pl.conv p q j i = g j := fun j => by rw [hg]
      simp only [HG] at HS HE
      have G0 : Hid (g 0 = 0) := by show _ = _; rw [hg]; rfl
      obtain ⟨u0, hu0⟩ : ∃ u0 : World, u0 = wz.alloc (.cells #[.bool false, .slice none 0 0] 52) := ⟨_, rfl⟩
      have T0 : Hid (Bz u0 wz.heap.size (g 0)) := by show Bz _ _ _; rw [hu0, G0.out]; exact Bz.made (rz_zero wz)
      have D0 : Hid (Below wz.heap.size wz u0) := by rw [hu0]; exact below_one _ _
      have Hu0 := Lib.hid hu0
      clear hu0 HG hg G0
      go_upto_region 6 with (fail)
      rw [← Hu0.out]
      clear Hu0
      go_wp2
      go_loopw [8] (fun jv wq => ∃ (wy : World) (j : Nat), wy = wq ∧ j ≤ i + 1 ∧ jv = .int .i64 (j : Int) ∧ Hid (Bz wy wz.heap.size (g j)) ∧ Hid (Below wz.heap.size wz wy))
        (fun jv _ => i + 1 - (intOf jv).toNat)
      case atStart => exact ⟨u0, 0, rfl, Nat.zero_le _, rfl, T0.out, D0.out⟩
      case round =>
        clear T0 D0
        obtain ⟨wy, j, rfl, hj, rfl, ht, hd⟩ := hrel
        have hj0 : (0 : Int) ≤ (j : Int) := by omega
        obtain ⟨pz, cz, R, k0, k1, k2, k3⟩ := ht.out.open_
        by_cases hle : j ≤ i
        · have hji : (j : Int) ≤ (i : Int) := by omega
          have ZB : Hid (ZC (.bool (decide (g j < 0))) (.slice pz (Nm.dg D9 (g j).natAbs).length cz) wy.drew wz.heap.size) := ⟨k0, k1, k2, k3⟩
          have RB : Hid (Rz wy.drew (.slice pz (Nm.dg D9 (g j).natAbs).length cz) (g j)) := R.drew
          have D : Hid (Below wy.heap.size wy wy.drew) := (Below.refl _ _).drew
          have HB := Lib.hid (chain hbl.out hd.out)
          have HA1 := Lib.hid (fun w' (hb : Below wy.heap.size wy w') => HA1.out (j : Int) hj0 (by omega) w' (chain HB.out hb))
          have HA2 := Lib.hid (fun w' (hb : Below wy.heap.size wy w') => HA2.out ((i : Int) - (j : Int)) (by omega) (by omega) w' (chain HB.out hb))
          have HM := Lib.hid (HM.out j (i - j))
          have HS := Lib.hid (HS.out j hle)
          have hw : IntKind.i64.wrap ((i : Int) - (j : Int)) = (i : Int) - (j : Int) := IntWalk.i64_in _ (by omega)
          rw [show ((j : Int)).toNat = j by omega] at HA1
          rw [show ((i : Int) - (j : Int)).toNat = i - j by omega] at HA2
          generalize Pl.cf p j = x at *
          generalize Pl.cf q (i - j) = y0 at *
          generalize x * y0 = xy at *
          unfold iV at HM HS
          clear R
          go_upto_region 9 with (fail)
          refine wp_region_noPanic ?_
          refine wp_region_held_drew (S := (fun _ => True)) (by kernel_rfl) ?_ (fun hHeld => ?_)
          · trivial
          refine wpAnyH_take (i := 1) (oi := ?oi1) (v := ?v1) ?hi1 (by kernel_rfl) (by kernel_rfl) (by kernel_rfl) (fun _ _ _ h => h) (Or.inl ⟨?hw1, ?hy1⟩) (by assumption) ?rest1
          case hi1 => simp only [List.getElem?_toArray, List.getElem?_cons_succ, List.getElem?_cons_zero]; rfl
          case hw1 => rfl
          case hy1 =>
            intro w hSw
            (try dsimp only at hSw)
            go_simp
            (try with_reducible rfl)
          (try simp only [Act.put, List.setIfInBounds_toArray, List.set_cons_zero, List.set_cons_succ])
          refine wpAnyH_take (i := 2) (oi := ?oi2) (v := ?v2) ?hi2 (by kernel_rfl) (by kernel_rfl) (by kernel_rfl) (fun _ _ _ h => h) (Or.inl ⟨?hw2, ?hy2⟩) (by assumption) ?rest2
          case hi2 => simp only [List.getElem?_toArray, List.getElem?_cons_succ, List.getElem?_cons_zero]; rfl
          case hw2 => rfl
          case hy2 =>
            intro w hSw
            (try dsimp only at hSw)
            go_simp
            (try with_reducible rfl)
          (try simp only [Act.put, List.setIfInBounds_toArray, List.set_cons_zero, List.set_cons_succ])
          refine wpAnyH_take (i := 4) (oi := ?oi3) (v := ?v3) ?hi3 (by kernel_rfl) (by kernel_rfl) (by kernel_rfl) (fun _ _ _ h => h) (Or.inl ⟨?hw3, ?hy3⟩) (by assumption) ?rest3
          case hi3 => simp only [List.getElem?_toArray, List.getElem?_cons_succ, List.getElem?_cons_zero]; rfl
          case hw3 => rfl
          case hy3 =>
            intro w hSw
            (try dsimp only at hSw)
            go_simp
            (try with_reducible rfl)
          (try simp only [Act.put, List.setIfInBounds_toArray, List.set_cons_zero, List.set_cons_succ])
          refine wpAnyH_take (i := 5) (oi := ?oi4) (v := ?v4) ?hi4 (by kernel_rfl) (by kernel_rfl) (by kernel_rfl) (fun _ _ _ h => h) (Or.inl ⟨?hw4, ?hy4⟩) (by assumption) ?rest4
          case hi4 => simp only [List.getElem?_toArray, List.getElem?_cons_succ, List.getElem?_cons_zero]; rfl
          case hw4 => rfl
          case hy4 =>
            intro w hSw
            (try dsimp only at hSw)
            go_simp
            (try with_reducible rfl)
          (try simp only [Act.put, List.setIfInBounds_toArray, List.set_cons_zero, List.set_cons_succ])
          refine wpAnyH_take (i := 6) (oi := ?oi5) (v := ?v5) ?hi5 (by kernel_rfl) (by kernel_rfl) (by kernel_rfl) (fun _ _ _ h => h) (Or.inl ⟨?hw5, ?hy5⟩) (by assumption) ?rest5
          case hi5 => simp only [List.getElem?_toArray, List.getElem?_cons_succ, List.getElem?_cons_zero]; rfl
          case hw5 => rfl
          case hy5 =>
            intro w hSw
            (try dsimp only at hSw)
            go_simp
            (try with_reducible rfl)
          (try simp only [Act.put, List.setIfInBounds_toArray, List.set_cons_zero, List.set_cons_succ])
          refine wpAnyH_take (i := 7) (oi := ?oi6) (v := ?v6) ?hi6 (by kernel_rfl) (by kernel_rfl) (by kernel_rfl) (fun _ _ _ h => h) (Or.inl ⟨?hw6, ?hy6⟩) (by assumption) ?rest6
          case hi6 => simp only [List.getElem?_toArray, List.getElem?_cons_succ, List.getElem?_cons_zero]; rfl
          case hw6 => rfl
          case hy6 =>
            intro w hSw
            (try dsimp only at hSw)
            go_simp
            (try with_reducible rfl)
          (try simp only [Act.put, List.setIfInBounds_toArray, List.set_cons_zero, List.set_cons_succ])
          refine wpAnyH_ready (rs := [0, 3]) (by kernel_rfl) (by simp) ?_
          refine AllReadyH.cons (o := ?oi26) ?hi26 ?rest26 (AllReadyH.cons (o := ?oi27) ?hi27 ?rest27 AllReadyH.nil)
          case hi26 => simp only [List.getElem?_toArray, List.getElem?_cons_succ, List.getElem?_cons_zero]; rfl
          case hi27 => simp only [List.getElem?_toArray, List.getElem?_cons_succ, List.getElem?_cons_zero]; rfl
          case rest26 =>
            intro K hK
            go_simp
            refine hK.out _ _ ?_ (fun hHeld => ?_)
            · trivial
            clear hK K
            (try simp only [Act.put, List.setIfInBounds_toArray, List.set_cons_zero, List.set_cons_succ])
            refine wpAnyH_ready (rs := [3]) (by kernel_rfl) (by simp) ?_
            refine AllReadyH.cons (o := ?oi11) ?hi11 ?rest11 AllReadyH.nil
            case hi11 => simp only [List.getElem?_toArray, List.getElem?_cons_succ, List.getElem?_cons_zero]; rfl
            intro K hK
            go_simp
            (with_reducible refine (HA1.out _ D.out).mono ?_)
            rintro e y ⟨u1, rfl, r1, b1⟩
            have R1 := Lib.hid r1
            have D := Lib.hid (chain D.out b1)
            have ZB := Lib.hid (ZB.out.next b1)
            have RB := Lib.hid (RB.out.below b1)
            clear k0 k1 k2 k3
            obtain ⟨k0, k1, k2, k3⟩ := ZB.out
            clear r1 b1
            unfold iV
            (try go_wp2_with fail)
            refine hK.out _ _ ?_ (fun hHeld => ?_)
            · trivial
            clear hK K
            (try simp only [Act.put, List.setIfInBounds_toArray, List.set_cons_zero, List.set_cons_succ])
            refine wpAnyH_ready (rs := [8]) (by kernel_rfl) (by simp) ?_
            refine AllReadyH.cons (o := ?oi10) ?hi10 ?rest10 AllReadyH.nil
            case hi10 => simp only [List.getElem?_toArray, List.getElem?_cons_succ, List.getElem?_cons_zero]; rfl
            intro K hK
            go_simp
            (with_reducible refine (HA2.out _ D.out).mono ?_)
            rintro e y ⟨u2, rfl, r2, b2⟩
            have R1 := Lib.hid (R1.out.below b2)
            have R2 := Lib.hid r2
            have D := Lib.hid (chain D.out b2)
            have ZB := Lib.hid (ZB.out.next b2)
            have RB := Lib.hid (RB.out.below b2)
            clear k0 k1 k2 k3
            obtain ⟨k0, k1, k2, k3⟩ := ZB.out
            clear r2 b2
            unfold iV
            (try go_wp2_with fail)
            refine hK.out _ _ ?_ (fun hHeld => ?_)
            · trivial
            clear hK K
            (try simp only [Act.put, List.setIfInBounds_toArray, List.set_cons_zero, List.set_cons_succ])
            refine wpAnyH_ready (rs := [9]) (by kernel_rfl) (by simp) ?_
            refine AllReadyH.cons (o := ?oi9) ?hi9 ?rest9 AllReadyH.nil
            case hi9 => simp only [List.getElem?_toArray, List.getElem?_cons_succ, List.getElem?_cons_zero]; rfl
            intro K hK
            go_simp
            (with_reducible refine (HM.out _ _ _ R1.out R2.out).mono ?_)
            rintro e y ⟨u3, rfl, r3, b3⟩
            have R3 := Lib.hid r3
            have D := Lib.hid (chain D.out b3)
            have ZB := Lib.hid (ZB.out.next b3)
            have RB := Lib.hid (RB.out.below b3)
            clear k0 k1 k2 k3
            obtain ⟨k0, k1, k2, k3⟩ := ZB.out
            clear r3 b3
            unfold iV
            (try go_wp2_with fail)
            refine hK.out _ _ ?_ (fun hHeld => ?_)
            · trivial
            clear hK K
            (try simp only [Act.put, List.setIfInBounds_toArray, List.set_cons_zero, List.set_cons_succ])
            refine wpAnyH_ready (rs := [10]) (by kernel_rfl) (by simp) ?_
            refine AllReadyH.cons (o := ?oi8) ?hi8 ?rest8 AllReadyH.nil
            case hi8 => simp only [List.getElem?_toArray, List.getElem?_cons_succ, List.getElem?_cons_zero]; rfl
            intro K hK
            go_simp
            (with_reducible refine (HS.out _ _ _ RB.out R3.out).mono ?_)
            rintro e y ⟨u4, rfl, r4, b4⟩
            have D := Lib.hid (chain D.out b4)
            have ZB := Lib.hid (ZB.out.next b4)
            have RB := Lib.hid (RB.out.below b4)
            clear k0 k1 k2 k3
            obtain ⟨k0, k1, k2, k3⟩ := ZB.out
            unfold iV
            obtain ⟨p4, bb4, o4, c4, rfl, rr4⟩ := r4
            have R4 : Hid (Rz y (.slice p4 (Nm.dg D9 (g (j + 1)).natAbs).length c4) (g (j + 1))) := ⟨p4, bb4, o4, c4, rfl, rr4⟩
            clear b4 rr4
            (try go_wp2_with fail)
            refine hK.out _ _ ?_ (fun hHeld => ?_)
            · trivial
            clear hK K
            (try simp only [Act.put, List.setIfInBounds_toArray, List.set_cons_zero, List.set_cons_succ])
            refine wpAnyH_ready (rs := [11]) (by kernel_rfl) (by simp) ?_
            refine AllReadyH.cons (o := ?oi7) ?hi7 ?rest7 AllReadyH.nil
            case hi7 => simp only [List.getElem?_toArray, List.getElem?_cons_succ, List.getElem?_cons_zero]; rfl
            intro K hK
            go_simp
            refine hK.out _ _ ?_ (fun hHeld => ?_)
            · trivial
            clear hK K
            (try simp only [Act.put, List.setIfInBounds_toArray, List.set_cons_zero, List.set_cons_succ])
            refine wpAnyH_done (by kernel_rfl) ?_ _
            refine NoPanic.normal ?_
            (try dsimp only [Exit.then])
            have TT := Lib.hid (Bz.store ⟨_, RB.out, ZB.out⟩ R4.out)
            have CC := Lib.hid (below_set2 (chain hd.out D.out) (g := wz.heap.size) (Nat.le_refl _) (.bool (decide (g (j + 1) < 0))) (.slice p4 (Nm.dg D9 (g (j + 1)).natAbs).length c4))
            go_wp2
            go_roundw
            case rel => exact ⟨_, j + 1, rfl, by omega, by go_num, TT.out, CC.out⟩
            case measure => simp [intOf]; omega
          case rest27 =>
            intro K hK
            go_simp
            (with_reducible refine (HA1.out _ D.out).mono ?_)
            rintro e y ⟨u1, rfl, r1, b1⟩
            have R1 := Lib.hid r1
            have D := Lib.hid (chain D.out b1)
            have ZB := Lib.hid (ZB.out.next b1)
            have RB := Lib.hid (RB.out.below b1)
            clear k0 k1 k2 k3
            obtain ⟨k0, k1, k2, k3⟩ := ZB.out
            clear r1 b1
            unfold iV
            (try go_wp2_with fail)
            refine hK.out _ _ ?_ (fun hHeld => ?_)
            · trivial
            clear hK K
            (try simp only [Act.put, List.setIfInBounds_toArray, List.set_cons_zero, List.set_cons_succ])
            refine wpAnyH_ready (rs := [0, 8]) (by kernel_rfl) (by simp) ?_
            refine AllReadyH.cons (o := ?oi24) ?hi24 ?rest24 (AllReadyH.cons (o := ?oi25) ?hi25 ?rest25 AllReadyH.nil)
            case hi24 => simp only [List.getElem?_toArray, List.getElem?_cons_succ, List.getElem?_cons_zero]; rfl
            case hi25 => simp only [List.getElem?_toArray, List.getElem?_cons_succ, List.getElem?_cons_zero]; rfl
            case rest24 =>
              intro K hK
              go_simp
              refine hK.out _ _ ?_ (fun hHeld => ?_)
              · trivial
              clear hK K
              (try simp only [Act.put, List.setIfInBounds_toArray, List.set_cons_zero, List.set_cons_succ])
              refine wpAnyH_ready (rs := [8]) (by kernel_rfl) (by simp) ?_
              refine AllReadyH.cons (o := ?oi15) ?hi15 ?rest15 AllReadyH.nil
              case hi15 => simp only [List.getElem?_toArray, List.getElem?_cons_succ, List.getElem?_cons_zero]; rfl
              intro K hK
              go_simp
              (with_reducible refine (HA2.out _ D.out).mono ?_)
              rintro e y ⟨u2, rfl, r2, b2⟩
              have R1 := Lib.hid (R1.out.below b2)
              have R2 := Lib.hid r2
              have D := Lib.hid (chain D.out b2)
              have ZB := Lib.hid (ZB.out.next b2)
              have RB := Lib.hid (RB.out.below b2)
              clear k0 k1 k2 k3
              obtain ⟨k0, k1, k2, k3⟩ := ZB.out
              clear r2 b2
              unfold iV
              (try go_wp2_with fail)
              refine hK.out _ _ ?_ (fun hHeld => ?_)
              · trivial
              clear hK K
              (try simp only [Act.put, List.setIfInBounds_toArray, List.set_cons_zero, List.set_cons_succ])
              refine wpAnyH_ready (rs := [9]) (by kernel_rfl) (by simp) ?_
              refine AllReadyH.cons (o := ?oi14) ?hi14 ?rest14 AllReadyH.nil
              case hi14 => simp only [List.getElem?_toArray, List.getElem?_cons_succ, List.getElem?_cons_zero]; rfl
              intro K hK
              go_simp
              (with_reducible refine (HM.out _ _ _ R1.out R2.out).mono ?_)
              rintro e y ⟨u3, rfl, r3, b3⟩
              have R3 := Lib.hid r3
              have D := Lib.hid (chain D.out b3)
              have ZB := Lib.hid (ZB.out.next b3)
              have RB := Lib.hid (RB.out.below b3)
              clear k0 k1 k2 k3
              obtain ⟨k0, k1, k2, k3⟩ := ZB.out
              clear r3 b3
              unfold iV
              (try go_wp2_with fail)
              refine hK.out _ _ ?_ (fun hHeld => ?_)
              · trivial
              clear hK K
              (try simp only [Act.put, List.setIfInBounds_toArray, List.set_cons_zero, List.set_cons_succ])
              refine wpAnyH_ready (rs := [10]) (by kernel_rfl) (by simp) ?_
              refine AllReadyH.cons (o := ?oi13) ?hi13 ?rest13 AllReadyH.nil
              case hi13 => simp only [List.getElem?_toArray, List.getElem?_cons_succ, List.getElem?_cons_zero]; rfl
              intro K hK
              go_simp
              (with_reducible refine (HS.out _ _ _ RB.out R3.out).mono ?_)
              rintro e y ⟨u4, rfl, r4, b4⟩
              have D := Lib.hid (chain D.out b4)
              have ZB := Lib.hid (ZB.out.next b4)
              have RB := Lib.hid (RB.out.below b4)
              clear k0 k1 k2 k3
              obtain ⟨k0, k1, k2, k3⟩ := ZB.out
              unfold iV
              obtain ⟨p4, bb4, o4, c4, rfl, rr4⟩ := r4
              have R4 : Hid (Rz y (.slice p4 (Nm.dg D9 (g (j + 1)).natAbs).length c4) (g (j + 1))) := ⟨p4, bb4, o4, c4, rfl, rr4⟩
              clear b4 rr4
              (try go_wp2_with fail)
              refine hK.out _ _ ?_ (fun hHeld => ?_)
              · trivial
              clear hK K
              (try simp only [Act.put, List.setIfInBounds_toArray, List.set_cons_zero, List.set_cons_succ])
              refine wpAnyH_ready (rs := [11]) (by kernel_rfl) (by simp) ?_
              refine AllReadyH.cons (o := ?oi12) ?hi12 ?rest12 AllReadyH.nil
              case hi12 => simp only [List.getElem?_toArray, List.getElem?_cons_succ, List.getElem?_cons_zero]; rfl
              intro K hK
              go_simp
              refine hK.out _ _ ?_ (fun hHeld => ?_)
              · trivial
              clear hK K
              (try simp only [Act.put, List.setIfInBounds_toArray, List.set_cons_zero, List.set_cons_succ])
              refine wpAnyH_done (by kernel_rfl) ?_ _
              refine NoPanic.normal ?_
              (try dsimp only [Exit.then])
              have TT := Lib.hid (Bz.store ⟨_, RB.out, ZB.out⟩ R4.out)
              have CC := Lib.hid (below_set2 (chain hd.out D.out) (g := wz.heap.size) (Nat.le_refl _) (.bool (decide (g (j + 1) < 0))) (.slice p4 (Nm.dg D9 (g (j + 1)).natAbs).length c4))
              go_wp2
              go_roundw
              case rel => exact ⟨_, j + 1, rfl, by omega, by go_num, TT.out, CC.out⟩
              case measure => simp [intOf]; omega
            case rest25 =>
              intro K hK
              go_simp
              (with_reducible refine (HA2.out _ D.out).mono ?_)
              rintro e y ⟨u2, rfl, r2, b2⟩
              have R1 := Lib.hid (R1.out.below b2)
              have R2 := Lib.hid r2
              have D := Lib.hid (chain D.out b2)
              have ZB := Lib.hid (ZB.out.next b2)
              have RB := Lib.hid (RB.out.below b2)
              clear k0 k1 k2 k3
              obtain ⟨k0, k1, k2, k3⟩ := ZB.out
              clear r2 b2
              unfold iV
              (try go_wp2_with fail)
              refine hK.out _ _ ?_ (fun hHeld => ?_)
              · trivial
              clear hK K
              (try simp only [Act.put, List.setIfInBounds_toArray, List.set_cons_zero, List.set_cons_succ])
              refine wpAnyH_ready (rs := [0, 9]) (by kernel_rfl) (by simp) ?_
              refine AllReadyH.cons (o := ?oi22) ?hi22 ?rest22 (AllReadyH.cons (o := ?oi23) ?hi23 ?rest23 AllReadyH.nil)
              case hi22 => simp only [List.getElem?_toArray, List.getElem?_cons_succ, List.getElem?_cons_zero]; rfl
              case hi23 => simp only [List.getElem?_toArray, List.getElem?_cons_succ, List.getElem?_cons_zero]; rfl
              case rest22 =>
                intro K hK
                go_simp
                refine hK.out _ _ ?_ (fun hHeld => ?_)
                · trivial
                clear hK K
                (try simp only [Act.put, List.setIfInBounds_toArray, List.set_cons_zero, List.set_cons_succ])
                refine wpAnyH_ready (rs := [9]) (by kernel_rfl) (by simp) ?_
                refine AllReadyH.cons (o := ?oi18) ?hi18 ?rest18 AllReadyH.nil
                case hi18 => simp only [List.getElem?_toArray, List.getElem?_cons_succ, List.getElem?_cons_zero]; rfl
                intro K hK
                go_simp
                (with_reducible refine (HM.out _ _ _ R1.out R2.out).mono ?_)
                rintro e y ⟨u3, rfl, r3, b3⟩
                have R3 := Lib.hid r3
                have D := Lib.hid (chain D.out b3)
                have ZB := Lib.hid (ZB.out.next b3)
                have RB := Lib.hid (RB.out.below b3)
                clear k0 k1 k2 k3
                obtain ⟨k0, k1, k2, k3⟩ := ZB.out
                clear r3 b3
                unfold iV
                (try go_wp2_with fail)
                refine hK.out _ _ ?_ (fun hHeld => ?_)
                · trivial
                clear hK K
                (try simp only [Act.put, List.setIfInBounds_toArray, List.set_cons_zero, List.set_cons_succ])
                refine wpAnyH_ready (rs := [10]) (by kernel_rfl) (by simp) ?_
                refine AllReadyH.cons (o := ?oi17) ?hi17 ?rest17 AllReadyH.nil
                case hi17 => simp only [List.getElem?_toArray, List.getElem?_cons_succ, List.getElem?_cons_zero]; rfl
                intro K hK
                go_simp
                (with_reducible refine (HS.out _ _ _ RB.out R3.out).mono ?_)
                rintro e y ⟨u4, rfl, r4, b4⟩
                have D := Lib.hid (chain D.out b4)
                have ZB := Lib.hid (ZB.out.next b4)
                have RB := Lib.hid (RB.out.below b4)
                clear k0 k1 k2 k3
                obtain ⟨k0, k1, k2, k3⟩ := ZB.out
                unfold iV
                obtain ⟨p4, bb4, o4, c4, rfl, rr4⟩ := r4
                have R4 : Hid (Rz y (.slice p4 (Nm.dg D9 (g (j + 1)).natAbs).length c4) (g (j + 1))) := ⟨p4, bb4, o4, c4, rfl, rr4⟩
                clear b4 rr4
                (try go_wp2_with fail)
                refine hK.out _ _ ?_ (fun hHeld => ?_)
                · trivial
                clear hK K
                (try simp only [Act.put, List.setIfInBounds_toArray, List.set_cons_zero, List.set_cons_succ])
                refine wpAnyH_ready (rs := [11]) (by kernel_rfl) (by simp) ?_
                refine AllReadyH.cons (o := ?oi16) ?hi16 ?rest16 AllReadyH.nil
                case hi16 => simp only [List.getElem?_toArray, List.getElem?_cons_succ, List.getElem?_cons_zero]; rfl
                intro K hK
                go_simp
                refine hK.out _ _ ?_ (fun hHeld => ?_)
                · trivial
                clear hK K
                (try simp only [Act.put, List.setIfInBounds_toArray, List.set_cons_zero, List.set_cons_succ])
                refine wpAnyH_done (by kernel_rfl) ?_ _
                refine NoPanic.normal ?_
                (try dsimp only [Exit.then])
                have TT := Lib.hid (Bz.store ⟨_, RB.out, ZB.out⟩ R4.out)
                have CC := Lib.hid (below_set2 (chain hd.out D.out) (g := wz.heap.size) (Nat.le_refl _) (.bool (decide (g (j + 1) < 0))) (.slice p4 (Nm.dg D9 (g (j + 1)).natAbs).length c4))
                go_wp2
                go_roundw
                case rel => exact ⟨_, j + 1, rfl, by omega, by go_num, TT.out, CC.out⟩
                case measure => simp [intOf]; omega
              case rest23 =>
                intro K hK
                go_simp
                (with_reducible refine (HM.out _ _ _ R1.out R2.out).mono ?_)
                rintro e y ⟨u3, rfl, r3, b3⟩
                have R3 := Lib.hid r3
                have D := Lib.hid (chain D.out b3)
                have ZB := Lib.hid (ZB.out.next b3)
                have RB := Lib.hid (RB.out.below b3)
                clear k0 k1 k2 k3
                obtain ⟨k0, k1, k2, k3⟩ := ZB.out
                clear r3 b3
                unfold iV
                (try go_wp2_with fail)
                refine hK.out _ _ ?_ (fun hHeld => ?_)
                · trivial
                clear hK K
                (try simp only [Act.put, List.setIfInBounds_toArray, List.set_cons_zero, List.set_cons_succ])
                refine wpAnyH_ready (rs := [0]) (by kernel_rfl) (by simp) ?_
                refine AllReadyH.cons (o := ?oi21) ?hi21 ?rest21 AllReadyH.nil
                case hi21 => simp only [List.getElem?_toArray, List.getElem?_cons_succ, List.getElem?_cons_zero]; rfl
                intro K hK
                go_simp
                refine hK.out _ _ ?_ (fun hHeld => ?_)
                · trivial
                clear hK K
                (try simp only [Act.put, List.setIfInBounds_toArray, List.set_cons_zero, List.set_cons_succ])
                refine wpAnyH_ready (rs := [10]) (by kernel_rfl) (by simp) ?_
                refine AllReadyH.cons (o := ?oi20) ?hi20 ?rest20 AllReadyH.nil
                case hi20 => simp only [List.getElem?_toArray, List.getElem?_cons_succ, List.getElem?_cons_zero]; rfl
                intro K hK
                go_simp
                (with_reducible refine (HS.out _ _ _ RB.out R3.out).mono ?_)
                rintro e y ⟨u4, rfl, r4, b4⟩
                have D := Lib.hid (chain D.out b4)
                have ZB := Lib.hid (ZB.out.next b4)
                have RB := Lib.hid (RB.out.below b4)
                clear k0 k1 k2 k3
                obtain ⟨k0, k1, k2, k3⟩ := ZB.out
                unfold iV
                obtain ⟨p4, bb4, o4, c4, rfl, rr4⟩ := r4
                have R4 : Hid (Rz y (.slice p4 (Nm.dg D9 (g (j + 1)).natAbs).length c4) (g (j + 1))) := ⟨p4, bb4, o4, c4, rfl, rr4⟩
                clear b4 rr4
                (try go_wp2_with fail)
                refine hK.out _ _ ?_ (fun hHeld => ?_)
                · trivial
                clear hK K
                (try simp only [Act.put, List.setIfInBounds_toArray, List.set_cons_zero, List.set_cons_succ])
                refine wpAnyH_ready (rs := [11]) (by kernel_rfl) (by simp) ?_
                refine AllReadyH.cons (o := ?oi19) ?hi19 ?rest19 AllReadyH.nil
                case hi19 => simp only [List.getElem?_toArray, List.getElem?_cons_succ, List.getElem?_cons_zero]; rfl
                intro K hK
                go_simp
                refine hK.out _ _ ?_ (fun hHeld => ?_)
                · trivial
                clear hK K
                (try simp only [Act.put, List.setIfInBounds_toArray, List.set_cons_zero, List.set_cons_succ])
                refine wpAnyH_done (by kernel_rfl) ?_ _
                refine NoPanic.normal ?_
                (try dsimp only [Exit.then])
                have TT := Lib.hid (Bz.store ⟨_, RB.out, ZB.out⟩ R4.out)
                have CC := Lib.hid (below_set2 (chain hd.out D.out) (g := wz.heap.size) (Nat.le_refl _) (.bool (decide (g (j + 1) < 0))) (.slice p4 (Nm.dg D9 (g (j + 1)).natAbs).length c4))
                go_wp2
                go_roundw
                case rel => exact ⟨_, j + 1, rfl, by omega, by go_num, TT.out, CC.out⟩
                case measure => simp [intOf]; omega
        · have hji : ¬ (j : Int) ≤ (i : Int) := by omega
          obtain rfl : j = i + 1 := by omega
          have HX5 := Lib.hid (hrow.out.below hd.out)
          have HB5 := Lib.hid (chain hbl.out hd.out)
          have HR5 : Hid (Rz wy (.slice pz (Nm.dg D9 (f i).natAbs).length cz) (f i)) := by have h5 := R; rw [HE.out] at h5; exact h5
          have HM := Lib.hid (tab_snoc f i)
          rw [HE.out] at k0 k1
          clear R ht HE
          go_wp2_with (at_builtin; refine wpList_append_P rfl rfl _ _ rfl rfl rfl HX5.out HR5.out (by rw [tab_length]; omega) HB5.out ?_)
          intro v' w1 hrow1 hb1 _
          have HN1 := Lib.hid hrow1
          have HB1 := Lib.hid hb1
          rw [HM.out] at HN1
          clear hrow1 hb1
          go_wp2
          go_roundw
          case rel => exact ⟨_, i + 1, rfl, by omega, by go_num, HN1.out, HB1.out⟩
          case measure => simp [intOf]; omega
    · obtain rfl : i = N := by omega
      have hii : (n1 : Int) + (n2 : Int) - 1 ≤ (i : Int) := by have := HNN.out; omega
      by_cases hz1 : n1 = 0
      · have HZ := Lib.hid (HNil2.out (Or.inl hz1))
        subst hz1
        go_wp2
        go_ret
        exact ⟨.slice none 0 0, rfl, by rw [HZ.out]; exact RP.nil wz, hbl.out⟩
      · by_cases hz2 : n2 = 0
        · have HZ := Lib.hid (HNil2.out (Or.inr hz2))
          have z1 : ((n1 : Int) == 0) = false := by simp; omega
          subst hz2
          go_wp2
          go_ret
          exact ⟨.slice none 0 0, rfl, by rw [HZ.out]; exact RP.nil wz, hbl.out⟩
        · have HZ := Lib.hid (HT2.out hz1 hz2)
          have z1 : ((n1 : Int) == 0) = false := by simp; omega
          have z2 : ((n2 : Int) == 0) = false := by simp; omega
          clear hz1 hz2
          go_wp2_with fail
          refine (rTrim_any _ _ _ hrow.out.rp).mono ?_
          rintro e w6 ⟨v6, rfl, r6, b6⟩
          have HR6 := Lib.hid r6
          rw [HZ.out] at HR6
          have HB6 := Lib.hid (chain hbl.out b6)
          clear r6 b6
          go_wp2
          go_ret
          exact ⟨_, rfl, HR6.out, HB6.out⟩
end Go.Proofs.YtepddegphdlbeaaGreat

/- Sums in the law's sizes. -/
namespace Go.Proofs.YtepddegphdlbeaaGreat
open Go.RowKit

theorem bvk {s : ByteArray} {k n : Nat} (hk : n = k) (hs : s.size ≤ n) : bv s < 256 ^ k := by
  subst hk
  have h5 := Nm.val_lt (dig_rev s)
  rw [rev_length] at h5
  exact Nat.lt_of_lt_of_le h5 (Nat.pow_le_pow_right (by decide) hs)
theorem nine_fit {z : Int} {n k : Nat} (h : z.natAbs < D9 ^ n) (hk : 4 * n = k) : Fit z k := by
  subst hk
  refine Nat.lt_of_lt_of_le h ?_
  rw [Nat.pow_mul]
  exact Nat.pow_le_pow_left (by decide) n
theorem cf_mem {p : List Int} {a : Int} (h : a ∈ p) : ∃ k, Pl.cf p k = a := by
  obtain ⟨k, hk, rfl⟩ := List.mem_iff_getElem.1 h
  exact ⟨k, Pl.cf_lt hk⟩
theorem Sz.top {n : Nat} {p : List Int} (h : Sz n p) (hn : n ≤ 2000) : ∀ a ∈ p, a.natAbs < Top := by
  intro a ha
  obtain ⟨k, rfl⟩ := cf_mem ha
  exact (nine_fit (h k) rfl).top (by omega)
theorem Sz.len9 {n : Nat} {p : List Int} (h : Sz n p) (hn : n ≤ 2000) : ∀ a ∈ p, (Nm.dg D9 a.natAbs).length ≤ 1000000 := by
  intro a ha
  obtain ⟨k, rfl⟩ := cf_mem ha
  exact (nine_fit (h k) rfl).len (by omega)
theorem shP_sz {p : List Int} (h : shP (zl p) = true) : Sz 16 p := by
  intro k
  rcases Nat.lt_or_ge k p.length with g | g
  · rw [Pl.cf_lt g]
    have h1 := shP_size h (zb p[k], zs p[k]) (List.mem_map.2 ⟨p[k], List.getElem_mem g, rfl⟩)
    have h2 := bvk (k := 16) rfl h1
    rw [bv_zs] at h2
    exact Nat.lt_of_lt_of_le h2 (Nat.pow_le_pow_left (by decide) 16)
  · rw [Pl.cf_ge g]; exact Nat.pow_pos (by decide)
theorem lenV_16 {z : Int} (h : (zs z).size ≤ 16) (ht : z.natAbs < Top) : lenV (zb z) (zs z) ≤ 200 := by
  rw [lenV_ok (zb_zs_valid ht)]
  unfold lenB
  split
  · have : Lib.bitLen (zs z)[0].toNat ≤ 8 := Lib.bitLen_le8 ⟨(zs z)[0].toNat, UInt8.toNat_lt _⟩
    omega
  · omega
theorem glb_le (L : List (Bool × ByteArray)) (B : Int) (hB : 0 ≤ B) (h : ∀ x ∈ L, lenV x.1 x.2 ≤ B) : glb L ≤ B := by
  have key : ∀ (L : List (Bool × ByteArray)) (m : Int), m ≤ B → (∀ x ∈ L, lenV x.1 x.2 ≤ B) → L.foldl (fun m x => max m (lenV x.1 x.2)) m ≤ B := by
    intro L
    induction L with
    | nil => intro m hm _; exact hm
    | cons x L ih =>
      intro m hm hx
      refine ih _ ?_ (fun y hy => hx y (List.mem_cons_of_mem _ hy))
      have := hx x List.mem_cons_self
      show max m (lenV x.1 x.2) ≤ B
      omega
  exact key L 0 hB h
theorem shP_glb {p : List Int} (h : shP (zl p) = true) (hp : VP p) : glb (zl p) ≤ 200 := by
  refine glb_le _ 200 (by decide) ?_
  intro x hx
  have h1 := shP_size h x hx
  obtain ⟨z, hz, rfl⟩ := List.mem_map.1 hx
  exact lenV_16 h1 (hp.top z hz)
end Go.Proofs.YtepddegphdlbeaaGreat

/- The reference's polynomials: To. -/
namespace Go.Proofs.YtepddegphdlbeaaGreat
open Go.RowKit

/-- A row of the call's own that holds wide integers. -/
def RowW (w : World) (B : Nat) (v : Value) (p : List Int) : Prop := w.ownsRow B 44 2 v p.length (wv p)
theorem RowW.rp {w : World} {B : Nat} {v : Value} {p : List Int} (h : RowW w B v p) : Rp w v p := by
  rcases h.2 with ⟨rfl, h0⟩ | ⟨g, cap, cur, rfl, hB, hg, hn, hm, hs, ht⟩
  · obtain rfl := List.eq_nil_of_length_eq_zero h0; exact Rw.nil w
  · refine Rp.mk (b := g) (off := 0) rfl hn hm (fun _ => rfl) fun k hk => ⟨?_, ?_⟩
    · have := h.cells (g := g) rfl (k * 2) _ (wv_get p k hk).1
      have hadd : ((⟨g, 0, none⟩ : Addr).add (k * 2)) = ⟨g, 0 + k * 2, none⟩ := by unfold Addr.add; split <;> simp_all
      rwa [hadd] at this
    · have := h.cells (g := g) rfl (k * 2 + 1) _ (wv_get p k hk).2
      have hadd : ((⟨g, 0, none⟩ : Addr).add (k * 2 + 1)) = ⟨g, 0 + (k * 2 + 1), none⟩ := by unfold Addr.add; split <;> simp_all
      rw [hadd] at this
      simpa [Nat.add_assoc] using this
theorem RowW.below {w w' : World} {B : Nat} {v : Value} {p : List Int} (h : RowW w B v p) (hb : Below w.heap.size w w') : RowW w' B v p := by
  refine ⟨h.1, ?_⟩
  rcases h.2 with h0 | ⟨g, cap, cur, e, hB, hg, hn, hm, hs, ht⟩
  · exact Or.inl h0
  · exact Or.inr ⟨g, cap, cur, e, hB, (hb.block g (lt_of_block hg)).trans hg, hn, hm, hs, ht⟩

set_option maxRecDepth 100000 in
set_option maxHeartbeats 2000000 in
theorem rTo2_any (p : List Int) (v : Value) (w : World) (h : RP w v p) (hl : p.length ≤ 1000) (ht : ∀ a ∈ p, (Nm.dg D9 a.natAbs).length ≤ 1000000) : Calls Tryz.prog 114 #[v] w (RpPost p w) := by
  obtain ⟨a, b, off, cap, rfl, h2, h3, h4, h5⟩ := h
  have hi : (Tryz.prog.info? 44).map (fun i => (i.zero, i.size, i.bytes)) = some (some (.agg #[.bool false, .string ⟨#[]⟩]), 2, 24) := by kernel_rfl
  obtain ⟨i0, hi0, hz0, hz1, hz2⟩ := info_parts hi
  have HI := Lib.hid (And.intro hi0 (And.intro hz0 (And.intro hz1 hz2)))
  have HF := Lib.hid (fun k (hk : k < p.length) u w (h : Rz w u (p[k]'hk)) => rto_int p[k] u w h (ht _ (List.getElem_mem hk)))
  obtain ⟨n, hn⟩ : ∃ n, n = p.length := ⟨_, rfl⟩
  rw [← hn] at hl ⊢
  have HN := Lib.hid hn
  have H4 := Lib.hid h4
  have H5 := Lib.hid h5
  clear h2 h3 h4 h5 hi hi0 hz0 hz1 hz2 hn ht
  go_enter Tryz.func114, Tryz.ntmps114
  go_wp2
  go_loopw [3, 4] (fun v iv wr => ∃ (wz : World) (k : Nat), wz = wr ∧ k ≤ n ∧ iv = .int .i64 (k : Int) ∧ Hid (RowW wz w.heap.size v (p.take k)) ∧ Hid (Below w.heap.size w wz))
    (fun _ iv _ => n - (intOf iv).toNat)
  case atStart => exact ⟨w, 0, rfl, Nat.zero_le _, rfl, World.ownsRow_nil _ _ _ _, Below.refl _ _⟩
  case round =>
    obtain ⟨wz, k, rfl, hk, rfl, hrow, hbl⟩ := hrel
    by_cases hlt : k < n
    · have hkp : k < p.length := by have h5 : n = p.length := HN.out; omega
      obtain rfl := H4.out (by intro e; rw [e] at hkp; exact absurd hkp (Nat.not_lt_zero _))
      obtain ⟨uk, g0, g1, g2⟩ := H5.out k hkp
      have c0 := keep1 hbl.out g0
      have c1 := keep1 hbl.out g1
      have HFk := Lib.hid (HF.out k hkp uk wz (g2.below hbl.out))
      clear g0 g1 g2
      unfold iV at HFk
      have HTk : Hid (p.take k ++ [p[k]] = p.take (k + 1)) := (List.take_succ_eq_append_getElem hkp).symm
      have hkk : (k : Int) < (n : Int) := by omega
      have hk0 : (0 : Int) ≤ (k : Int) := by omega
      generalize p[k] = z at *
      clear hkp
      go_wp2_with fail
      refine HFk.out.mono ?_
      rintro e w5 ⟨rfl, b5⟩
      have HW5 := Lib.hid (hrow.out.below b5)
      have HB5 := Lib.hid (chain hbl.out b5)
      clear b5 hrow hbl c0 c1
      simp only [wz_eq]
      go_wp2_with (at_builtin; refine wpList_append_own _ rfl _ _ 23 rfl w.heap.size 44 i0 (.agg #[.bool false, .string ⟨#[]⟩]) 2 24 Tryz.underlying23 HI.out.1 HI.out.2.1 HI.out.2.2.1 HI.out.2.2.2 rfl (by decide) _ _ _ rfl (HW5.out.alloc _) ⟨w5.heap.size, 0, none⟩ 1 1 [.bool (zb z), .string (zs z)] rfl rfl ?dc1 ?dc2 ?dc3 ?dc4 ?dc5 ?_)
      case dc1 => exact cells_two_new _ _ _ _
      case dc2 =>
        intro x hx
        simp at hx
        rcases hx with rfl | rfl
        · rfl
        · rfl
      case dc3 => unfold maxLen; simp; omega
      case dc4 => simp; omega
      case dc5 => have h5 := HB5.out.size; simp; omega
      intro v' w1 hown1 hgrow1 _
      have HN1 : Hid (RowW w1 w.heap.size v' (p.take (k + 1))) := by
        show World.ownsRow _ _ _ _ _ _ _
        rw [← HTk.out, wv_append, List.length_append, List.length_take]
        exact hown1
      have HB1 : Hid (Below w.heap.size w w1) := (HB5.out.alloc HB5.out.size _).grown hgrow1 (by have h5 := HB5.out.size; simp; omega) (fun q hq => (HW5.out.lt q hq).1)
      clear hown1 hgrow1
      go_wp2
      go_roundw
      case rel => exact ⟨_, k + 1, rfl, by omega, by go_num, HN1.out, HB1.out⟩
      case measure => simp [intOf]; omega
    · obtain rfl : k = n := by omega
      have HRo : Hid (Rp wz u3 p) := by
        have h5 := hrow.out.rp
        rw [show k = p.length from HN.out, List.take_length] at h5
        exact h5
      go_wp2
      go_ret
      exact ⟨_, rfl, HRo.out, hbl.out⟩
end Go.Proofs.YtepddegphdlbeaaGreat

/- The function poly.Of. -/
namespace Go.Proofs.YtepddegphdlbeaaGreat
open Go.RowKit

/-- A slice value reads as a list of numbers. -/
def Rn (w : World) (v : Value) (L : List Int) : Prop := ∃ (p : Option Addr) (b off cap : Nat), v = .slice p L.length cap ∧ (0 < L.length → p = some ⟨b, off, none⟩) ∧ ∀ k (h : k < L.length), w.cell? ⟨b, off + k, none⟩ = some (.int .i64 L[k])

set_option maxRecDepth 100000 in
set_option maxHeartbeats 4000000 in
theorem Of_poly (L : List Int) (v : Value) (w : World) (h : Rn w v L) (hl : L.length ≤ 1000) (ht : ∀ a ∈ L, -9223372036854775808 ≤ a ∧ a ≤ 9223372036854775807) :
    Calls Tryz.prog 22 #[v] w (fun e w' => if (Pl.trim L).length ≤ 25 then ResP (Pl.trim L) w e w' else ResE 7 w e w') := by
  obtain ⟨p, b, off, cap, rfl, h4, h5⟩ := h
  obtain ⟨Q, hQ⟩ : ∃ Q : Ending → World → Prop, Q = fun e w' => if (Pl.trim L).length ≤ 25 then ResP (Pl.trim L) w e w' else ResE 7 w e w' := ⟨_, rfl⟩
  rw [← hQ]
  have HOk : Hid (∀ k, k ≤ L.length → Pl.trim L = L.take k → k ≤ 25 → ∀ e w', ResP (Pl.trim L) w e w' → Q e w') := by
    intro k hk hkt h25 e w' hr
    rw [hQ]
    show ite _ _ _
    rw [if_pos (by rw [hkt]; simp; omega)]
    exact hr
  have HFull : Hid (∀ k, k ≤ L.length → Pl.trim L = L.take k → ¬ k ≤ 25 → ∀ e w', ResE 7 w e w' → Q e w') := by
    intro k hk hkt h25 e w' hr
    rw [hQ]
    show ite _ _ _
    rw [if_neg (by rw [hkt]; simp; omega)]
    exact hr
  have HK := Lib.hid (fun k (h25 : k ≤ 25) w => mk_wides k w (by omega))
  obtain ⟨n, hn⟩ : ∃ n, n = L.length := ⟨_, rfl⟩
  rw [← hn] at hl h4 HOk HFull ⊢
  have HN := Lib.hid hn
  have H4 := Lib.hid h4
  have H5 := Lib.hid h5
  have HT := Lib.hid ht
  clear hQ h4 h5 ht hn
  go_enter Tryz.func22, Tryz.ntmps22
  go_wp2
  go_loopw [4] (fun kv wr => ∃ k : Nat, w = wr ∧ k ≤ n ∧ kv = .int .i64 (k : Int) ∧ Hid (∀ i (h : i < L.length), k ≤ i → L[i] = 0))
    (fun kv _ => (intOf kv).toNat)
  case atStart => exact ⟨n, rfl, Nat.le_refl _, rfl, fun i h hi => absurd h (by have h5 : n = L.length := HN.out; omega)⟩
  case round =>
    obtain ⟨k, rfl, hk, rfl, hz⟩ := hrel
    rcases Nat.eq_zero_or_pos k with h0 | h0
    · have htk : Pl.trim L = L.take 0 := Pl.trim_take (Nat.zero_le _) (fun i h _ => hz.out i h (by omega)) (by rw [List.take_zero]; exact Pl.nrm_nil)
      have HR := Lib.hid (HOk.out 0 (Nat.zero_le _) htk (by omega))
      have HE : Hid (Pl.trim L = []) := by show _ = _; rw [htk, List.take_zero]
      have hmk : ∀ w, (Instr.makeSlice 23 (.int .i64 0) (.int .i64 0)).run Tryz.prog w = .ok (.slice (some ⟨w.heap.size, 0, none⟩) 0 0) (w.alloc (.cells (wv ([] : List Int)).toArray 44)) := HK.out 0 (by omega)
      subst h0
      clear hz htk HOk HFull
      go_wp2
      clear hmk
      obtain ⟨w1, hw1⟩ : ∃ w1 : World, w1 = w.alloc (.cells (wv ([] : List Int)).toArray 44) := ⟨_, rfl⟩
      have HB1 : Hid (Below w.heap.size w w1) := by show Below _ _ _; rw [hw1]; exact (Below.refl _ _).alloc (Nat.le_refl _) _
      rw [← hw1]
      clear hw1
      go_loopw [6, 27] (fun _ iv wr => w1 = wr ∧ iv = .int .i64 0) (fun _ _ _ => 0)
      case atStart => exact ⟨rfl, rfl⟩
      case round =>
        obtain ⟨rfl, rfl⟩ := hrel
        go_wp2
        exact HR.out _ _ ⟨_, rfl, by rw [HE.out]; exact Rp.mk (b := 0) (off := 0) rfl (Nat.le_refl _) (by decide) (fun h => absurd rfl h) (fun k hk => absurd hk (by simp)), HB1.out⟩
    · obtain ⟨j, hj⟩ : ∃ j, k = j + 1 := ⟨k - 1, by omega⟩
      have hjL : j < L.length := by have h5 : n = L.length := HN.out; omega
      obtain rfl := H4.out (by omega)
      have c0 := H5.out j hjL
      have j0 : (k : Int) - 1 = (j : Int) := by omega
      have j1 : (j : Int) < (n : Int) := by omega
      have j2 : (0 : Int) ≤ (j : Int) := by omega
      have j3 : (0 : Int) < (k : Int) := by omega
      have j4 : IntKind.i64.wrap (j : Int) = (j : Int) := IntWalk.i64_in _ (by omega)
      by_cases hv : L[j] = 0
      · have HV := Lib.hid hv
        rw [hv] at c0
        have HZ : Hid (∀ i (h : i < L.length), j ≤ i → L[i] = 0) := by
          intro i h hi
          rcases Nat.lt_or_ge j i with g | g
          · exact hz.out i h (by omega)
          · obtain rfl : i = j := by omega
            exact HV.out
        clear hv hz hj h0
        go_wp2
        go_roundw
        case rel => exact ⟨j, (by first | rfl | trivial), by omega, rfl, HZ.out⟩
        case measure => simp [intOf]; omega
      · have htk : Hid (Pl.trim L = L.take k) := by
          show _ = _
          rw [hj]
          exact Pl.trim_take (by omega) (fun i h hi => hz.out i h (by omega)) (Pl.nrm_take_last hjL hv)
        have hv2 : (L[j] == 0) = false := by simpa using hv
        clear hz
        generalize L[j] = lz at *
        clear hv hjL hj h0
        by_cases h25 : k ≤ 25
        · have HR := Lib.hid (HOk.out k hk htk.out h25)
          have hk25 : ¬ (25 : Int) < (k : Int) := by omega
          have hkk : (k : Int) ≤ 25 := by omega
          have hmk := HK.out k h25
          clear HOk HFull
          go_wp2
          clear hmk
          obtain ⟨w1, hw1⟩ : ∃ w1 : World, w1 = w.alloc (.cells (wv (List.replicate k 0)).toArray 44) := ⟨_, rfl⟩
          have HA1 : Hid (Aw w1 w.heap.size (L.take 0 ++ List.replicate (k - 0) 0)) := by rw [hw1, List.take_zero, List.nil_append, Nat.sub_zero]; exact Aw.made w _
          have HB1 : Hid (Below w.heap.size w w1) := by show Below _ _ _; rw [hw1]; exact (Below.refl _ _).alloc (Nat.le_refl _) _
          rw [← hw1]
          clear hw1
          go_loopw [6, 27] (fun _ iv wr => ∃ (wz : World) (i : Nat), wz = wr ∧ i ≤ k ∧ iv = .int .i64 (i : Int) ∧ Hid (Aw wz w.heap.size (L.take i ++ List.replicate (k - i) 0)) ∧ Hid (Below w.heap.size w wz))
            (fun _ iv _ => k - (intOf iv).toNat)
          case atStart => exact ⟨w1, 0, rfl, Nat.zero_le _, rfl, HA1.out, HB1.out⟩
          case round =>
            clear HA1 HB1
            obtain ⟨wz, i, rfl, hi, rfl, haw, hbl⟩ := hrel
            have hgl := haw.out.lt
            by_cases hlt : i < k
            · have hiL : i < L.length := by have h5 : n = L.length := HN.out; omega
              have c0 := keep1 hbl.out (H5.out i hiL)
              have HOi := Lib.hid (fun w => zz_of L[i] w (HT.out _ (List.getElem_mem hiL)).1 (HT.out _ (List.getElem_mem hiL)).2)
              have hll : i < (L.take i ++ List.replicate (k - i) 0).length := by simp; omega
              have HSet : Hid ((L.take i ++ List.replicate (k - i) 0).set i L[i] = L.take (i + 1) ++ List.replicate (k - (i + 1)) 0) := by
                show _ = _
                obtain ⟨d, hd⟩ : ∃ d, k - i = d + 1 := ⟨k - i - 1, by omega⟩
                have h6 := set_snoc_rep (L.take i) d L[i]
                rw [show (L.take i).length = i by simp; omega] at h6
                rw [hd, h6, show k - (i + 1) = d by omega, List.take_succ_eq_append_getElem hiL]
              have i0 : (0 : Int) ≤ (i : Int) := by omega
              have i1 : (i : Int) < (k : Int) := by omega
              have i2 : (i : Int) < (n : Int) := by omega
              have HLL := Lib.hid hll
              clear hll
              generalize L[i] = x at *
              clear hiL
              unfold Z at HOi
              go_wp2_with fail
              refine (HOi.out _).mono ?_
              rintro e w5 ⟨rfl, b5⟩
              have HA5 := Lib.hid (haw.out.below b5)
              have HB5 := Lib.hid (chain hbl.out b5)
              clear b5 c0
              obtain ⟨y0, y1⟩ := HA5.out.cell i HLL.out
              have f0 := HA5.out.free (i * 2)
              have f1 := HA5.out.free (i * 2 + 1)
              have HA7 := HA5.out.set i HLL.out x
              rw [HSet.out] at HA7
              have HA8 := Lib.hid HA7
              have HB8 := Lib.hid ((HB5.out.setCell (p := ⟨w.heap.size, i * 2, none⟩) (Nat.le_refl _) (.bool (zb x))).setCell (p := ⟨w.heap.size, i * 2 + 1, none⟩) (Nat.le_refl _) (.string (zs x)))
              clear HA7
              go_wp2
              go_roundw
              case rel => exact ⟨_, i + 1, rfl, by omega, by go_num, HA8.out, HB8.out⟩
              case measure => simp [intOf]; omega
            · obtain rfl : i = k := by omega
              have HRp : Hid (Rp wz (.slice (some ⟨w.heap.size, 0, none⟩) i i) (Pl.trim L)) := by
                have h5 := haw.out
                rw [Nat.sub_self, List.replicate_zero, List.append_nil, ← htk.out] at h5
                exact Rp.of_whole h5 i i (by rw [htk.out]; simp; have h5 : n = L.length := HN.out; omega) (Nat.le_refl _) (by unfold maxLen; omega)
              go_wp2
              exact HR.out _ _ ⟨_, rfl, HRp.out, hbl.out⟩
        · have HR := Lib.hid (HFull.out k hk htk.out h25)
          have hk25 : (25 : Int) < (k : Int) := by omega
          clear HOk HFull
          go_wp2
          exact HR.out _ _ ⟨rfl, Below.refl _ _⟩
end Go.Proofs.YtepddegphdlbeaaGreat

/- The reference's Bits, Nums, Out. -/
namespace Go.Proofs.YtepddegphdlbeaaGreat
open Go.RowKit

set_option maxRecDepth 100000 in
set_option maxHeartbeats 2000000 in
theorem rBits2_any (p : List Int) (v : Value) (w : World) (h : RP w v p) (ht : ∀ a ∈ p, a.natAbs < Top) (hd : ∀ a ∈ p, (Nm.dg D9 a.natAbs).length ≤ 1000000) : Calls Tryz.prog 20 #[v] w (IPost (glb (zl p)) w) := by
  have hlen := h.len
  obtain ⟨a, b, off, cap, rfl, -, -, h4, h5⟩ := h
  have HF := Lib.hid (fun k (hk : k < p.length) u w (h : Rz w u (p[k]'hk)) => rbits_int p[k] u w h (hd _ (List.getElem_mem hk)) (Nat.le_trans (zs_size (ht _ (List.getElem_mem hk))) (by decide)))
  have HL := Lib.hid (fun k (hk : k < p.length) => show glb ((zl p).take (k + 1)) = max (glb ((zl p).take k)) (lenB (zs p[k])) by
    rw [List.take_succ_eq_append_getElem (by rw [zl_length]; exact hk), glb_snoc, zl_get p k hk]
    simp only
    unfold lenV
    rw [if_pos (zb_zs_valid (ht _ (List.getElem_mem hk)))])
  obtain ⟨f, hf⟩ : ∃ f : Nat → Int, f = fun k => glb ((zl p).take k) := ⟨_, rfl⟩
  have HF0 : ∀ k, glb ((zl p).take k) = f k := fun k => by rw [hf]
  have H0 : Hid (f 0 = 0) := by show _ = _; rw [hf]; rfl
  have HE : Hid (f p.length = glb (zl p)) := by show _ = _; rw [hf]; simp only; rw [List.take_of_length_le (by rw [zl_length]; exact Nat.le_refl _)]
  simp only [HF0] at HL
  generalize glb (zl p) = res at *
  have H4 := Lib.hid h4
  have H5 := Lib.hid h5
  clear h4 h5 ht hd HF0 hf
  obtain ⟨n, hn⟩ : ∃ n, n = p.length := ⟨_, rfl⟩
  rw [← hn] at HE hlen ⊢
  have HN := Lib.hid hn
  clear hn
  go_enter Tryz.func20, Tryz.ntmps20
  go_wp2
  go_loopw [3, 4] (fun nv iv wr => ∃ (wz : World) (k : Nat), wz = wr ∧ k ≤ n ∧ nv = .int .i64 (f k) ∧ iv = .int .i64 (k : Int) ∧ Hid (Below w.heap.size w wz))
    (fun _ iv _ => n - (intOf iv).toNat)
  case atStart => exact ⟨w, 0, rfl, Nat.zero_le _, by rw [H0.out], rfl, Below.refl _ _⟩
  case round =>
    obtain ⟨wz, k, rfl, hk, rfl, rfl, hbl⟩ := hrel
    have hk0 : (0 : Int) ≤ (k : Int) := by omega
    by_cases hlt : k < n
    · have hkp : k < p.length := by have h5 : n = p.length := HN.out; omega
      have hkk : (k : Int) < (n : Int) := by omega
      obtain rfl := H4.out (by intro e; rw [e] at hkp; exact absurd hkp (Nat.not_lt_zero _))
      obtain ⟨u, g0, g1, g2⟩ := H5.out k hkp
      have HFk := Lib.hid (fun w' (hb : Below w.heap.size w w') => HF.out k hkp u w' (g2.below hb))
      have HLk := Lib.hid (HL.out k hkp)
      have c0 := keep1 hbl.out g0
      have c1 := keep1 hbl.out g1
      have G0 := Lib.hid (And.intro g0 g1)
      obtain ⟨pu, bu, ou, cu, rfl, -⟩ := g2
      unfold iV at HFk
      generalize (Nm.dg D9 (p[k]).natAbs).length = lu at *
      generalize p[k] = z at *
      generalize lenB (zs z) = t at *
      generalize f k = m at *
      clear hkp g0 g1
      by_cases hgt : m < t
      · have HM : Hid (f (k + 1) = t) := by show _ = _; rw [HLk.out]; omega
        go_wp2_with fail
        refine (HFk.out _ hbl.out).mono ?_
        rintro e w5 ⟨rfl, b5⟩
        have HB5 := Lib.hid (chain hbl.out b5)
        clear b5 c0 c1
        have c0 := keep1 HB5.out G0.out.1
        have c1 := keep1 HB5.out G0.out.2
        go_wp2_with fail
        refine (HFk.out _ HB5.out).mono ?_
        rintro e w6 ⟨rfl, b6⟩
        have HB6 := Lib.hid (chain HB5.out b6)
        clear b6 c0 c1
        go_wp2
        go_roundw
        case rel => exact ⟨_, k + 1, rfl, by omega, by rw [HM.out], by go_num, HB6.out⟩
        case measure => simp [intOf]; omega
      · have HM : Hid (f (k + 1) = m) := by show _ = _; rw [HLk.out]; omega
        go_wp2_with fail
        refine (HFk.out _ hbl.out).mono ?_
        rintro e w5 ⟨rfl, b5⟩
        have HB5 := Lib.hid (chain hbl.out b5)
        clear b5 c0 c1
        go_wp2
        go_roundw
        case rel => exact ⟨_, k + 1, rfl, by omega, by rw [HM.out], by go_num, HB5.out⟩
        case measure => simp [intOf]; omega
    · obtain rfl : k = n := by omega
      rw [HE.out]
      go_wp2
      go_ret
      exact ⟨rfl, hbl.out⟩

set_option maxRecDepth 100000 in
set_option maxHeartbeats 2000000 in
theorem rNums_any (L : List Int) (v : Value) (w : World) (h : Rn w v L) (hl : L.length ≤ 1000) (ht : ∀ a ∈ L, -9223372036854775808 ≤ a ∧ a ≤ 9223372036854775807) : Calls Tryz.prog 23 #[v] w (RPPost (Pl.trim L) w) := by
  obtain ⟨a, b, off, cap, rfl, h4, h5⟩ := h
  have HF := Lib.hid (fun k (hk : k < L.length) w => rnum_any L[k] w (ht _ (List.getElem_mem hk)).1 (ht _ (List.getElem_mem hk)).2)
  have HTk := Lib.hid (fun k (hk : k < L.length) => show L.take k ++ [L[k]] = L.take (k + 1) from (List.take_succ_eq_append_getElem hk).symm)
  obtain ⟨n, hn⟩ : ∃ n, n = L.length := ⟨_, rfl⟩
  rw [← hn] at hl h4 ⊢
  have HN := Lib.hid hn
  have H4 := Lib.hid h4
  have H5 := Lib.hid h5
  clear h4 h5 hn ht
  go_enter Tryz.func23, Tryz.ntmps23
  go_wp2
  go_loopw [3, 4] (fun v iv wr => ∃ (wz : World) (k : Nat), wz = wr ∧ k ≤ n ∧ iv = .int .i64 (k : Int) ∧ Hid (RowP wz w.heap.size v (L.take k)) ∧ Hid (Below w.heap.size w wz))
    (fun _ iv _ => n - (intOf iv).toNat)
  case atStart => exact ⟨w, 0, rfl, Nat.zero_le _, rfl, RowP.nil _ _, Below.refl _ _⟩
  case round =>
    obtain ⟨wz, k, rfl, hk, rfl, hrow, hbl⟩ := hrel
    by_cases hlt : k < n
    · have hkp : k < L.length := by have h5 : n = L.length := HN.out; omega
      obtain rfl := H4.out (by omega)
      have c0 := keep1 hbl.out (H5.out k hkp)
      have HFk := Lib.hid (HF.out k hkp)
      have HT := Lib.hid (HTk.out k hkp)
      have hkk : (k : Int) < (n : Int) := by omega
      have hk0 : (0 : Int) ≤ (k : Int) := by omega
      have HLk : Hid ((L.take k).length ≤ 100000) := by show _ ≤ _; rw [List.length_take]; omega
      generalize L[k] = z at *
      clear hkp
      go_wp2_with fail
      refine (HFk.out _).mono ?_
      rintro e w5 ⟨u, rfl, r5, b5⟩
      have HR5 := Lib.hid r5
      have HX5 := Lib.hid (hrow.out.below b5)
      have HB5 := Lib.hid (chain hbl.out b5)
      clear b5 r5 c0
      unfold iV
      go_wp2_with (at_builtin; refine wpList_append_P rfl rfl _ _ rfl rfl rfl HX5.out HR5.out HLk.out HB5.out ?_)
      intro v' w1 hrow1 hb1 _
      have HN1 := Lib.hid hrow1
      have HB1 := Lib.hid hb1
      rw [HT.out] at HN1
      clear hrow1 hb1
      go_wp2
      go_roundw
      case rel => exact ⟨_, k + 1, rfl, by omega, by go_num, HN1.out, HB1.out⟩
      case measure => simp [intOf]; omega
    · obtain rfl : k = n := by omega
      have HRo : Hid (RP wz u3 L) := by
        have h5 := hrow.out.rp
        rw [show k = L.length from HN.out, List.take_length] at h5
        exact h5
      go_wp2_with fail
      refine (rTrim_any _ _ _ HRo.out).mono ?_
      rintro e w6 ⟨v6, rfl, r6, b6⟩
      have HR6 := Lib.hid r6
      have HB6 := Lib.hid (chain hbl.out b6)
      clear r6 b6
      go_wp2
      go_ret
      exact ⟨_, rfl, HR6.out, HB6.out⟩

set_option maxRecDepth 100000 in
set_option maxHeartbeats 2000000 in
theorem rOut2_fit (p : List Int) (v : Value) (w : World) (h : RP w v p) (hl : p.length ≤ 25) (ht : ∀ a ∈ p, a.natAbs < Top) (hd : ∀ a ∈ p, (Nm.dg D9 a.natAbs).length ≤ 1000000) :
    Calls Tryz.prog 76 #[v] w (ResP p w) := by
  have HB := Lib.hid (rBits2_any p v w h ht hd)
  have HT := Lib.hid (fun w' (hb : Below w.heap.size w w') => rTo2_any p v w' (h.below hb) (by omega) hd)
  have hb1 := glb_bd (zl p)
  obtain ⟨a, b, off, cap, rfl, -, -, -, -⟩ := h
  generalize glb (zl p) = g at *
  generalize hn : p.length = n at *
  have hn0 : (n : Int) ≤ 25 := by omega
  have hg1 : g ≤ 65536 := hb1.2
  clear hn ht hd hb1
  go_enter Tryz.func76, Tryz.ntmps76
  go_wp2_with fail
  refine HB.out.mono ?_
  rintro e w5 ⟨rfl, b5⟩
  have HB5 := Lib.hid b5
  clear b5
  go_wp2_with fail
  refine (HT.out _ HB5.out).mono ?_
  rintro e w6 ⟨v6, rfl, r6, b6⟩
  have HB6 := Lib.hid (chain HB5.out b6)
  have HR6 := Lib.hid r6
  clear b6 r6
  go_wp2
  go_ret2
  exact ⟨_, rfl, HR6.out, HB6.out⟩
end Go.Proofs.YtepddegphdlbeaaGreat

/- The function poly.Equal. -/
namespace Go.Proofs.YtepddegphdlbeaaGreat
open Go.RowKit

theorem neq_wide (w : World) (a b : Bool) (s t : ByteArray) : (binOp .neq 44 (.agg #[.bool a, .string s]) (.agg #[.bool b, .string t])).run Tryz.prog w = .ok (.bool (!(a == b && s.toList == t.toList))) w := by
  have hu := Tryz.underlying44
  have hs : Tryz.prog.stoodInHeld 44 = false := by kernel_rfl
  rw [run_neq_struct, show (10000 : Nat) = 9999 + 1 from rfl, run_equalIn_agg w 9999 _ _ _ (by simp only [Program.fieldsOf, hu]) hs]
  simp only [Program.fieldsOf, hu]
  cases hab : (a == b) <;> simp [Op.eqFields, go_sem, part, run_equalIn_bool', run_equalIn_string, Tryz.underlying4, Tryz.underlying9, hab]
  by_cases h : s.toList = t.toList <;> simp [h]

end Go.Proofs.YtepddegphdlbeaaGreat

/- The reference's Same. -/
namespace Go.Proofs.YtepddegphdlbeaaGreat
open Go.RowKit

set_option maxRecDepth 100000 in
set_option maxHeartbeats 2000000 in
theorem rSame_any (L1 L2 : List (Bool × ByteArray)) (v1 v2 : Value) (w : World) (h1 : Rw w v1 L1) (h2 : Rw w v2 L2) :
    Calls Tryz.prog 18 #[v1, v2] w (BPost (decide (L1 = L2)) w) := by
  have hl1 := h1.len
  have hl2 := h2.len
  obtain ⟨p1, b1, o1, c1, rfl, -, -, h14, h15⟩ := h1
  obtain ⟨p2, b2, o2, c2, rfl, -, -, h24, h25⟩ := h2
  obtain ⟨r, hr⟩ : ∃ r, r = decide (L1 = L2) := ⟨_, rfl⟩
  rw [← hr]
  have HNe : Hid (∀ k (hk1 : k < L1.length) (hk2 : k < L2.length), L1[k] ≠ L2[k] → r = false) := by
    intro k hk1 hk2 hne
    rw [hr, decide_eq_false_iff_not]
    intro e
    subst e
    exact hne rfl
  have HEq : Hid (L1.length = L2.length → (∀ k (hk1 : k < L1.length) (hk2 : k < L2.length), L1[k] = L2[k]) → r = true) := by
    intro hl h
    rw [hr, decide_eq_true_eq]
    exact List.ext_getElem hl fun k a b => h k a b
  have HLn : Hid (L1.length ≠ L2.length → r = false) := by
    intro hl
    rw [hr, decide_eq_false_iff_not]
    intro e
    exact hl (by rw [e])
  have H14 := Lib.hid h14
  have H24 := Lib.hid h24
  have H15 := Lib.hid h15
  have H25 := Lib.hid h25
  clear hr h14 h24 h15 h25
  obtain ⟨n1, hn1⟩ : ∃ n, n = L1.length := ⟨_, rfl⟩
  obtain ⟨n2, hn2⟩ : ∃ n, n = L2.length := ⟨_, rfl⟩
  rw [← hn1, ← hn2] at HLn ⊢
  rw [← hn1] at hl1
  rw [← hn2] at hl2
  have HN1 := Lib.hid hn1
  have HN2 := Lib.hid hn2
  clear hn1 hn2
  by_cases hne : n1 = n2
  · subst hne
    have HEq := Lib.hid (HEq.out (HN1.out.symm.trans HN2.out))
    clear HLn
    go_enter Tryz.func18, Tryz.ntmps18
    go_wp2
    go_loopw [5] (fun iv wr => ∃ (wz : World) (k : Nat), wz = wr ∧ k ≤ n1 ∧ iv = .int .i64 (k : Int) ∧ Hid (∀ j (h1 : j < L1.length) (h2 : j < L2.length), j < k → L1[j] = L2[j]) ∧ Hid (Below w.heap.size w wz))
      (fun iv _ => n1 - (intOf iv).toNat)
    case atStart => exact ⟨w, 0, rfl, Nat.zero_le _, rfl, fun j _ _ hj => absurd hj (Nat.not_lt_zero _), Below.refl _ _⟩
    case round =>
      obtain ⟨wz, k, rfl, hk, rfl, hall, hbl⟩ := hrel
      by_cases hlt : k < n1
      · have hk1 : k < L1.length := by have h5 : n1 = L1.length := HN1.out; omega
        have hk2 : k < L2.length := by have h5 : n1 = L2.length := HN2.out; omega
        obtain ⟨a, s, hL1⟩ : ∃ a s, L1[k] = (a, s) := ⟨_, _, rfl⟩
        obtain ⟨b, t, hL2⟩ : ∃ b t, L2[k] = (b, t) := ⟨_, _, rfl⟩
        obtain rfl := H14.out (by intro e; rw [e] at hk1; exact absurd hk1 (Nat.not_lt_zero _))
        obtain rfl := H24.out (by intro e; rw [e] at hk2; exact absurd hk2 (Nat.not_lt_zero _))
        have c0 := keep1 hbl.out (H15.out k hk1).1
        have c1 := keep1 hbl.out (H15.out k hk1).2
        have d0 := keep1 hbl.out (H25.out k hk2).1
        have d1 := keep1 hbl.out (H25.out k hk2).2
        rw [hL1] at c0 c1
        rw [hL2] at d0 d1
        simp only at c0 c1 d0 d1
        have HF : Hid (¬ (a = b ∧ s = t) → r = false) := fun h => HNe.out k hk1 hk2 (by rw [hL1, hL2]; intro e; injection e with e1 e2; exact h ⟨e1, e2⟩)
        have HR : Hid (a = b ∧ s = t → ∀ j (h1 : j < L1.length) (h2 : j < L2.length), j < k + 1 → L1[j] = L2[j]) := by
          rintro ⟨rfl, rfl⟩ j h1 h2 hj
          rcases Nat.lt_or_ge j k with g | g
          · exact hall.out j h1 h2 g
          · obtain rfl : j = k := by omega
            rw [hL1, hL2]
        have hkk : (k : Int) < (n1 : Int) := by omega
        have hk0 : (0 : Int) ≤ (k : Int) := by omega
        clear hL1 hL2 hall hk1 hk2
        by_cases hab : (a == b && s.toList == t.toList) = true
        · have qN : ∀ w, (binOp .neq 44 (.agg #[.bool a, .string s]) (.agg #[.bool b, .string t])).run Tryz.prog w = .ok (.bool false) w := fun w => by rw [neq_wide, hab]; rfl
          have HR2 : Hid (∀ j (h1 : j < L1.length) (h2 : j < L2.length), j < k + 1 → L1[j] = L2[j]) := HR.out (by
            rw [Bool.and_eq_true, beq_iff_eq, beq_iff_eq] at hab
            have h6 : s.data.toList = t.data.toList := by rw [← ByteArray.toList_eq, ← ByteArray.toList_eq]; exact hab.2
            exact ⟨hab.1, ByteArray.ext (Array.ext' h6)⟩)
          clear hab HR HF
          go_upto_region 6 with (fail)
          go_quiet (fail)
          go_wp2
          go_roundw
          case rel => exact ⟨_, k + 1, rfl, by omega, by go_num, HR2.out, belowDrewN hbl.out _⟩
          case measure => simp [intOf]; omega
        · have qN : ∀ w, (binOp .neq 44 (.agg #[.bool a, .string s]) (.agg #[.bool b, .string t])).run Tryz.prog w = .ok (.bool true) w := fun w => by rw [neq_wide, Bool.not_eq_true _ |>.mp hab]; rfl
          have HF2 : Hid (r = false) := HF.out (by
            rintro ⟨rfl, rfl⟩
            exact hab (by simp))
          clear hab HR HF
          go_upto_region 6 with (fail)
          go_quiet (fail)
          go_wp2
          go_ret
          exact ⟨by rw [HF2.out]; rfl, belowDrewN hbl.out _⟩
      · have HT : Hid (r = true) := HEq.out (fun j h1 h2 => hall.out j h1 h2 (by have h5 : n1 = L1.length := HN1.out; omega))
        obtain rfl : k = n1 := by omega
        clear hall
        go_wp2
        go_ret
        exact ⟨by rw [HT.out]; rfl, hbl.out⟩
  · have HF := Lib.hid (HLn.out hne)
    have hne2 : ((n1 : Int) == (n2 : Int)) = false := by simp; omega
    clear HLn
    go_enter Tryz.func18, Tryz.ntmps18
    go_wp2
    go_ret
    exact ⟨by rw [HF.out]; rfl, Below.refl _ _⟩

end Go.Proofs.YtepddegphdlbeaaGreat

/- poly.checkValue, power. -/
namespace Go.Proofs.YtepddegphdlbeaaGreat
open Go.RowKit

/-- The answer of checkValue. -/
def ckv (L : List (Bool × ByteArray)) (a : Bool) (s : ByteArray) (b : Bool) (t : ByteArray) : Int :=
  if (vldP L && vldR a s b t) = true then (if tlg L (glb [(a, s), (b, t)]) = true then 7 else 0) else 2

set_option maxRecDepth 100000 in
set_option maxHeartbeats 2000000 in
theorem checkValue_any (L : List (Bool × ByteArray)) (v : Value) (a b : Bool) (s t : ByteArray) (w : World) (h : Rw w v L) (z : Small L) (z1 : s.size ≤ 140737488351232) (z2 : t.size ≤ 140737488351232) :
    Calls Tryz.prog 99 #[v, rat a s b t] w (IPost (ckv L a s b t) w) := by
  have HV := Lib.hid (fun w' (hb : Below w.heap.size w w') => pvalid_any L v w' (h.below hb) z)
  have HR := Lib.hid (fun w' => ValidRatio_any a b s t w' z1 z2)
  have HG := Lib.hid (fun v w' h => pbits_any [(a, s), (b, t)] v w' h (by intro x hx; simp at hx; rcases hx with rfl | rfl <;> assumption))
  have HT : Hid (vldP L = true → ∀ w', Below w.heap.size w w' → Calls Tryz.prog 107 #[v, .int .i64 (glb [(a, s), (b, t)])] w' (BPost (tlg L (glb [(a, s), (b, t)])) w')) :=
    fun hv w' hb => tooLarge_any L v _ w' (h.below hb) z (vldP_len hv) (by have := glb_bd [(a, s), (b, t)]; omega)
  obtain ⟨r, hr⟩ : ∃ r, r = ckv L a s b t := ⟨_, rfl⟩
  rw [← hr]
  unfold ckv at hr
  have HW : Hid (∀ w' q, w'.cell? ⟨q, 0, none⟩ = some (.bool a) → w'.cell? ⟨q, 0 + 1, none⟩ = some (.string s) → w'.cell? ⟨q, 0 + 2, none⟩ = some (.bool b) → w'.cell? ⟨q, 0 + 2 + 1, none⟩ = some (.string t) → Rw w' (.slice (some ⟨q, 0, none⟩) 2 2) [(a, s), (b, t)]) := by
    intro w' q h0 h1 h2 h3
    refine ⟨_, q, 0, 2, rfl, by simp, by decide, fun _ => rfl, fun k hk => ?_⟩
    match k, hk with
    | 0, _ => exact ⟨h0, h1⟩
    | 1, _ => exact ⟨h2, h3⟩
  obtain ⟨p, b0, o, c, rfl, -, -, -, -⟩ := h
  clear z z1 z2
  unfold rat
  generalize vldP L = x1 at *
  generalize vldR a s b t = x2 at *
  generalize glb [(a, s), (b, t)] = g at *
  generalize tlg L g = x3 at *
  obtain ⟨w0, hw0⟩ : ∃ w0 : World, w0 = w.alloc (.cells #[.bool a, .string s, .bool b, .string t] 59) := ⟨_, rfl⟩
  have HB0 : Hid (Below w.heap.size w w0) := by rw [hw0]; exact (Below.refl _ _).alloc (Nat.le_refl _) _
  have C0 : Hid (w0.cell? ⟨w.heap.size, 0, none⟩ = some (.bool a) ∧ w0.cell? ⟨w.heap.size, 1, none⟩ = some (.string s) ∧ w0.cell? ⟨w.heap.size, 2, none⟩ = some (.bool b) ∧ w0.cell? ⟨w.heap.size, 3, none⟩ = some (.string t)) := by
    rw [hw0]; exact ⟨by simp [go_sem], by simp [go_sem], by simp [go_sem], by simp [go_sem]⟩
  cases x1
  · have HR : Hid (r = 2) := hr
    clear hr
    go_enter Tryz.func99, Tryz.ntmps99
    go_wp2_with fail
    rw [← hw0]
    clear hw0
    refine (HV.out _ HB0.out).mono ?_
    rintro e w1 ⟨rfl, b1⟩
    have c0 := keep1 b1 C0.out.1
    have c1 := keep1 b1 C0.out.2.1
    have c2 := keep1 b1 C0.out.2.2.1
    have c3 := keep1 b1 C0.out.2.2.2
    have B1 := Lib.hid (chain HB0.out b1)
    clear b1
    clear c0 c1 c2 c3
    go_wp2
    go_ret
    exact ⟨by rw [HR.out]; rfl, B1.out⟩
  have HT2 := Lib.hid (HT.out rfl)
  clear HT
  cases x2
  · have HRr : Hid (r = 2) := hr
    clear hr
    go_enter Tryz.func99, Tryz.ntmps99
    go_wp2_with fail
    rw [← hw0]
    clear hw0
    refine (HV.out _ HB0.out).mono ?_
    rintro e w1 ⟨rfl, b1⟩
    have c0 := keep1 b1 C0.out.1
    have c1 := keep1 b1 C0.out.2.1
    have c2 := keep1 b1 C0.out.2.2.1
    have c3 := keep1 b1 C0.out.2.2.2
    have B1 := Lib.hid (chain HB0.out b1)
    clear b1
    go_wp2_with fail
    refine (HR.out _).mono ?_
    rintro e w2 ⟨rfl, b2⟩
    have B2 := Lib.hid (chain B1.out b2)
    clear b2 c0 c1 c2 c3
    go_wp2
    go_ret
    exact ⟨by rw [HRr.out]; rfl, B2.out⟩
  rw [show (true && true) = true from rfl, if_pos rfl] at hr
  cases x3
  all_goals
    have HRr : Hid (r = _) := hr
    clear hr
    go_enter Tryz.func99, Tryz.ntmps99
    go_wp2_with fail
    rw [← hw0]
    clear hw0
    refine (HV.out _ HB0.out).mono ?_
    rintro e w1 ⟨rfl, b1⟩
    have c0 := keep1 b1 C0.out.1
    have c1 := keep1 b1 C0.out.2.1
    have c2 := keep1 b1 C0.out.2.2.1
    have c3 := keep1 b1 C0.out.2.2.2
    have B1 := Lib.hid (chain HB0.out b1)
    clear b1
    go_wp2_with fail
    refine (HR.out _).mono ?_
    rintro e w2 ⟨rfl, b2⟩
    have B2 := Lib.hid (chain B1.out b2)
    have c0 := keep1 b2 c0
    have c1 := keep1 b2 c1
    have c2 := keep1 b2 c2
    have c3 := keep1 b2 c3
    clear b2
    go_wp2_with fail
    obtain ⟨w3, hw3⟩ : ∃ w3 : World, w3 = w2.alloc (.cells #[.bool a, .string s, .bool b, .string t] 44) := ⟨_, rfl⟩
    have hg := HW.out w3 w2.heap.size (by rw [hw3]; simp [go_sem]) (by rw [hw3]; simp [go_sem]) (by rw [hw3]; simp [go_sem]) (by rw [hw3]; simp [go_sem])
    have B3 := Lib.hid (B2.out.alloc B2.out.size (.cells #[.bool a, .string s, .bool b, .string t] 44))
    rw [← hw3] at B3 ⊢
    clear hw3 c0 c1 c2 c3
    refine (HG.out _ _ hg).mono ?_
    rintro e w4 ⟨rfl, b4⟩
    have B4 := Lib.hid (chain B3.out b4)
    clear b4 hg
    go_wp2_with fail
    refine (HT2.out _ B4.out).mono ?_
    rintro e w5 ⟨rfl, b5⟩
    have B5 := Lib.hid (chain B4.out b5)
    clear b5
    go_wp2
    go_ret
    exact ⟨by rw [HRr.out]; rfl, B5.out⟩

theorem ipow_succ2 (a : Int) (n : Nat) : a ^ (n + 1) = a ^ n * a := by rw [Int.pow_succ]

set_option maxRecDepth 100000 in
set_option maxHeartbeats 2000000 in
/-- The power; for -1 as for 0 it is 1. -/
theorem power_any (c : Nat) (a : Int) (n : Int) (m : Nat) (e : Int) (w : World) (hc : Ck w c e) (ha : a.natAbs < Top) (hm : m = n.toNat) (hn : -100 ≤ n ∧ n ≤ 100) (hp : ∀ j, j ≤ m → (a ^ j).natAbs < Top) :
    Calls Tryz.prog 101 #[.pointer (some ⟨c, 0, none⟩), Z a, .int .i64 n] w (Ret (Z (a ^ m)) w) := by
  have HO := Lib.hid (fun w => zz_of 1 w (by decide) (by decide))
  have HM := Lib.hid (fun k (h : k < m) w hc => cmul_z c (a ^ k) a e w hc (hp k (by omega)) ha (by rw [← ipow_succ2]; exact hp _ (by omega)))
  have HC := Lib.hid hc
  have hcl := hc.lt
  obtain ⟨w0, hw0⟩ : ∃ w0 : World, w0 = (w.alloc (.cells #[.bool (zb a), .string (zs a)] 44)).alloc (.cells #[.bool false, .string ⟨#[]⟩] 44) := ⟨_, rfl⟩
  have HA0 : Hid (Aw w0 w.heap.size [a]) := by show Aw _ _ _; rw [hw0]; exact (Aw.made w [a]).alloc _
  have HR0 : Hid (Aw w0 (w.heap.size + 1) [0]) := by
    show Aw _ _ _
    rw [hw0]
    have h5 := Aw.made (w.alloc (.cells #[.bool (zb a), .string (zs a)] 44)) [0]
    rw [World.size_alloc] at h5
    exact h5
  have HB0 : Hid (Below w.heap.size w w0) := by show Below _ _ _; rw [hw0]; exact ((Below.refl _ _).alloc (Nat.le_refl _) _).alloc (by simp) _
  have HZ0 : Hid (w0.heap.size = w.heap.size + 2) := by show _ = _; rw [hw0]; simp
  obtain ⟨P, hP⟩ : ∃ P, P = a ^ m := ⟨_, rfl⟩
  rw [← hP]
  have HP := Lib.hid hP
  have HN := Lib.hid hm
  clear hc ha hp hP hm
  go_enter Tryz.func101, Tryz.ntmps101
  unfold Z
  go_wp2_with fail
  rw [← hw0]
  clear hw0
  refine (HO.out _).mono ?_
  rintro en w1 ⟨rfl, b1⟩
  have hs1 := b1.size
  have h02 := HZ0.out
  have HA1 := Lib.hid ((HA0.out.below b1).alloc (.cells #[.bool (zb 1), .string (zs 1)] 44))
  have HR1 := Lib.hid ((HR0.out.below b1).alloc (.cells #[.bool (zb 1), .string (zs 1)] 44))
  have HG1 : Hid (Aw (w1.alloc (.cells #[.bool (zb 1), .string (zs 1)] 44)) w1.heap.size [1]) := Aw.made w1 [1]
  have HB1 := Lib.hid ((chain HB0.out b1).alloc (by omega) (.cells #[.bool (zb 1), .string (zs 1)] 44))
  obtain ⟨w2, hw2⟩ : ∃ w2 : World, w2 = w1.alloc (.cells #[.bool (zb 1), .string (zs 1)] 44) := ⟨_, rfl⟩
  obtain ⟨g, hg⟩ : ∃ g, g = w1.heap.size := ⟨_, rfl⟩
  rw [← hw2] at HA1 HR1 HG1 HB1
  rw [← hg] at HG1
  have hgs : w.heap.size + 2 ≤ g := by omega
  clear b1 HA0 HR0 HB0
  unfold Z
  go_wp2_with fail
  rw [← hw2, ← hg]
  clear hw2 hg
  go_loopw [10] (fun iv wr => ∃ (wz : World) (k : Nat), wz = wr ∧ k ≤ m ∧ iv = .int .i64 (k : Int) ∧ Hid (Aw wz g [a ^ k]) ∧ Hid (Aw wz w.heap.size [a]) ∧ Hid (Aw wz (w.heap.size + 1) [0]) ∧ Hid (Below w.heap.size w wz))
    (fun iv _ => m - (intOf iv).toNat)
  case atStart => exact ⟨_, 0, rfl, Nat.zero_le _, rfl, by rw [Int.pow_zero]; exact HG1.out, HA1.out, HR1.out, HB1.out⟩
  case round =>
    clear HG1 HA1 HR1 HB1
    obtain ⟨wz, k, rfl, hk, rfl, hG, hA, hR, hbl⟩ := hrel
    have hgl := hG.out.lt
    have hmn : m = n.toNat := HN.out
    by_cases hlt : k < m
    · have HMk := Lib.hid (HM.out k hlt)
      have hkn : (k : Int) < n := by omega
      obtain ⟨d0, d1⟩ := hG.out.cell 0 (by simp)
      obtain ⟨x0, x1⟩ := hA.out.cell 0 (by simp)
      simp only [Nat.zero_mul, Nat.zero_add, List.getElem_cons_zero] at d0 d1 x0 x1
      have HY : Hid (a ^ k * a = a ^ (k + 1)) := (ipow_succ2 a k).symm
      generalize a ^ k * a = y at *
      generalize a ^ k = x at *
      unfold Z at HMk
      go_wp2_with fail
      refine (HMk.out _ (HC.out.below hbl.out)).mono ?_
      rintro en w5 ⟨rfl, b5⟩
      have HG5 := Lib.hid (hG.out.below b5)
      have HA5 := Lib.hid (hA.out.below b5)
      have HR5 := Lib.hid (hR.out.below b5)
      have HB5 := Lib.hid (chain hbl.out b5)
      clear b5 hG hA hR hbl
      obtain ⟨y0, y1⟩ := HG5.out.cell 0 (by simp)
      simp only [Nat.zero_mul, Nat.zero_add, List.getElem_cons_zero] at y0 y1
      have f0 := HG5.out.free 0
      have f1 := HG5.out.free 1
      have HG7 := HG5.out.set 0 (by simp) y
      simp only [Nat.zero_mul, Nat.zero_add, List.set_cons_zero] at HG7
      have HG8 := Lib.hid HG7
      have HA8 := Lib.hid ((HA5.out.other ⟨g, 0, none⟩ (.bool (zb y)) (by simp only; omega)).other ⟨g, 1, none⟩ (.string (zs y)) (by simp only; omega))
      have HR8 := Lib.hid ((HR5.out.other ⟨g, 0, none⟩ (.bool (zb y)) (by simp only; omega)).other ⟨g, 1, none⟩ (.string (zs y)) (by simp only; omega))
      have HB8 := Lib.hid ((HB5.out.setCell (p := ⟨g, 0, none⟩) (by simp only; omega) (.bool (zb y))).setCell (p := ⟨g, 1, none⟩) (by simp only; omega) (.string (zs y)))
      clear HG7
      go_wp2
      go_roundw
      case rel => exact ⟨_, k + 1, rfl, by omega, by go_num, by rw [← HY.out]; exact HG8.out, HA8.out, HR8.out, HB8.out⟩
      case measure => simp [intOf]; omega
    · obtain rfl : k = m := by omega
      have hkn : ¬ (k : Int) < n := by omega
      obtain ⟨d0, d1⟩ := hG.out.cell 0 (by simp)
      obtain ⟨e0, e1⟩ := hR.out.cell 0 (by simp)
      simp only [Nat.zero_mul, Nat.zero_add, List.getElem_cons_zero] at d0 d1 e0 e1
      rw [← HP.out] at d0 d1
      have f0 := hR.out.free 0
      have f1 := hR.out.free 1
      have HB8 := Lib.hid ((hbl.out.setCell (p := ⟨w.heap.size + 1, 0, none⟩) (by simp) (.bool (zb P))).setCell (p := ⟨w.heap.size + 1, 1, none⟩) (by simp) (.string (zs P)))
      go_wp2
      exact bodyPost_ret (v := .agg #[.bool (zb P), .string (zs P)]) (by simp [results, Tryz.results101, go_sem, e0, e1]) rfl ⟨rfl, HB8.out⟩
end Go.Proofs.YtepddegphdlbeaaGreat
