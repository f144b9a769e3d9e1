/- WideShifts gives true for every wide integer and every int (P1.5), and leaves its arguments as they were. No condition. -/
import Derived.Test.YtlmklhffafcmmaaH11
import Derived.Test.YtlmklhffafcmmaaRows
import Derived.Test.YtlmklhffafcmmaaH9
import Derived.ProofKit
import Derived.OpenShut
import Derived.ShutString
import Derived.ChangeOld
import Derived.Below
import Derived.Lib.SmallJoins

/- The law WideShifts gives true: far to the left, 0. -/
namespace Go.Proofs.Ytlmklhffafcmmaa
open Go.RowKit

set_option maxRecDepth 100000 in
set_option maxHeartbeats 8000000 in
theorem shifts_upfar0 (a : Bool) (s : ByteArray) (y : Int) (w : World) (z1 : s.size ≤ 60) (hv : vld a s = true) (k : Nat) (hy : y = (k : Int)) (hk2 : k ≤ 65536) (hno : ¬ (0 < lenB s ∧ 65536 < lenB s + k)) (h2 : 2000 < k) (h0 : sgV a s = 0) :
    Calls Try.prog 7 #[.agg #[.bool a, .string s], .int .i64 y] w (Ret (.bool true) w) := by
  have H_known := Lib.hid known_true
  obtain ⟨w0, hw0⟩ : ∃ w0 : World, w0 = (w.alloc (.cells #[.bool a, .string s] 23)).alloc (.cells #[.bool a, .string s] 23) := ⟨_, rfl⟩
  have hb0 : Hid (Below w.heap.size w w0) := by rw [hw0]; exact ((Below.refl _ _).alloc (Nat.le_refl _) _).alloc (by simp) _
  have I1 : Hid (ZC (.bool a) (.string s) w0 w.heap.size) := by rw [hw0]; exact (ZC.new rfl).alloc _
  have Hsz : Hid (w.heap.size + 2 ≤ w0.heap.size) := by rw [hw0]; show _ ≤ _; simp
  have HSH := short_any [(a, s)] 1 (w.heap.size + 1) w0 rfl (by decide) (by rw [hw0]; have := WL.one (w.alloc (.cells #[.bool a, .string s] 23)) a s 23; simpa using this)
  rw [short_true z1] at HSH
  have H_val := Lib.hid (fun g w h => valid_any [(a, s)] 1 g w rfl (by decide) h (by intro x hx; simp at hx; subst hx; show _ ≤ _; simp; omega))
  have v1 : validL [(a, s)] = true := by simp [validL, hv]
  rw [v1] at H_val
  unfold BPost at H_val
  have H_from := Lib.hid (fun w => rfrom_any a s w (by omega))
  have H_bits := Lib.hid (fun v w h => rbits60 hv z1 v w h)
  have hlb := lenB_bd s (by omega)
  have hlb2 := lenB_le (s := s) (by omega)
  unfold IPost at H_bits
  have hft := shl_fits (vld_can hv) k hno
  have H_sh : Hid (∀ w, Calls Try.prog 40 #[.agg #[.bool a, .string s], .int .i64 y] w _) := fun w => by rw [hy]; exact shl_z hv k hk2 hft w
  have H_back := Lib.hid (fun w => back_z hv k (-y) (by omega) (by omega) hk2 hft w)
  have H_sign := Lib.hid (fun v w h => rsignV hv v w h)
  have hs0 : ((sgV a s) == 0) = true := by simp [h0]
  unfold SignPost at H_sign
  unfold iV at H_sign
  clear hv v1 hft h0
  unfold IntPost at H_from
  unfold iV at H_from H_bits
  generalize sg a (bv s) = x at *
  generalize decide (x < 0) = bx at *
  generalize lenB s = nb at *
  generalize sgV a s = sv at *
  generalize x * 2 ^ k = z at *
  generalize zb z = cb at *
  generalize zs z = cs at *
  have hy1 : 0 ≤ y := by omega
  have hy2 : y ≤ 65536 := by omega
  have hy3 : 2000 < y := by omega
  rw [← hy] at hno
  have hnn : nb = 0 ∨ (0 < nb ∧ nb + y ≤ 65536) := by omega
  clear hy hk2 h2 hno
  rcases hnn with hnn | ⟨hnp, hnn⟩
  · skip
    have HSh := Lib.hid HSH
    have Hw0 := Lib.hid hw0
    clear HSH hw0
    unfold Ret at *
    unfold BPost at HSh
    go_enter Try.func7, Try.ntmps7
    go_wp2_with fail
    rw [← Hw0.out]
    refine HSh.out.mono ?_
    rintro e x0 ⟨rfl, b0⟩
    have D := Lib.hid b0
    clear b0
    obtain ⟨k0, k1, _⟩ := I1.out.next D.out
    go_wp2_with fail
    refine (H_sh.out _).mono ?_
    rintro e y4 ⟨rfl, b9⟩
    obtain ⟨n0, n1, _⟩ := I1.out.next (chain D.out b9)
    have j1 : w.heap.size < y4.heap.size := World.block_lt_of_cell? _ _ n0
    have j3 : ¬ w.heap.size = y4.heap.size := Nat.ne_of_lt j1
    obtain ⟨u4, hu4⟩ : ∃ u : World, u = y4.alloc (.cells #[.bool cb, .string cs] 23) := ⟨_, rfl⟩
    have E : Hid (Below x0.heap.size x0 u4) := by rw [hu4]; exact b9.alloc b9.size _
    have D := Lib.hid (chain D.out E.out)
    have T4 : Hid (ZC (.bool cb) (.string cs) u4 y4.heap.size) := by rw [hu4]; exact ZC.new rfl
    have HW4 : Hid (WL (u4.alloc (.cells #[.bool a, .string s] 23)) (y4.heap.size + 1) [(a, s)]) := by have := WL.one u4 a s 23; rwa [show u4.heap.size = y4.heap.size + 1 by rw [hu4]; simp] at this
    have Hu4 := Lib.hid hu4
    clear hu4 b9 E k0 k1
    obtain ⟨k0, k1, _⟩ := I1.out.next D.out
    obtain ⟨k2, k3, _⟩ := T4.out
    go_wp2_with fail
    rw [← Hu4.out]
    clear Hu4
    refine (H_val.out _ _ HW4.out).mono ?_
    rintro e y5 ⟨rfl, b9⟩
    have E := Lib.hid (chain (below_one u4 _) b9)
    have D := Lib.hid (chain D.out E.out)
    have T4 := Lib.hid (T4.out.next E.out)
    clear b9 E k0 k1 k2 k3 n0 n1 j1 j3
    obtain ⟨k0, k1, _⟩ := I1.out.next D.out
    obtain ⟨k2, k3, _⟩ := T4.out
    go_wp2_with fail
    refine (H_from.out _).mono ?_
    rintro e y6 ⟨vx, rfl, rx, b9⟩
    have RX := Lib.hid rx
    obtain ⟨px, bx', ox, cx, rfl, hrx⟩ := rx
    clear hrx
    generalize (Nm.dg D9 x.natAbs).length = lx at *
    obtain ⟨u6, hu6⟩ : ∃ u : World, u = y6.alloc (.cells #[.bool bx, .slice px lx cx] 31) := ⟨_, rfl⟩
    have E : Hid (Below y5.heap.size y5 u6) := by rw [hu6]; exact b9.alloc b9.size _
    have D := Lib.hid (chain D.out E.out)
    have T4 := Lib.hid (T4.out.next E.out)
    have T6 : Hid (ZC (.bool bx) (.slice px lx cx) u6 y6.heap.size) := by rw [hu6]; exact ZC.new rfl
    have RX : Hid (Rz u6 (.slice px lx cx) x) := by rw [hu6]; exact Ri.allocd RX.out _
    have Hu6 := Lib.hid hu6
    clear hu6 b9 E k0 k1 k2 k3
    obtain ⟨k0, k1, _⟩ := I1.out.next D.out
    obtain ⟨k2, k3, _⟩ := T4.out
    obtain ⟨k4, k5, _⟩ := T6.out
    go_wp2_with fail
    rw [← Hu6.out]
    clear Hu6
    refine (H_bits.out _ _ RX.out).mono ?_
    rintro e y7 ⟨rfl, b9⟩
    have D := Lib.hid (chain D.out b9)
    have T4 := Lib.hid (T4.out.next b9)
    have T6 := Lib.hid (T6.out.next b9)
    have RX := Lib.hid (Ri.below RX.out b9 (Nat.le_refl _))
    clear b9 k0 k1 k2 k3 k4 k5
    obtain ⟨k0, k1, _⟩ := I1.out.next D.out
    obtain ⟨k2, k3, _⟩ := T4.out
    obtain ⟨k4, k5, _⟩ := T6.out
    go_wp2_with fail
    refine (H_back.out _).mono ?_
    rintro e y8 ⟨rfl, b9⟩
    have RX := Lib.hid (Ri.below RX.out b9 (Nat.le_refl _))
    obtain ⟨u8, hu8⟩ : ∃ u : World, u = y8.alloc (.cells #[.bool a, .string s] 23) := ⟨_, rfl⟩
    have E : Hid (Below y7.heap.size y7 u8) := by rw [hu8]; exact b9.alloc b9.size _
    have D := Lib.hid (chain D.out E.out)
    have T4 := Lib.hid (T4.out.next E.out)
    have T6 := Lib.hid (T6.out.next E.out)
    have T8 : Hid (ZC (.bool a) (.string s) u8 y8.heap.size) := by rw [hu8]; exact ZC.new rfl
    have RX : Hid (Rz u8 (.slice px lx cx) x) := by rw [hu8]; exact Ri.allocd RX.out _
    have Hu8 := Lib.hid hu8
    clear hu8 b9 E k0 k1 k2 k3 k4 k5
    obtain ⟨k0, k1, _⟩ := I1.out.next D.out
    obtain ⟨k2, k3, _⟩ := T4.out
    obtain ⟨k4, k5, _⟩ := T6.out
    obtain ⟨k6, k7, _⟩ := T8.out
    go_wp2_with fail
    rw [← Hu8.out]
    clear Hu8
    clear hy1 hy2 hy3 hlb hlb2 hnn
    refine wp_region_noPanic ?_
    refine wp_region_held_drew (S := (fun W' => W'.cell? ⟨w.heap.size, 0, none⟩ = some (.bool a) ∧ W'.cell? ⟨w.heap.size, 1, none⟩ = some (.string s) ∧ W'.cell? ⟨y4.heap.size, 0, none⟩ = some (.bool cb) ∧ W'.cell? ⟨y4.heap.size, 1, none⟩ = some (.string cs) ∧ W'.cell? ⟨y6.heap.size, 0, none⟩ = some (.bool bx) ∧ W'.cell? ⟨y6.heap.size, 1, none⟩ = some (.slice px lx cx) ∧ W'.cell? ⟨y8.heap.size, 0, none⟩ = some (.bool a) ∧ W'.cell? ⟨y8.heap.size, 1, none⟩ = some (.string s))) (by kernel_rfl) ?_ (fun hHeld => ?_)
    · exact ⟨k0, k1, k2, k3, k4, k5, k6, k7⟩
    refine wpAnyH_take (i := 0) (oi := ?oi1) (v := ?v1) ?hi1 (by kernel_rfl) (by kernel_rfl) (by kernel_rfl) (fun _ _ _ h => h) (Or.inl ⟨?hw1, ?hy1⟩) (by assumption) ?rest1
    case hi1 => simp only [List.getElem?_toArray, List.getElem?_cons_succ, List.getElem?_cons_zero]; rfl
    case hw1 => rfl
    case hy1 =>
      intro w hSw
      (try dsimp only at hSw)
      go_simp
      (try with_reducible rfl)
    (try simp only [Act.put, List.setIfInBounds_toArray, List.set_cons_zero, List.set_cons_succ])
    refine wpAnyH_take (i := 1) (oi := ?oi2) (v := ?v2) ?hi2 (by kernel_rfl) (by kernel_rfl) (by kernel_rfl) (fun _ _ _ h => h) (Or.inl ⟨?hw2, ?hy2⟩) (by assumption) ?rest2
    case hi2 => simp only [List.getElem?_toArray, List.getElem?_cons_succ, List.getElem?_cons_zero]; rfl
    case hw2 => rfl
    case hy2 =>
      intro w hSw
      (try dsimp only at hSw)
      go_simp
      (try with_reducible rfl)
    (try simp only [Act.put, List.setIfInBounds_toArray, List.set_cons_zero, List.set_cons_succ])
    refine wpAnyH_take (i := 2) (oi := ?oi3) (v := ?v3) ?hi3 (by kernel_rfl) (by kernel_rfl) (by kernel_rfl) (fun _ _ _ h => h) (Or.inl ⟨?hw3, ?hy3⟩) (by assumption) ?rest3
    case hi3 => simp only [List.getElem?_toArray, List.getElem?_cons_succ, List.getElem?_cons_zero]; rfl
    case hw3 => rfl
    case hy3 =>
      intro w hSw
      (try dsimp only at hSw)
      go_simp
      (try with_reducible rfl)
    (try simp only [Act.put, List.setIfInBounds_toArray, List.set_cons_zero, List.set_cons_succ])
    refine wpAnyH_take (i := 3) (oi := ?oi4) (v := ?v4) ?hi4 (by kernel_rfl) (by kernel_rfl) (by kernel_rfl) (fun _ _ _ h => h) (Or.inl ⟨?hw4, ?hy4⟩) (by assumption) ?rest4
    case hi4 => simp only [List.getElem?_toArray, List.getElem?_cons_succ, List.getElem?_cons_zero]; rfl
    case hw4 => rfl
    case hy4 =>
      intro w hSw
      (try dsimp only at hSw)
      go_simp
      (try with_reducible rfl)
    (try simp only [Act.put, List.setIfInBounds_toArray, List.set_cons_zero, List.set_cons_succ])
    refine wpAnyH_take (i := 4) (oi := ?oi5) (v := ?v5) ?hi5 (by kernel_rfl) (by kernel_rfl) (by kernel_rfl) (fun _ _ _ h => h) (Or.inl ⟨?hw5, ?hy5⟩) (by assumption) ?rest5
    case hi5 => simp only [List.getElem?_toArray, List.getElem?_cons_succ, List.getElem?_cons_zero]; rfl
    case hw5 => rfl
    case hy5 =>
      intro w hSw
      (try dsimp only at hSw)
      go_simp
      (try with_reducible rfl)
    (try simp only [Act.put, List.setIfInBounds_toArray, List.set_cons_zero, List.set_cons_succ])
    refine wpAnyH_take (i := 5) (oi := ?oi6) (v := ?v6) ?hi6 (by kernel_rfl) (by kernel_rfl) (by kernel_rfl) (fun _ _ _ h => h) (Or.inl ⟨?hw6, ?hy6⟩) (by assumption) ?rest6
    case hi6 => simp only [List.getElem?_toArray, List.getElem?_cons_succ, List.getElem?_cons_zero]; rfl
    case hw6 => rfl
    case hy6 =>
      intro w hSw
      (try dsimp only at hSw)
      go_simp
      (try with_reducible rfl)
    (try simp only [Act.put, List.setIfInBounds_toArray, List.set_cons_zero, List.set_cons_succ])
    refine wpAnyH_take (i := 6) (oi := ?oi7) (v := ?v7) ?hi7 (by kernel_rfl) (by kernel_rfl) (by kernel_rfl) (fun _ _ _ h => h) (Or.inl ⟨?hw7, ?hy7⟩) (by assumption) ?rest7
    case hi7 => simp only [List.getElem?_toArray, List.getElem?_cons_succ, List.getElem?_cons_zero]; rfl
    case hw7 => rfl
    case hy7 =>
      intro w hSw
      (try dsimp only at hSw)
      go_simp
      (try with_reducible rfl)
    (try simp only [Act.put, List.setIfInBounds_toArray, List.set_cons_zero, List.set_cons_succ])
    refine wpAnyH_take (i := 7) (oi := ?oi8) (v := ?v8) ?hi8 (by kernel_rfl) (by kernel_rfl) (by kernel_rfl) (fun _ _ _ h => h) (Or.inl ⟨?hw8, ?hy8⟩) (by assumption) ?rest8
    case hi8 => simp only [List.getElem?_toArray, List.getElem?_cons_succ, List.getElem?_cons_zero]; rfl
    case hw8 => rfl
    case hy8 =>
      intro w hSw
      (try dsimp only at hSw)
      go_simp
      (try with_reducible rfl)
    (try simp only [Act.put, List.setIfInBounds_toArray, List.set_cons_zero, List.set_cons_succ])
    refine wpAnyH_take (i := 8) (oi := ?oi9) (v := ?v9) ?hi9 (by kernel_rfl) (by kernel_rfl) (by kernel_rfl) (fun _ _ _ h => h) (Or.inl ⟨?hw9, ?hy9⟩) (by assumption) ?rest9
    case hi9 => simp only [List.getElem?_toArray, List.getElem?_cons_succ, List.getElem?_cons_zero]; rfl
    case hw9 => rfl
    case hy9 =>
      intro w hSw
      (try dsimp only at hSw)
      go_simp
      (try with_reducible rfl)
    (try simp only [Act.put, List.setIfInBounds_toArray, List.set_cons_zero, List.set_cons_succ])
    refine wpAnyH_take (i := 9) (oi := ?oi10) (v := ?v10) ?hi10 (by kernel_rfl) (by kernel_rfl) (by kernel_rfl) (fun _ _ _ h => h) (Or.inl ⟨?hw10, ?hy10⟩) (by assumption) ?rest10
    case hi10 => simp only [List.getElem?_toArray, List.getElem?_cons_succ, List.getElem?_cons_zero]; rfl
    case hw10 => rfl
    case hy10 =>
      intro w hSw
      (try dsimp only at hSw)
      go_simp
      (try with_reducible rfl)
    (try simp only [Act.put, List.setIfInBounds_toArray, List.set_cons_zero, List.set_cons_succ])
    refine wpAnyH_take (i := 10) (oi := ?oi11) (v := ?v11) ?hi11 (by kernel_rfl) (by kernel_rfl) (by kernel_rfl) (fun _ _ _ h => h) (Or.inl ⟨?hw11, ?hy11⟩) (by assumption) ?rest11
    case hi11 => simp only [List.getElem?_toArray, List.getElem?_cons_succ, List.getElem?_cons_zero]; rfl
    case hw11 => rfl
    case hy11 =>
      intro w hSw
      (try dsimp only at hSw)
      go_simp
      (try with_reducible rfl)
    (try simp only [Act.put, List.setIfInBounds_toArray, List.set_cons_zero, List.set_cons_succ])
    refine wpAnyH_take (i := 11) (oi := ?oi12) (v := ?v12) ?hi12 (by kernel_rfl) (by kernel_rfl) (by kernel_rfl) (fun _ _ _ h => h) (Or.inl ⟨?hw12, ?hy12⟩) (by assumption) ?rest12
    case hi12 => simp only [List.getElem?_toArray, List.getElem?_cons_succ, List.getElem?_cons_zero]; rfl
    case hw12 => rfl
    case hy12 =>
      intro w hSw
      (try dsimp only at hSw)
      go_simp
      (try with_reducible rfl)
    (try simp only [Act.put, List.setIfInBounds_toArray, List.set_cons_zero, List.set_cons_succ])
    refine wpAnyH_take (i := 12) (oi := ?oi13) (v := ?v13) ?hi13 (by kernel_rfl) (by kernel_rfl) (by kernel_rfl) (fun _ _ _ h => h) (Or.inl ⟨?hw13, ?hy13⟩) (by assumption) ?rest13
    case hi13 => simp only [List.getElem?_toArray, List.getElem?_cons_succ, List.getElem?_cons_zero]; rfl
    case hw13 => rfl
    case hy13 =>
      intro w hSw
      (try dsimp only at hSw)
      go_simp
      (try with_reducible rfl)
    (try simp only [Act.put, List.setIfInBounds_toArray, List.set_cons_zero, List.set_cons_succ])
    refine wpAnyH_ready (rs := [13]) (by kernel_rfl) (by simp) ?_
    refine AllReadyH.cons (o := ?oi14) ?hi14 ?rest14 AllReadyH.nil
    case hi14 => simp only [List.getElem?_toArray, List.getElem?_cons_succ, List.getElem?_cons_zero]; rfl
    intro K hK
    go_simp
    (with_reducible refine (H_sign.out _ _ (Ri.drew RX.out)).mono ?_)
    rintro e y ⟨rfl, b9⟩
    have E := Lib.hid (show Below u8.heap.size u8 y by first | exact chain E.out b9 | exact chain ((Below.refl u8.heap.size u8).drew) b9)
    have p0 := keep1 E.out k0
    have p1 := keep1 E.out k1
    have p2 := keep1 E.out k2
    have p3 := keep1 E.out k3
    have p4 := keep1 E.out k4
    have p5 := keep1 E.out k5
    have p6 := keep1 E.out k6
    have p7 := keep1 E.out k7
    clear b9
    (try go_wp2_with fail)
    refine hK.out _ _ ?_ (fun hHeld => ?_)
    · (try dsimp only)
      exact ⟨p0, p1, p2, p3, p4, p5, p6, p7⟩
    clear hK K
    (try simp only [Act.put, List.setIfInBounds_toArray, List.set_cons_zero, List.set_cons_succ])
    refine wpAnyH_take (i := 14) (oi := ?oi15) (v := ?v15) ?hi15 (by kernel_rfl) (by kernel_rfl) (by kernel_rfl) (fun _ _ _ h => h) (Or.inl ⟨?hw15, ?hy15⟩) (by assumption) ?rest15
    case hi15 => simp only [List.getElem?_toArray, List.getElem?_cons_succ, List.getElem?_cons_zero]; rfl
    case hw15 => rfl
    case hy15 =>
      intro w hSw
      (try dsimp only at hSw)
      go_simp
      (try with_reducible rfl)
    (try simp only [Act.put, List.setIfInBounds_toArray, List.set_cons_zero, List.set_cons_succ])
    refine wpAnyH_take (i := 15) (oi := ?oi16) (v := ?v16) ?hi16 (by kernel_rfl) (by kernel_rfl) (by kernel_rfl) (fun _ _ _ h => h) (Or.inl ⟨?hw16, ?hy16⟩) (by assumption) ?rest16
    case hi16 => simp only [List.getElem?_toArray, List.getElem?_cons_succ, List.getElem?_cons_zero]; rfl
    case hw16 => rfl
    case hy16 =>
      intro w hSw
      (try dsimp only at hSw)
      go_simp
      (try with_reducible rfl)
    (try simp only [Act.put, List.setIfInBounds_toArray, List.set_cons_zero, List.set_cons_succ])
    refine wpAnyH_take (i := 16) (oi := ?oi17) (v := undef) ?hi17 (by kernel_rfl) (by kernel_rfl) (by kernel_rfl) (fun _ _ _ h => h) (Or.inr ⟨?hw17, rfl⟩) (by assumption) ?rest17
    case hi17 => simp only [List.getElem?_toArray, List.getElem?_cons_succ, List.getElem?_cons_zero]; rfl
    case hw17 => rfl
    (try simp only [Act.put, List.setIfInBounds_toArray, List.set_cons_zero, List.set_cons_succ])
    refine wpAnyH_take (i := 17) (oi := ?oi18) (v := undef) ?hi18 (by kernel_rfl) (by kernel_rfl) (by kernel_rfl) (fun _ _ _ h => h) (Or.inr ⟨?hw18, rfl⟩) (by assumption) ?rest18
    case hi18 => simp only [List.getElem?_toArray, List.getElem?_cons_succ, List.getElem?_cons_zero]; rfl
    case hw18 => rfl
    (try simp only [Act.put, List.setIfInBounds_toArray, List.set_cons_zero, List.set_cons_succ])
    refine wpAnyH_take (i := 18) (oi := ?oi19) (v := undef) ?hi19 (by kernel_rfl) (by kernel_rfl) (by kernel_rfl) (fun _ _ _ h => h) (Or.inr ⟨?hw19, rfl⟩) (by assumption) ?rest19
    case hi19 => simp only [List.getElem?_toArray, List.getElem?_cons_succ, List.getElem?_cons_zero]; rfl
    case hw19 => rfl
    (try simp only [Act.put, List.setIfInBounds_toArray, List.set_cons_zero, List.set_cons_succ])
    refine wpAnyH_take (i := 19) (oi := ?oi20) (v := undef) ?hi20 (by kernel_rfl) (by kernel_rfl) (by kernel_rfl) (fun _ _ _ h => h) (Or.inr ⟨?hw20, rfl⟩) (by assumption) ?rest20
    case hi20 => simp only [List.getElem?_toArray, List.getElem?_cons_succ, List.getElem?_cons_zero]; rfl
    case hw20 => rfl
    (try simp only [Act.put, List.setIfInBounds_toArray, List.set_cons_zero, List.set_cons_succ])
    refine wpAnyH_take (i := 20) (oi := ?oi21) (v := undef) ?hi21 (by kernel_rfl) (by kernel_rfl) (by kernel_rfl) (fun _ _ _ h => h) (Or.inr ⟨?hw21, rfl⟩) (by assumption) ?rest21
    case hi21 => simp only [List.getElem?_toArray, List.getElem?_cons_succ, List.getElem?_cons_zero]; rfl
    case hw21 => rfl
    (try simp only [Act.put, List.setIfInBounds_toArray, List.set_cons_zero, List.set_cons_succ])
    refine wpAnyH_take (i := 21) (oi := ?oi22) (v := undef) ?hi22 (by kernel_rfl) (by kernel_rfl) (by kernel_rfl) (fun _ _ _ h => h) (Or.inr ⟨?hw22, rfl⟩) (by assumption) ?rest22
    case hi22 => simp only [List.getElem?_toArray, List.getElem?_cons_succ, List.getElem?_cons_zero]; rfl
    case hw22 => rfl
    (try simp only [Act.put, List.setIfInBounds_toArray, List.set_cons_zero, List.set_cons_succ])
    refine wpAnyH_take (i := 22) (oi := ?oi23) (v := undef) ?hi23 (by kernel_rfl) (by kernel_rfl) (by kernel_rfl) (fun _ _ _ h => h) (Or.inr ⟨?hw23, rfl⟩) (by assumption) ?rest23
    case hi23 => simp only [List.getElem?_toArray, List.getElem?_cons_succ, List.getElem?_cons_zero]; rfl
    case hw23 => rfl
    (try simp only [Act.put, List.setIfInBounds_toArray, List.set_cons_zero, List.set_cons_succ])
    refine wpAnyH_take (i := 23) (oi := ?oi24) (v := ?v24) ?hi24 (by kernel_rfl) (by kernel_rfl) (by kernel_rfl) (fun _ _ _ h => h) (Or.inl ⟨?hw24, ?hy24⟩) (by assumption) ?rest24
    case hi24 => simp only [List.getElem?_toArray, List.getElem?_cons_succ, List.getElem?_cons_zero]; rfl
    case hw24 => rfl
    case hy24 =>
      intro w hSw
      (try dsimp only at hSw)
      go_simp
      (try with_reducible rfl)
    (try simp only [Act.put, List.setIfInBounds_toArray, List.set_cons_zero, List.set_cons_succ])
    refine wpAnyH_take (i := 24) (oi := ?oi25) (v := ?v25) ?hi25 (by kernel_rfl) (by kernel_rfl) (by kernel_rfl) (fun _ _ _ h => h) (Or.inl ⟨?hw25, ?hy25⟩) (by assumption) ?rest25
    case hi25 => simp only [List.getElem?_toArray, List.getElem?_cons_succ, List.getElem?_cons_zero]; rfl
    case hw25 => rfl
    case hy25 =>
      intro w hSw
      (try dsimp only at hSw)
      go_simp
      (try with_reducible rfl)
    (try simp only [Act.put, List.setIfInBounds_toArray, List.set_cons_zero, List.set_cons_succ])
    refine wpAnyH_take (i := 25) (oi := ?oi26) (v := ?v26) ?hi26 (by kernel_rfl) (by kernel_rfl) (by kernel_rfl) (fun _ _ _ h => h) (Or.inl ⟨?hw26, ?hy26⟩) (by assumption) ?rest26
    case hi26 => simp only [List.getElem?_toArray, List.getElem?_cons_succ, List.getElem?_cons_zero]; rfl
    case hw26 => rfl
    case hy26 =>
      intro w hSw
      (try dsimp only at hSw)
      go_simp
      (try with_reducible rfl)
    (try simp only [Act.put, List.setIfInBounds_toArray, List.set_cons_zero, List.set_cons_succ])
    refine wpAnyH_ready (rs := [26]) (by kernel_rfl) (by simp) ?_
    refine AllReadyH.cons (o := ?oi27) ?hi27 ?rest27 AllReadyH.nil
    case hi27 => simp only [List.getElem?_toArray, List.getElem?_cons_succ, List.getElem?_cons_zero]; rfl
    intro K hK
    go_simp
    (with_reducible refine (H_known.out _).mono ?_)
    rintro e y ⟨rfl, b9⟩
    have E := Lib.hid (show Below u8.heap.size u8 y by first | exact chain E.out b9 | exact chain ((Below.refl u8.heap.size u8).drew) b9)
    have p0 := keep1 E.out k0
    have p1 := keep1 E.out k1
    have p2 := keep1 E.out k2
    have p3 := keep1 E.out k3
    have p4 := keep1 E.out k4
    have p5 := keep1 E.out k5
    have p6 := keep1 E.out k6
    have p7 := keep1 E.out k7
    clear b9
    (try go_wp2_with fail)
    refine hK.out _ _ ?_ (fun hHeld => ?_)
    · (try dsimp only)
      exact ⟨p0, p1, p2, p3, p4, p5, p6, p7⟩
    clear hK K
    (try simp only [Act.put, List.setIfInBounds_toArray, List.set_cons_zero, List.set_cons_succ])
    refine wpAnyH_take (i := 27) (oi := ?oi28) (v := ?v28) ?hi28 (by kernel_rfl) (by kernel_rfl) (by kernel_rfl) (fun _ _ _ h => h) (Or.inl ⟨?hw28, ?hy28⟩) (by assumption) ?rest28
    case hi28 => simp only [List.getElem?_toArray, List.getElem?_cons_succ, List.getElem?_cons_zero]; rfl
    case hw28 => rfl
    case hy28 =>
      intro w hSw
      (try dsimp only at hSw)
      go_simp
      (try with_reducible rfl)
    (try simp only [Act.put, List.setIfInBounds_toArray, List.set_cons_zero, List.set_cons_succ])
    refine wpAnyH_take (i := 28) (oi := ?oi29) (v := ?v29) ?hi29 (by kernel_rfl) (by kernel_rfl) (by kernel_rfl) (fun _ _ _ h => h) (Or.inl ⟨?hw29, ?hy29⟩) (by assumption) ?rest29
    case hi29 => simp only [List.getElem?_toArray, List.getElem?_cons_succ, List.getElem?_cons_zero]; rfl
    case hw29 => rfl
    case hy29 =>
      intro w hSw
      (try dsimp only at hSw)
      go_simp
      (try with_reducible rfl)
    (try simp only [Act.put, List.setIfInBounds_toArray, List.set_cons_zero, List.set_cons_succ])
    refine wpAnyH_done (by kernel_rfl) ?_ _
    refine NoPanic.normal ?_
    (try dsimp only [Exit.then])
    have D := Lib.hid (chain D.out E.out)
    have HZ := Lib.hid (chain hb0.out D.out)
    go_wp2
    go_ret
    exact ⟨rfl, HZ.out⟩
  · skip
    have HSh := Lib.hid HSH
    have Hw0 := Lib.hid hw0
    clear HSH hw0
    unfold Ret at *
    unfold BPost at HSh
    go_enter Try.func7, Try.ntmps7
    go_wp2_with fail
    rw [← Hw0.out]
    refine HSh.out.mono ?_
    rintro e x0 ⟨rfl, b0⟩
    have D := Lib.hid b0
    clear b0
    obtain ⟨k0, k1, _⟩ := I1.out.next D.out
    go_wp2_with fail
    refine (H_sh.out _).mono ?_
    rintro e y4 ⟨rfl, b9⟩
    obtain ⟨n0, n1, _⟩ := I1.out.next (chain D.out b9)
    have j1 : w.heap.size < y4.heap.size := World.block_lt_of_cell? _ _ n0
    have j3 : ¬ w.heap.size = y4.heap.size := Nat.ne_of_lt j1
    obtain ⟨u4, hu4⟩ : ∃ u : World, u = y4.alloc (.cells #[.bool cb, .string cs] 23) := ⟨_, rfl⟩
    have E : Hid (Below x0.heap.size x0 u4) := by rw [hu4]; exact b9.alloc b9.size _
    have D := Lib.hid (chain D.out E.out)
    have T4 : Hid (ZC (.bool cb) (.string cs) u4 y4.heap.size) := by rw [hu4]; exact ZC.new rfl
    have HW4 : Hid (WL (u4.alloc (.cells #[.bool a, .string s] 23)) (y4.heap.size + 1) [(a, s)]) := by have := WL.one u4 a s 23; rwa [show u4.heap.size = y4.heap.size + 1 by rw [hu4]; simp] at this
    have Hu4 := Lib.hid hu4
    clear hu4 b9 E k0 k1
    obtain ⟨k0, k1, _⟩ := I1.out.next D.out
    obtain ⟨k2, k3, _⟩ := T4.out
    go_wp2_with fail
    rw [← Hu4.out]
    clear Hu4
    refine (H_val.out _ _ HW4.out).mono ?_
    rintro e y5 ⟨rfl, b9⟩
    have E := Lib.hid (chain (below_one u4 _) b9)
    have D := Lib.hid (chain D.out E.out)
    have T4 := Lib.hid (T4.out.next E.out)
    clear b9 E k0 k1 k2 k3 n0 n1 j1 j3
    obtain ⟨k0, k1, _⟩ := I1.out.next D.out
    obtain ⟨k2, k3, _⟩ := T4.out
    go_wp2_with fail
    refine (H_from.out _).mono ?_
    rintro e y6 ⟨vx, rfl, rx, b9⟩
    have RX := Lib.hid rx
    obtain ⟨px, bx', ox, cx, rfl, hrx⟩ := rx
    clear hrx
    generalize (Nm.dg D9 x.natAbs).length = lx at *
    obtain ⟨u6, hu6⟩ : ∃ u : World, u = y6.alloc (.cells #[.bool bx, .slice px lx cx] 31) := ⟨_, rfl⟩
    have E : Hid (Below y5.heap.size y5 u6) := by rw [hu6]; exact b9.alloc b9.size _
    have D := Lib.hid (chain D.out E.out)
    have T4 := Lib.hid (T4.out.next E.out)
    have T6 : Hid (ZC (.bool bx) (.slice px lx cx) u6 y6.heap.size) := by rw [hu6]; exact ZC.new rfl
    have RX : Hid (Rz u6 (.slice px lx cx) x) := by rw [hu6]; exact Ri.allocd RX.out _
    have Hu6 := Lib.hid hu6
    clear hu6 b9 E k0 k1 k2 k3
    obtain ⟨k0, k1, _⟩ := I1.out.next D.out
    obtain ⟨k2, k3, _⟩ := T4.out
    obtain ⟨k4, k5, _⟩ := T6.out
    go_wp2_with fail
    rw [← Hu6.out]
    clear Hu6
    refine (H_bits.out _ _ RX.out).mono ?_
    rintro e y7 ⟨rfl, b9⟩
    have D := Lib.hid (chain D.out b9)
    have T4 := Lib.hid (T4.out.next b9)
    have T6 := Lib.hid (T6.out.next b9)
    have RX := Lib.hid (Ri.below RX.out b9 (Nat.le_refl _))
    clear b9 k0 k1 k2 k3 k4 k5
    obtain ⟨k0, k1, _⟩ := I1.out.next D.out
    obtain ⟨k2, k3, _⟩ := T4.out
    obtain ⟨k4, k5, _⟩ := T6.out
    go_wp2_with fail
    refine (H_back.out _).mono ?_
    rintro e y8 ⟨rfl, b9⟩
    have RX := Lib.hid (Ri.below RX.out b9 (Nat.le_refl _))
    obtain ⟨u8, hu8⟩ : ∃ u : World, u = y8.alloc (.cells #[.bool a, .string s] 23) := ⟨_, rfl⟩
    have E : Hid (Below y7.heap.size y7 u8) := by rw [hu8]; exact b9.alloc b9.size _
    have D := Lib.hid (chain D.out E.out)
    have T4 := Lib.hid (T4.out.next E.out)
    have T6 := Lib.hid (T6.out.next E.out)
    have T8 : Hid (ZC (.bool a) (.string s) u8 y8.heap.size) := by rw [hu8]; exact ZC.new rfl
    have RX : Hid (Rz u8 (.slice px lx cx) x) := by rw [hu8]; exact Ri.allocd RX.out _
    have Hu8 := Lib.hid hu8
    clear hu8 b9 E k0 k1 k2 k3 k4 k5
    obtain ⟨k0, k1, _⟩ := I1.out.next D.out
    obtain ⟨k2, k3, _⟩ := T4.out
    obtain ⟨k4, k5, _⟩ := T6.out
    obtain ⟨k6, k7, _⟩ := T8.out
    go_wp2_with fail
    rw [← Hu8.out]
    clear Hu8
    clear hy1 hy2 hy3 hlb hlb2 hnn hnp
    refine wp_region_noPanic ?_
    refine wp_region_held_drew (S := (fun W' => W'.cell? ⟨w.heap.size, 0, none⟩ = some (.bool a) ∧ W'.cell? ⟨w.heap.size, 1, none⟩ = some (.string s) ∧ W'.cell? ⟨y4.heap.size, 0, none⟩ = some (.bool cb) ∧ W'.cell? ⟨y4.heap.size, 1, none⟩ = some (.string cs) ∧ W'.cell? ⟨y6.heap.size, 0, none⟩ = some (.bool bx) ∧ W'.cell? ⟨y6.heap.size, 1, none⟩ = some (.slice px lx cx) ∧ W'.cell? ⟨y8.heap.size, 0, none⟩ = some (.bool a) ∧ W'.cell? ⟨y8.heap.size, 1, none⟩ = some (.string s))) (by kernel_rfl) ?_ (fun hHeld => ?_)
    · exact ⟨k0, k1, k2, k3, k4, k5, k6, k7⟩
    refine wpAnyH_take (i := 0) (oi := ?oi30) (v := ?v30) ?hi30 (by kernel_rfl) (by kernel_rfl) (by kernel_rfl) (fun _ _ _ h => h) (Or.inl ⟨?hw30, ?hy30⟩) (by assumption) ?rest30
    case hi30 => simp only [List.getElem?_toArray, List.getElem?_cons_succ, List.getElem?_cons_zero]; rfl
    case hw30 => rfl
    case hy30 =>
      intro w hSw
      (try dsimp only at hSw)
      go_simp
      (try with_reducible rfl)
    (try simp only [Act.put, List.setIfInBounds_toArray, List.set_cons_zero, List.set_cons_succ])
    refine wpAnyH_take (i := 1) (oi := ?oi31) (v := ?v31) ?hi31 (by kernel_rfl) (by kernel_rfl) (by kernel_rfl) (fun _ _ _ h => h) (Or.inl ⟨?hw31, ?hy31⟩) (by assumption) ?rest31
    case hi31 => simp only [List.getElem?_toArray, List.getElem?_cons_succ, List.getElem?_cons_zero]; rfl
    case hw31 => rfl
    case hy31 =>
      intro w hSw
      (try dsimp only at hSw)
      go_simp
      (try with_reducible rfl)
    (try simp only [Act.put, List.setIfInBounds_toArray, List.set_cons_zero, List.set_cons_succ])
    refine wpAnyH_take (i := 2) (oi := ?oi32) (v := ?v32) ?hi32 (by kernel_rfl) (by kernel_rfl) (by kernel_rfl) (fun _ _ _ h => h) (Or.inl ⟨?hw32, ?hy32⟩) (by assumption) ?rest32
    case hi32 => simp only [List.getElem?_toArray, List.getElem?_cons_succ, List.getElem?_cons_zero]; rfl
    case hw32 => rfl
    case hy32 =>
      intro w hSw
      (try dsimp only at hSw)
      go_simp
      (try with_reducible rfl)
    (try simp only [Act.put, List.setIfInBounds_toArray, List.set_cons_zero, List.set_cons_succ])
    refine wpAnyH_take (i := 3) (oi := ?oi33) (v := ?v33) ?hi33 (by kernel_rfl) (by kernel_rfl) (by kernel_rfl) (fun _ _ _ h => h) (Or.inl ⟨?hw33, ?hy33⟩) (by assumption) ?rest33
    case hi33 => simp only [List.getElem?_toArray, List.getElem?_cons_succ, List.getElem?_cons_zero]; rfl
    case hw33 => rfl
    case hy33 =>
      intro w hSw
      (try dsimp only at hSw)
      go_simp
      (try with_reducible rfl)
    (try simp only [Act.put, List.setIfInBounds_toArray, List.set_cons_zero, List.set_cons_succ])
    refine wpAnyH_take (i := 4) (oi := ?oi34) (v := ?v34) ?hi34 (by kernel_rfl) (by kernel_rfl) (by kernel_rfl) (fun _ _ _ h => h) (Or.inl ⟨?hw34, ?hy34⟩) (by assumption) ?rest34
    case hi34 => simp only [List.getElem?_toArray, List.getElem?_cons_succ, List.getElem?_cons_zero]; rfl
    case hw34 => rfl
    case hy34 =>
      intro w hSw
      (try dsimp only at hSw)
      go_simp
      (try with_reducible rfl)
    (try simp only [Act.put, List.setIfInBounds_toArray, List.set_cons_zero, List.set_cons_succ])
    refine wpAnyH_take (i := 5) (oi := ?oi35) (v := ?v35) ?hi35 (by kernel_rfl) (by kernel_rfl) (by kernel_rfl) (fun _ _ _ h => h) (Or.inl ⟨?hw35, ?hy35⟩) (by assumption) ?rest35
    case hi35 => simp only [List.getElem?_toArray, List.getElem?_cons_succ, List.getElem?_cons_zero]; rfl
    case hw35 => rfl
    case hy35 =>
      intro w hSw
      (try dsimp only at hSw)
      go_simp
      (try with_reducible rfl)
    (try simp only [Act.put, List.setIfInBounds_toArray, List.set_cons_zero, List.set_cons_succ])
    refine wpAnyH_take (i := 6) (oi := ?oi36) (v := ?v36) ?hi36 (by kernel_rfl) (by kernel_rfl) (by kernel_rfl) (fun _ _ _ h => h) (Or.inl ⟨?hw36, ?hy36⟩) (by assumption) ?rest36
    case hi36 => simp only [List.getElem?_toArray, List.getElem?_cons_succ, List.getElem?_cons_zero]; rfl
    case hw36 => rfl
    case hy36 =>
      intro w hSw
      (try dsimp only at hSw)
      go_simp
      (try with_reducible rfl)
    (try simp only [Act.put, List.setIfInBounds_toArray, List.set_cons_zero, List.set_cons_succ])
    refine wpAnyH_take (i := 7) (oi := ?oi37) (v := ?v37) ?hi37 (by kernel_rfl) (by kernel_rfl) (by kernel_rfl) (fun _ _ _ h => h) (Or.inl ⟨?hw37, ?hy37⟩) (by assumption) ?rest37
    case hi37 => simp only [List.getElem?_toArray, List.getElem?_cons_succ, List.getElem?_cons_zero]; rfl
    case hw37 => rfl
    case hy37 =>
      intro w hSw
      (try dsimp only at hSw)
      go_simp
      (try with_reducible rfl)
    (try simp only [Act.put, List.setIfInBounds_toArray, List.set_cons_zero, List.set_cons_succ])
    refine wpAnyH_take (i := 8) (oi := ?oi38) (v := ?v38) ?hi38 (by kernel_rfl) (by kernel_rfl) (by kernel_rfl) (fun _ _ _ h => h) (Or.inl ⟨?hw38, ?hy38⟩) (by assumption) ?rest38
    case hi38 => simp only [List.getElem?_toArray, List.getElem?_cons_succ, List.getElem?_cons_zero]; rfl
    case hw38 => rfl
    case hy38 =>
      intro w hSw
      (try dsimp only at hSw)
      go_simp
      (try with_reducible rfl)
    (try simp only [Act.put, List.setIfInBounds_toArray, List.set_cons_zero, List.set_cons_succ])
    refine wpAnyH_take (i := 9) (oi := ?oi39) (v := ?v39) ?hi39 (by kernel_rfl) (by kernel_rfl) (by kernel_rfl) (fun _ _ _ h => h) (Or.inl ⟨?hw39, ?hy39⟩) (by assumption) ?rest39
    case hi39 => simp only [List.getElem?_toArray, List.getElem?_cons_succ, List.getElem?_cons_zero]; rfl
    case hw39 => rfl
    case hy39 =>
      intro w hSw
      (try dsimp only at hSw)
      go_simp
      (try with_reducible rfl)
    (try simp only [Act.put, List.setIfInBounds_toArray, List.set_cons_zero, List.set_cons_succ])
    refine wpAnyH_take (i := 10) (oi := ?oi40) (v := ?v40) ?hi40 (by kernel_rfl) (by kernel_rfl) (by kernel_rfl) (fun _ _ _ h => h) (Or.inl ⟨?hw40, ?hy40⟩) (by assumption) ?rest40
    case hi40 => simp only [List.getElem?_toArray, List.getElem?_cons_succ, List.getElem?_cons_zero]; rfl
    case hw40 => rfl
    case hy40 =>
      intro w hSw
      (try dsimp only at hSw)
      go_simp
      (try with_reducible rfl)
    (try simp only [Act.put, List.setIfInBounds_toArray, List.set_cons_zero, List.set_cons_succ])
    refine wpAnyH_take (i := 11) (oi := ?oi41) (v := ?v41) ?hi41 (by kernel_rfl) (by kernel_rfl) (by kernel_rfl) (fun _ _ _ h => h) (Or.inl ⟨?hw41, ?hy41⟩) (by assumption) ?rest41
    case hi41 => simp only [List.getElem?_toArray, List.getElem?_cons_succ, List.getElem?_cons_zero]; rfl
    case hw41 => rfl
    case hy41 =>
      intro w hSw
      (try dsimp only at hSw)
      go_simp
      (try with_reducible rfl)
    (try simp only [Act.put, List.setIfInBounds_toArray, List.set_cons_zero, List.set_cons_succ])
    refine wpAnyH_take (i := 12) (oi := ?oi42) (v := ?v42) ?hi42 (by kernel_rfl) (by kernel_rfl) (by kernel_rfl) (fun _ _ _ h => h) (Or.inl ⟨?hw42, ?hy42⟩) (by assumption) ?rest42
    case hi42 => simp only [List.getElem?_toArray, List.getElem?_cons_succ, List.getElem?_cons_zero]; rfl
    case hw42 => rfl
    case hy42 =>
      intro w hSw
      (try dsimp only at hSw)
      go_simp
      (try with_reducible rfl)
    (try simp only [Act.put, List.setIfInBounds_toArray, List.set_cons_zero, List.set_cons_succ])
    refine wpAnyH_ready (rs := [13]) (by kernel_rfl) (by simp) ?_
    refine AllReadyH.cons (o := ?oi43) ?hi43 ?rest43 AllReadyH.nil
    case hi43 => simp only [List.getElem?_toArray, List.getElem?_cons_succ, List.getElem?_cons_zero]; rfl
    intro K hK
    go_simp
    (with_reducible refine (H_sign.out _ _ (Ri.drew RX.out)).mono ?_)
    rintro e y ⟨rfl, b9⟩
    have E := Lib.hid (show Below u8.heap.size u8 y by first | exact chain E.out b9 | exact chain ((Below.refl u8.heap.size u8).drew) b9)
    have p0 := keep1 E.out k0
    have p1 := keep1 E.out k1
    have p2 := keep1 E.out k2
    have p3 := keep1 E.out k3
    have p4 := keep1 E.out k4
    have p5 := keep1 E.out k5
    have p6 := keep1 E.out k6
    have p7 := keep1 E.out k7
    clear b9
    (try go_wp2_with fail)
    refine hK.out _ _ ?_ (fun hHeld => ?_)
    · (try dsimp only)
      exact ⟨p0, p1, p2, p3, p4, p5, p6, p7⟩
    clear hK K
    (try simp only [Act.put, List.setIfInBounds_toArray, List.set_cons_zero, List.set_cons_succ])
    refine wpAnyH_take (i := 14) (oi := ?oi44) (v := ?v44) ?hi44 (by kernel_rfl) (by kernel_rfl) (by kernel_rfl) (fun _ _ _ h => h) (Or.inl ⟨?hw44, ?hy44⟩) (by assumption) ?rest44
    case hi44 => simp only [List.getElem?_toArray, List.getElem?_cons_succ, List.getElem?_cons_zero]; rfl
    case hw44 => rfl
    case hy44 =>
      intro w hSw
      (try dsimp only at hSw)
      go_simp
      (try with_reducible rfl)
    (try simp only [Act.put, List.setIfInBounds_toArray, List.set_cons_zero, List.set_cons_succ])
    refine wpAnyH_take (i := 15) (oi := ?oi45) (v := ?v45) ?hi45 (by kernel_rfl) (by kernel_rfl) (by kernel_rfl) (fun _ _ _ h => h) (Or.inl ⟨?hw45, ?hy45⟩) (by assumption) ?rest45
    case hi45 => simp only [List.getElem?_toArray, List.getElem?_cons_succ, List.getElem?_cons_zero]; rfl
    case hw45 => rfl
    case hy45 =>
      intro w hSw
      (try dsimp only at hSw)
      go_simp
      (try with_reducible rfl)
    (try simp only [Act.put, List.setIfInBounds_toArray, List.set_cons_zero, List.set_cons_succ])
    refine wpAnyH_take (i := 16) (oi := ?oi46) (v := undef) ?hi46 (by kernel_rfl) (by kernel_rfl) (by kernel_rfl) (fun _ _ _ h => h) (Or.inr ⟨?hw46, rfl⟩) (by assumption) ?rest46
    case hi46 => simp only [List.getElem?_toArray, List.getElem?_cons_succ, List.getElem?_cons_zero]; rfl
    case hw46 => rfl
    (try simp only [Act.put, List.setIfInBounds_toArray, List.set_cons_zero, List.set_cons_succ])
    refine wpAnyH_take (i := 17) (oi := ?oi47) (v := undef) ?hi47 (by kernel_rfl) (by kernel_rfl) (by kernel_rfl) (fun _ _ _ h => h) (Or.inr ⟨?hw47, rfl⟩) (by assumption) ?rest47
    case hi47 => simp only [List.getElem?_toArray, List.getElem?_cons_succ, List.getElem?_cons_zero]; rfl
    case hw47 => rfl
    (try simp only [Act.put, List.setIfInBounds_toArray, List.set_cons_zero, List.set_cons_succ])
    refine wpAnyH_take (i := 18) (oi := ?oi48) (v := undef) ?hi48 (by kernel_rfl) (by kernel_rfl) (by kernel_rfl) (fun _ _ _ h => h) (Or.inr ⟨?hw48, rfl⟩) (by assumption) ?rest48
    case hi48 => simp only [List.getElem?_toArray, List.getElem?_cons_succ, List.getElem?_cons_zero]; rfl
    case hw48 => rfl
    (try simp only [Act.put, List.setIfInBounds_toArray, List.set_cons_zero, List.set_cons_succ])
    refine wpAnyH_take (i := 19) (oi := ?oi49) (v := undef) ?hi49 (by kernel_rfl) (by kernel_rfl) (by kernel_rfl) (fun _ _ _ h => h) (Or.inr ⟨?hw49, rfl⟩) (by assumption) ?rest49
    case hi49 => simp only [List.getElem?_toArray, List.getElem?_cons_succ, List.getElem?_cons_zero]; rfl
    case hw49 => rfl
    (try simp only [Act.put, List.setIfInBounds_toArray, List.set_cons_zero, List.set_cons_succ])
    refine wpAnyH_take (i := 20) (oi := ?oi50) (v := undef) ?hi50 (by kernel_rfl) (by kernel_rfl) (by kernel_rfl) (fun _ _ _ h => h) (Or.inr ⟨?hw50, rfl⟩) (by assumption) ?rest50
    case hi50 => simp only [List.getElem?_toArray, List.getElem?_cons_succ, List.getElem?_cons_zero]; rfl
    case hw50 => rfl
    (try simp only [Act.put, List.setIfInBounds_toArray, List.set_cons_zero, List.set_cons_succ])
    refine wpAnyH_take (i := 21) (oi := ?oi51) (v := undef) ?hi51 (by kernel_rfl) (by kernel_rfl) (by kernel_rfl) (fun _ _ _ h => h) (Or.inr ⟨?hw51, rfl⟩) (by assumption) ?rest51
    case hi51 => simp only [List.getElem?_toArray, List.getElem?_cons_succ, List.getElem?_cons_zero]; rfl
    case hw51 => rfl
    (try simp only [Act.put, List.setIfInBounds_toArray, List.set_cons_zero, List.set_cons_succ])
    refine wpAnyH_take (i := 22) (oi := ?oi52) (v := undef) ?hi52 (by kernel_rfl) (by kernel_rfl) (by kernel_rfl) (fun _ _ _ h => h) (Or.inr ⟨?hw52, rfl⟩) (by assumption) ?rest52
    case hi52 => simp only [List.getElem?_toArray, List.getElem?_cons_succ, List.getElem?_cons_zero]; rfl
    case hw52 => rfl
    (try simp only [Act.put, List.setIfInBounds_toArray, List.set_cons_zero, List.set_cons_succ])
    refine wpAnyH_take (i := 23) (oi := ?oi53) (v := ?v53) ?hi53 (by kernel_rfl) (by kernel_rfl) (by kernel_rfl) (fun _ _ _ h => h) (Or.inl ⟨?hw53, ?hy53⟩) (by assumption) ?rest53
    case hi53 => simp only [List.getElem?_toArray, List.getElem?_cons_succ, List.getElem?_cons_zero]; rfl
    case hw53 => rfl
    case hy53 =>
      intro w hSw
      (try dsimp only at hSw)
      go_simp
      (try with_reducible rfl)
    (try simp only [Act.put, List.setIfInBounds_toArray, List.set_cons_zero, List.set_cons_succ])
    refine wpAnyH_take (i := 24) (oi := ?oi54) (v := ?v54) ?hi54 (by kernel_rfl) (by kernel_rfl) (by kernel_rfl) (fun _ _ _ h => h) (Or.inl ⟨?hw54, ?hy54⟩) (by assumption) ?rest54
    case hi54 => simp only [List.getElem?_toArray, List.getElem?_cons_succ, List.getElem?_cons_zero]; rfl
    case hw54 => rfl
    case hy54 =>
      intro w hSw
      (try dsimp only at hSw)
      go_simp
      (try with_reducible rfl)
    (try simp only [Act.put, List.setIfInBounds_toArray, List.set_cons_zero, List.set_cons_succ])
    refine wpAnyH_take (i := 25) (oi := ?oi55) (v := ?v55) ?hi55 (by kernel_rfl) (by kernel_rfl) (by kernel_rfl) (fun _ _ _ h => h) (Or.inl ⟨?hw55, ?hy55⟩) (by assumption) ?rest55
    case hi55 => simp only [List.getElem?_toArray, List.getElem?_cons_succ, List.getElem?_cons_zero]; rfl
    case hw55 => rfl
    case hy55 =>
      intro w hSw
      (try dsimp only at hSw)
      go_simp
      (try with_reducible rfl)
    (try simp only [Act.put, List.setIfInBounds_toArray, List.set_cons_zero, List.set_cons_succ])
    refine wpAnyH_ready (rs := [26]) (by kernel_rfl) (by simp) ?_
    refine AllReadyH.cons (o := ?oi56) ?hi56 ?rest56 AllReadyH.nil
    case hi56 => simp only [List.getElem?_toArray, List.getElem?_cons_succ, List.getElem?_cons_zero]; rfl
    intro K hK
    go_simp
    (with_reducible refine (H_known.out _).mono ?_)
    rintro e y ⟨rfl, b9⟩
    have E := Lib.hid (show Below u8.heap.size u8 y by first | exact chain E.out b9 | exact chain ((Below.refl u8.heap.size u8).drew) b9)
    have p0 := keep1 E.out k0
    have p1 := keep1 E.out k1
    have p2 := keep1 E.out k2
    have p3 := keep1 E.out k3
    have p4 := keep1 E.out k4
    have p5 := keep1 E.out k5
    have p6 := keep1 E.out k6
    have p7 := keep1 E.out k7
    clear b9
    (try go_wp2_with fail)
    refine hK.out _ _ ?_ (fun hHeld => ?_)
    · (try dsimp only)
      exact ⟨p0, p1, p2, p3, p4, p5, p6, p7⟩
    clear hK K
    (try simp only [Act.put, List.setIfInBounds_toArray, List.set_cons_zero, List.set_cons_succ])
    refine wpAnyH_take (i := 27) (oi := ?oi57) (v := ?v57) ?hi57 (by kernel_rfl) (by kernel_rfl) (by kernel_rfl) (fun _ _ _ h => h) (Or.inl ⟨?hw57, ?hy57⟩) (by assumption) ?rest57
    case hi57 => simp only [List.getElem?_toArray, List.getElem?_cons_succ, List.getElem?_cons_zero]; rfl
    case hw57 => rfl
    case hy57 =>
      intro w hSw
      (try dsimp only at hSw)
      go_simp
      (try with_reducible rfl)
    (try simp only [Act.put, List.setIfInBounds_toArray, List.set_cons_zero, List.set_cons_succ])
    refine wpAnyH_take (i := 28) (oi := ?oi58) (v := ?v58) ?hi58 (by kernel_rfl) (by kernel_rfl) (by kernel_rfl) (fun _ _ _ h => h) (Or.inl ⟨?hw58, ?hy58⟩) (by assumption) ?rest58
    case hi58 => simp only [List.getElem?_toArray, List.getElem?_cons_succ, List.getElem?_cons_zero]; rfl
    case hw58 => rfl
    case hy58 =>
      intro w hSw
      (try dsimp only at hSw)
      go_simp
      (try with_reducible rfl)
    (try simp only [Act.put, List.setIfInBounds_toArray, List.set_cons_zero, List.set_cons_succ])
    refine wpAnyH_done (by kernel_rfl) ?_ _
    refine NoPanic.normal ?_
    (try dsimp only [Exit.then])
    have D := Lib.hid (chain D.out E.out)
    have HZ := Lib.hid (chain hb0.out D.out)
    go_wp2
    go_ret
    exact ⟨rfl, HZ.out⟩
end Go.Proofs.Ytlmklhffafcmmaa

/- The law WideShifts gives true: far to the left. -/
namespace Go.Proofs.Ytlmklhffafcmmaa
open Go.RowKit

set_option maxRecDepth 100000 in
set_option maxHeartbeats 8000000 in
theorem shifts_upfar1 (a : Bool) (s : ByteArray) (y : Int) (w : World) (z1 : s.size ≤ 60) (hv : vld a s = true) (k : Nat) (hy : y = (k : Int)) (hk2 : k ≤ 65536) (hno : ¬ (0 < lenB s ∧ 65536 < lenB s + k)) (h2 : 2000 < k) (h0 : sgV a s ≠ 0) :
    Calls Try.prog 7 #[.agg #[.bool a, .string s], .int .i64 y] w (Ret (.bool true) w) := by
  have H_known := Lib.hid known_true
  obtain ⟨w0, hw0⟩ : ∃ w0 : World, w0 = (w.alloc (.cells #[.bool a, .string s] 23)).alloc (.cells #[.bool a, .string s] 23) := ⟨_, rfl⟩
  have hb0 : Hid (Below w.heap.size w w0) := by rw [hw0]; exact ((Below.refl _ _).alloc (Nat.le_refl _) _).alloc (by simp) _
  have I1 : Hid (ZC (.bool a) (.string s) w0 w.heap.size) := by rw [hw0]; exact (ZC.new rfl).alloc _
  have Hsz : Hid (w.heap.size + 2 ≤ w0.heap.size) := by rw [hw0]; show _ ≤ _; simp
  have HSH := short_any [(a, s)] 1 (w.heap.size + 1) w0 rfl (by decide) (by rw [hw0]; have := WL.one (w.alloc (.cells #[.bool a, .string s] 23)) a s 23; simpa using this)
  rw [short_true z1] at HSH
  have H_val := Lib.hid (fun g w h => valid_any [(a, s)] 1 g w rfl (by decide) h (by intro x hx; simp at hx; subst hx; show _ ≤ _; simp; omega))
  have v1 : validL [(a, s)] = true := by simp [validL, hv]
  rw [v1] at H_val
  unfold BPost at H_val
  have H_from := Lib.hid (fun w => rfrom_any a s w (by omega))
  have H_bits := Lib.hid (fun v w h => rbits60 hv z1 v w h)
  have hlb := lenB_bd s (by omega)
  have hlb2 := lenB_le (s := s) (by omega)
  unfold IPost at H_bits
  have hft := shl_fits (vld_can hv) k hno
  have H_sh : Hid (∀ w, Calls Try.prog 40 #[.agg #[.bool a, .string s], .int .i64 y] w _) := fun w => by rw [hy]; exact shl_z hv k hk2 hft w
  have H_back := Lib.hid (fun w => back_z hv k (-y) (by omega) (by omega) hk2 hft w)
  have H_sign := Lib.hid (fun v w h => rsignV hv v w h)
  have hz2 : (sg a (bv s) * 2 ^ k).natAbs = bv s * 2 ^ k := by rw [← sg_mul, sg_abs]
  have H_len := Lib.hid (fun w => Len_any (zb (sg a (bv s) * 2 ^ k)) (zs (sg a (bv s) * 2 ^ k)) w (by have := zs_size (z := sg a (bv s) * 2 ^ k) (by rw [hz2]; exact hft); omega))
  rw [lenV_ok (zb_zs_valid (z := sg a (bv s) * 2 ^ k) (by rw [hz2]; exact hft)), lenB_shl hv k hft h0] at H_len
  clear hz2
  have hs0 : ((sgV a s) == 0) = false := by simp [h0]
  have hs1 : ¬ sgV a s = 0 := h0
  unfold SignPost at H_sign
  unfold iV at H_sign
  unfold IPost at H_len
  clear hv v1 hft h0
  unfold IntPost at H_from
  unfold iV at H_from H_bits
  generalize sg a (bv s) = x at *
  generalize decide (x < 0) = bx at *
  generalize lenB s = nb at *
  generalize sgV a s = sv at *
  generalize x * 2 ^ k = z at *
  generalize zb z = cb at *
  generalize zs z = cs at *
  have hy1 : 0 ≤ y := by omega
  have hy2 : y ≤ 65536 := by omega
  have hy3 : 2000 < y := by omega
  rw [← hy] at hno
  obtain ⟨ny, hny⟩ : ∃ ny, nb + y = ny := ⟨_, rfl⟩
  rw [← hy, hny] at H_len
  have Hny := Lib.hid hny
  clear hny
  have hnn : nb = 0 ∨ (0 < nb ∧ nb + y ≤ 65536) := by omega
  clear hy hk2 h2 hno
  rcases hnn with hnn | ⟨hnp, hnn⟩
  · skip
    have HSh := Lib.hid HSH
    have Hw0 := Lib.hid hw0
    clear HSH hw0
    unfold Ret at *
    unfold BPost at HSh
    go_enter Try.func7, Try.ntmps7
    go_wp2_with fail
    rw [← Hw0.out]
    refine HSh.out.mono ?_
    rintro e x0 ⟨rfl, b0⟩
    have D := Lib.hid b0
    clear b0
    obtain ⟨k0, k1, _⟩ := I1.out.next D.out
    go_wp2_with fail
    refine (H_sh.out _).mono ?_
    rintro e y4 ⟨rfl, b9⟩
    obtain ⟨n0, n1, _⟩ := I1.out.next (chain D.out b9)
    have j1 : w.heap.size < y4.heap.size := World.block_lt_of_cell? _ _ n0
    have j3 : ¬ w.heap.size = y4.heap.size := Nat.ne_of_lt j1
    obtain ⟨u4, hu4⟩ : ∃ u : World, u = y4.alloc (.cells #[.bool cb, .string cs] 23) := ⟨_, rfl⟩
    have E : Hid (Below x0.heap.size x0 u4) := by rw [hu4]; exact b9.alloc b9.size _
    have D := Lib.hid (chain D.out E.out)
    have T4 : Hid (ZC (.bool cb) (.string cs) u4 y4.heap.size) := by rw [hu4]; exact ZC.new rfl
    have HW4 : Hid (WL (u4.alloc (.cells #[.bool a, .string s] 23)) (y4.heap.size + 1) [(a, s)]) := by have := WL.one u4 a s 23; rwa [show u4.heap.size = y4.heap.size + 1 by rw [hu4]; simp] at this
    have Hu4 := Lib.hid hu4
    clear hu4 b9 E k0 k1
    obtain ⟨k0, k1, _⟩ := I1.out.next D.out
    obtain ⟨k2, k3, _⟩ := T4.out
    go_wp2_with fail
    rw [← Hu4.out]
    clear Hu4
    refine (H_val.out _ _ HW4.out).mono ?_
    rintro e y5 ⟨rfl, b9⟩
    have E := Lib.hid (chain (below_one u4 _) b9)
    have D := Lib.hid (chain D.out E.out)
    have T4 := Lib.hid (T4.out.next E.out)
    clear b9 E k0 k1 k2 k3 n0 n1 j1 j3
    obtain ⟨k0, k1, _⟩ := I1.out.next D.out
    obtain ⟨k2, k3, _⟩ := T4.out
    go_wp2_with fail
    refine (H_from.out _).mono ?_
    rintro e y6 ⟨vx, rfl, rx, b9⟩
    have RX := Lib.hid rx
    obtain ⟨px, bx', ox, cx, rfl, hrx⟩ := rx
    clear hrx
    generalize (Nm.dg D9 x.natAbs).length = lx at *
    obtain ⟨u6, hu6⟩ : ∃ u : World, u = y6.alloc (.cells #[.bool bx, .slice px lx cx] 31) := ⟨_, rfl⟩
    have E : Hid (Below y5.heap.size y5 u6) := by rw [hu6]; exact b9.alloc b9.size _
    have D := Lib.hid (chain D.out E.out)
    have T4 := Lib.hid (T4.out.next E.out)
    have T6 : Hid (ZC (.bool bx) (.slice px lx cx) u6 y6.heap.size) := by rw [hu6]; exact ZC.new rfl
    have RX : Hid (Rz u6 (.slice px lx cx) x) := by rw [hu6]; exact Ri.allocd RX.out _
    have Hu6 := Lib.hid hu6
    clear hu6 b9 E k0 k1 k2 k3
    obtain ⟨k0, k1, _⟩ := I1.out.next D.out
    obtain ⟨k2, k3, _⟩ := T4.out
    obtain ⟨k4, k5, _⟩ := T6.out
    go_wp2_with fail
    rw [← Hu6.out]
    clear Hu6
    refine (H_bits.out _ _ RX.out).mono ?_
    rintro e y7 ⟨rfl, b9⟩
    have D := Lib.hid (chain D.out b9)
    have T4 := Lib.hid (T4.out.next b9)
    have T6 := Lib.hid (T6.out.next b9)
    have RX := Lib.hid (Ri.below RX.out b9 (Nat.le_refl _))
    clear b9 k0 k1 k2 k3 k4 k5
    obtain ⟨k0, k1, _⟩ := I1.out.next D.out
    obtain ⟨k2, k3, _⟩ := T4.out
    obtain ⟨k4, k5, _⟩ := T6.out
    go_wp2_with fail
    refine (H_back.out _).mono ?_
    rintro e y8 ⟨rfl, b9⟩
    have RX := Lib.hid (Ri.below RX.out b9 (Nat.le_refl _))
    obtain ⟨u8, hu8⟩ : ∃ u : World, u = y8.alloc (.cells #[.bool a, .string s] 23) := ⟨_, rfl⟩
    have E : Hid (Below y7.heap.size y7 u8) := by rw [hu8]; exact b9.alloc b9.size _
    have D := Lib.hid (chain D.out E.out)
    have T4 := Lib.hid (T4.out.next E.out)
    have T6 := Lib.hid (T6.out.next E.out)
    have T8 : Hid (ZC (.bool a) (.string s) u8 y8.heap.size) := by rw [hu8]; exact ZC.new rfl
    have RX : Hid (Rz u8 (.slice px lx cx) x) := by rw [hu8]; exact Ri.allocd RX.out _
    have Hu8 := Lib.hid hu8
    clear hu8 b9 E k0 k1 k2 k3 k4 k5
    obtain ⟨k0, k1, _⟩ := I1.out.next D.out
    obtain ⟨k2, k3, _⟩ := T4.out
    obtain ⟨k4, k5, _⟩ := T6.out
    obtain ⟨k6, k7, _⟩ := T8.out
    go_wp2_with fail
    rw [← Hu8.out]
    clear Hu8
    have hwn : IntKind.i64.wrap (nb + y) = ny := by have := Hny.out; simp only [IntKind.wrap_i64]; omega
    clear hy1 hy2 hy3 hlb hlb2 hnn
    go_region_held3 (fun W' => W'.cell? ⟨w.heap.size, 0, none⟩ = some (.bool a) ∧ W'.cell? ⟨w.heap.size, 1, none⟩ = some (.string s) ∧ W'.cell? ⟨y4.heap.size, 0, none⟩ = some (.bool cb) ∧ W'.cell? ⟨y4.heap.size, 1, none⟩ = some (.string cs) ∧ W'.cell? ⟨y6.heap.size, 0, none⟩ = some (.bool bx) ∧ W'.cell? ⟨y6.heap.size, 1, none⟩ = some (.slice px lx cx) ∧ W'.cell? ⟨y8.heap.size, 0, none⟩ = some (.bool a) ∧ W'.cell? ⟨y8.heap.size, 1, none⟩ = some (.string s)) (go_keep)
      (first
        | (go_at_call 19; (with_reducible refine (H_sign.out _ _ (by first | exact Ri.below RX.out E.out (Nat.le_refl _) | exact Ri.drew RX.out)).mono ?_); rintro e y ⟨rfl, b9⟩; have E := Lib.hid (show Below u8.heap.size u8 y by first | exact chain E.out b9 | exact chain ((Below.refl _ _).drew) b9 | exact b9); have p0 := keep1 E.out k0; have p1 := keep1 E.out k1; have p2 := keep1 E.out k2; have p3 := keep1 E.out k3; have p4 := keep1 E.out k4; have p5 := keep1 E.out k5; have p6 := keep1 E.out k6; have p7 := keep1 E.out k7;  clear b9)
        | (go_at_call 17; (with_reducible refine (H_len.out _).mono ?_); rintro e y ⟨rfl, b9⟩; have E := Lib.hid (show Below u8.heap.size u8 y by first | exact chain E.out b9 | exact chain ((Below.refl _ _).drew) b9 | exact b9); have p0 := keep1 E.out k0; have p1 := keep1 E.out k1; have p2 := keep1 E.out k2; have p3 := keep1 E.out k3; have p4 := keep1 E.out k4; have p5 := keep1 E.out k5; have p6 := keep1 E.out k6; have p7 := keep1 E.out k7;  clear b9)
        | (go_at_call 20; (with_reducible refine (H_bits.out _ _ (by first | exact Ri.below RX.out E.out (Nat.le_refl _) | exact Ri.drew RX.out)).mono ?_); rintro e y ⟨rfl, b9⟩; have E := Lib.hid (show Below u8.heap.size u8 y by first | exact chain E.out b9 | exact chain ((Below.refl _ _).drew) b9 | exact b9); have p0 := keep1 E.out k0; have p1 := keep1 E.out k1; have p2 := keep1 E.out k2; have p3 := keep1 E.out k3; have p4 := keep1 E.out k4; have p5 := keep1 E.out k5; have p6 := keep1 E.out k6; have p7 := keep1 E.out k7;  clear b9)
        | (go_at_call 12; (with_reducible refine (H_known.out _).mono ?_); rintro e y ⟨rfl, b9⟩; have E := Lib.hid (show Below u8.heap.size u8 y by first | exact chain E.out b9 | exact chain ((Below.refl _ _).drew) b9 | exact b9); have p0 := keep1 E.out k0; have p1 := keep1 E.out k1; have p2 := keep1 E.out k2; have p3 := keep1 E.out k3; have p4 := keep1 E.out k4; have p5 := keep1 E.out k5; have p6 := keep1 E.out k6; have p7 := keep1 E.out k7;  clear b9)
        | fail)
    have D := Lib.hid (chain D.out E.out)
    have HZ := Lib.hid (chain hb0.out D.out)
    go_wp2
    go_ret
    exact ⟨rfl, HZ.out⟩
  · skip
    have HSh := Lib.hid HSH
    have Hw0 := Lib.hid hw0
    clear HSH hw0
    unfold Ret at *
    unfold BPost at HSh
    go_enter Try.func7, Try.ntmps7
    go_wp2_with fail
    rw [← Hw0.out]
    refine HSh.out.mono ?_
    rintro e x0 ⟨rfl, b0⟩
    have D := Lib.hid b0
    clear b0
    obtain ⟨k0, k1, _⟩ := I1.out.next D.out
    go_wp2_with fail
    refine (H_sh.out _).mono ?_
    rintro e y4 ⟨rfl, b9⟩
    obtain ⟨n0, n1, _⟩ := I1.out.next (chain D.out b9)
    have j1 : w.heap.size < y4.heap.size := World.block_lt_of_cell? _ _ n0
    have j3 : ¬ w.heap.size = y4.heap.size := Nat.ne_of_lt j1
    obtain ⟨u4, hu4⟩ : ∃ u : World, u = y4.alloc (.cells #[.bool cb, .string cs] 23) := ⟨_, rfl⟩
    have E : Hid (Below x0.heap.size x0 u4) := by rw [hu4]; exact b9.alloc b9.size _
    have D := Lib.hid (chain D.out E.out)
    have T4 : Hid (ZC (.bool cb) (.string cs) u4 y4.heap.size) := by rw [hu4]; exact ZC.new rfl
    have HW4 : Hid (WL (u4.alloc (.cells #[.bool a, .string s] 23)) (y4.heap.size + 1) [(a, s)]) := by have := WL.one u4 a s 23; rwa [show u4.heap.size = y4.heap.size + 1 by rw [hu4]; simp] at this
    have Hu4 := Lib.hid hu4
    clear hu4 b9 E k0 k1
    obtain ⟨k0, k1, _⟩ := I1.out.next D.out
    obtain ⟨k2, k3, _⟩ := T4.out
    go_wp2_with fail
    rw [← Hu4.out]
    clear Hu4
    refine (H_val.out _ _ HW4.out).mono ?_
    rintro e y5 ⟨rfl, b9⟩
    have E := Lib.hid (chain (below_one u4 _) b9)
    have D := Lib.hid (chain D.out E.out)
    have T4 := Lib.hid (T4.out.next E.out)
    clear b9 E k0 k1 k2 k3 n0 n1 j1 j3
    obtain ⟨k0, k1, _⟩ := I1.out.next D.out
    obtain ⟨k2, k3, _⟩ := T4.out
    go_wp2_with fail
    refine (H_from.out _).mono ?_
    rintro e y6 ⟨vx, rfl, rx, b9⟩
    have RX := Lib.hid rx
    obtain ⟨px, bx', ox, cx, rfl, hrx⟩ := rx
    clear hrx
    generalize (Nm.dg D9 x.natAbs).length = lx at *
    obtain ⟨u6, hu6⟩ : ∃ u : World, u = y6.alloc (.cells #[.bool bx, .slice px lx cx] 31) := ⟨_, rfl⟩
    have E : Hid (Below y5.heap.size y5 u6) := by rw [hu6]; exact b9.alloc b9.size _
    have D := Lib.hid (chain D.out E.out)
    have T4 := Lib.hid (T4.out.next E.out)
    have T6 : Hid (ZC (.bool bx) (.slice px lx cx) u6 y6.heap.size) := by rw [hu6]; exact ZC.new rfl
    have RX : Hid (Rz u6 (.slice px lx cx) x) := by rw [hu6]; exact Ri.allocd RX.out _
    have Hu6 := Lib.hid hu6
    clear hu6 b9 E k0 k1 k2 k3
    obtain ⟨k0, k1, _⟩ := I1.out.next D.out
    obtain ⟨k2, k3, _⟩ := T4.out
    obtain ⟨k4, k5, _⟩ := T6.out
    go_wp2_with fail
    rw [← Hu6.out]
    clear Hu6
    refine (H_bits.out _ _ RX.out).mono ?_
    rintro e y7 ⟨rfl, b9⟩
    have D := Lib.hid (chain D.out b9)
    have T4 := Lib.hid (T4.out.next b9)
    have T6 := Lib.hid (T6.out.next b9)
    have RX := Lib.hid (Ri.below RX.out b9 (Nat.le_refl _))
    clear b9 k0 k1 k2 k3 k4 k5
    obtain ⟨k0, k1, _⟩ := I1.out.next D.out
    obtain ⟨k2, k3, _⟩ := T4.out
    obtain ⟨k4, k5, _⟩ := T6.out
    go_wp2_with fail
    refine (H_back.out _).mono ?_
    rintro e y8 ⟨rfl, b9⟩
    have RX := Lib.hid (Ri.below RX.out b9 (Nat.le_refl _))
    obtain ⟨u8, hu8⟩ : ∃ u : World, u = y8.alloc (.cells #[.bool a, .string s] 23) := ⟨_, rfl⟩
    have E : Hid (Below y7.heap.size y7 u8) := by rw [hu8]; exact b9.alloc b9.size _
    have D := Lib.hid (chain D.out E.out)
    have T4 := Lib.hid (T4.out.next E.out)
    have T6 := Lib.hid (T6.out.next E.out)
    have T8 : Hid (ZC (.bool a) (.string s) u8 y8.heap.size) := by rw [hu8]; exact ZC.new rfl
    have RX : Hid (Rz u8 (.slice px lx cx) x) := by rw [hu8]; exact Ri.allocd RX.out _
    have Hu8 := Lib.hid hu8
    clear hu8 b9 E k0 k1 k2 k3 k4 k5
    obtain ⟨k0, k1, _⟩ := I1.out.next D.out
    obtain ⟨k2, k3, _⟩ := T4.out
    obtain ⟨k4, k5, _⟩ := T6.out
    obtain ⟨k6, k7, _⟩ := T8.out
    go_wp2_with fail
    rw [← Hu8.out]
    clear Hu8
    have hwn : IntKind.i64.wrap (nb + y) = ny := by have := Hny.out; simp only [IntKind.wrap_i64]; omega
    clear hy1 hy2 hy3 hlb hlb2 hnn hnp
    go_region_held3 (fun W' => W'.cell? ⟨w.heap.size, 0, none⟩ = some (.bool a) ∧ W'.cell? ⟨w.heap.size, 1, none⟩ = some (.string s) ∧ W'.cell? ⟨y4.heap.size, 0, none⟩ = some (.bool cb) ∧ W'.cell? ⟨y4.heap.size, 1, none⟩ = some (.string cs) ∧ W'.cell? ⟨y6.heap.size, 0, none⟩ = some (.bool bx) ∧ W'.cell? ⟨y6.heap.size, 1, none⟩ = some (.slice px lx cx) ∧ W'.cell? ⟨y8.heap.size, 0, none⟩ = some (.bool a) ∧ W'.cell? ⟨y8.heap.size, 1, none⟩ = some (.string s)) (go_keep)
      (first
        | (go_at_call 19; (with_reducible refine (H_sign.out _ _ (by first | exact Ri.below RX.out E.out (Nat.le_refl _) | exact Ri.drew RX.out)).mono ?_); rintro e y ⟨rfl, b9⟩; have E := Lib.hid (show Below u8.heap.size u8 y by first | exact chain E.out b9 | exact chain ((Below.refl _ _).drew) b9 | exact b9); have p0 := keep1 E.out k0; have p1 := keep1 E.out k1; have p2 := keep1 E.out k2; have p3 := keep1 E.out k3; have p4 := keep1 E.out k4; have p5 := keep1 E.out k5; have p6 := keep1 E.out k6; have p7 := keep1 E.out k7;  clear b9)
        | (go_at_call 17; (with_reducible refine (H_len.out _).mono ?_); rintro e y ⟨rfl, b9⟩; have E := Lib.hid (show Below u8.heap.size u8 y by first | exact chain E.out b9 | exact chain ((Below.refl _ _).drew) b9 | exact b9); have p0 := keep1 E.out k0; have p1 := keep1 E.out k1; have p2 := keep1 E.out k2; have p3 := keep1 E.out k3; have p4 := keep1 E.out k4; have p5 := keep1 E.out k5; have p6 := keep1 E.out k6; have p7 := keep1 E.out k7;  clear b9)
        | (go_at_call 20; (with_reducible refine (H_bits.out _ _ (by first | exact Ri.below RX.out E.out (Nat.le_refl _) | exact Ri.drew RX.out)).mono ?_); rintro e y ⟨rfl, b9⟩; have E := Lib.hid (show Below u8.heap.size u8 y by first | exact chain E.out b9 | exact chain ((Below.refl _ _).drew) b9 | exact b9); have p0 := keep1 E.out k0; have p1 := keep1 E.out k1; have p2 := keep1 E.out k2; have p3 := keep1 E.out k3; have p4 := keep1 E.out k4; have p5 := keep1 E.out k5; have p6 := keep1 E.out k6; have p7 := keep1 E.out k7;  clear b9)
        | (go_at_call 12; (with_reducible refine (H_known.out _).mono ?_); rintro e y ⟨rfl, b9⟩; have E := Lib.hid (show Below u8.heap.size u8 y by first | exact chain E.out b9 | exact chain ((Below.refl _ _).drew) b9 | exact b9); have p0 := keep1 E.out k0; have p1 := keep1 E.out k1; have p2 := keep1 E.out k2; have p3 := keep1 E.out k3; have p4 := keep1 E.out k4; have p5 := keep1 E.out k5; have p6 := keep1 E.out k6; have p7 := keep1 E.out k7;  clear b9)
        | fail)
    have D := Lib.hid (chain D.out E.out)
    have HZ := Lib.hid (chain hb0.out D.out)
    go_wp2
    go_ret
    exact ⟨rfl, HZ.out⟩
end Go.Proofs.Ytlmklhffafcmmaa

/- The law WideShifts gives true: to the left. -/
namespace Go.Proofs.Ytlmklhffafcmmaa
open Go.RowKit

set_option maxRecDepth 100000 in
set_option maxHeartbeats 8000000 in
theorem shifts_upnear (a : Bool) (s : ByteArray) (y : Int) (w : World) (z1 : s.size ≤ 60) (hv : vld a s = true) (k : Nat) (hy : y = (k : Int)) (hk2 : k ≤ 65536) (hno : ¬ (0 < lenB s ∧ 65536 < lenB s + k)) (h2 : k ≤ 2000) :
    Calls Try.prog 7 #[.agg #[.bool a, .string s], .int .i64 y] w (Ret (.bool true) w) := by
  have H_known := Lib.hid known_true
  obtain ⟨w0, hw0⟩ : ∃ w0 : World, w0 = (w.alloc (.cells #[.bool a, .string s] 23)).alloc (.cells #[.bool a, .string s] 23) := ⟨_, rfl⟩
  have hb0 : Hid (Below w.heap.size w w0) := by rw [hw0]; exact ((Below.refl _ _).alloc (Nat.le_refl _) _).alloc (by simp) _
  have I1 : Hid (ZC (.bool a) (.string s) w0 w.heap.size) := by rw [hw0]; exact (ZC.new rfl).alloc _
  have Hsz : Hid (w.heap.size + 2 ≤ w0.heap.size) := by rw [hw0]; show _ ≤ _; simp
  have HSH := short_any [(a, s)] 1 (w.heap.size + 1) w0 rfl (by decide) (by rw [hw0]; have := WL.one (w.alloc (.cells #[.bool a, .string s] 23)) a s 23; simpa using this)
  rw [short_true z1] at HSH
  have H_val := Lib.hid (fun g w h => valid_any [(a, s)] 1 g w rfl (by decide) h (by intro x hx; simp at hx; subst hx; show _ ≤ _; simp; omega))
  have v1 : validL [(a, s)] = true := by simp [validL, hv]
  rw [v1] at H_val
  unfold BPost at H_val
  have H_from := Lib.hid (fun w => rfrom_any a s w (by omega))
  have H_bits := Lib.hid (fun v w h => rbits60 hv z1 v w h)
  have hlb := lenB_bd s (by omega)
  have hlb2 := lenB_le (s := s) (by omega)
  unfold IPost at H_bits
  have hft := shl_fits (vld_can hv) k hno
  have H_sh : Hid (∀ w, Calls Try.prog 40 #[.agg #[.bool a, .string s], .int .i64 y] w _) := fun w => by rw [hy]; exact shl_z hv k hk2 hft w
  have hz2 : (sg a (bv s) * 2 ^ k).natAbs = bv s * 2 ^ k := by rw [← sg_mul, sg_abs]
  have H_pow : Hid (∀ w, Calls Try.prog 41 #[.int .i64 y] w (PPost (2 ^ k) w)) := fun w => by rw [hy]; exact rpower_any k (by omega) w
  have hp0 : (0 : Int) < 2 ^ k := Int.pow_pos (by decide)
  obtain ⟨k9, hk9⟩ : ∃ k9 : Nat, k9 = 130 := ⟨_, rfl⟩
  have hl2 : (Nm.dg D9 ((2 : Int) ^ k).natAbs).length ≤ 1000000 := Nat.le_trans (Nm.len_le_of_val D92 (Nm.nrm_dg D92 _) (by rw [Nm.val_dg D92]; exact p_D9 (k := k9) (by omega))) (by omega)
  have hl3 : (Nm.dg D9 (sg a (bv s) * 2 ^ k).natAbs).length ≤ 1000000 := by
    refine Nat.le_trans (Nm.len_le_of_val D92 (Nm.nrm_dg D92 _) (k := 60 + k9) ?_) (by omega)
    rw [Nm.val_dg D92, Int.natAbs_mul, Nat.pow_add]
    exact Nat.mul_lt_mul'' (x_D9 z1 (Nat.le_refl _) a) (p_D9 (by omega))
  have H_mul := Lib.hid (fun v1 v2 w g1 g2 => rmul_int (sg a (bv s)) (2 ^ k) v1 v2 w g1 g2 (lz60 z1) hl2)
  have H_is := Lib.hid (fun v w h => is_true (sg a (bv s) * 2 ^ k) v w h hl3 (zs_size (by rw [hz2]; exact hft)))
  unfold BPost at H_is
  unfold IntPost at H_mul
  unfold PPost at H_pow
  unfold iV at H_mul H_is
  rw [decide_eq_false (show ¬ (2 : Int) ^ k < 0 by omega)] at H_mul
  clear hv v1 hft hz2 hp0 hl2 hl3 hk9
  unfold IntPost at H_from
  unfold iV at H_from H_bits
  generalize sg a (bv s) = x at *
  generalize decide (x < 0) = bx at *
  generalize lenB s = nb at *
  generalize x * 2 ^ k = z at *
  generalize (2 : Int) ^ k = pj at *
  generalize zb z = cb at *
  generalize zs z = cs at *
  generalize decide (z < 0) = bz at *
  have hy1 : 0 ≤ y := by omega
  have hy2 : y ≤ 65536 := by omega
  have hy3 : y ≤ 2000 := by omega
  rw [← hy] at hno
  have hnn : nb = 0 ∨ (0 < nb ∧ nb + y ≤ 65536) := by omega
  clear hy hk2 h2 hno
  rcases hnn with hnn | ⟨hnp, hnn⟩
  · subst hnn
    have HSh := Lib.hid HSH
    have Hw0 := Lib.hid hw0
    clear HSH hw0
    unfold Ret at *
    unfold BPost at HSh
    go_enter Try.func7, Try.ntmps7
    go_wp2_with fail
    rw [← Hw0.out]
    refine HSh.out.mono ?_
    rintro e x0 ⟨rfl, b0⟩
    have D := Lib.hid b0
    clear b0
    obtain ⟨k0, k1, _⟩ := I1.out.next D.out
    go_wp2_with fail
    refine (H_sh.out _).mono ?_
    rintro e y4 ⟨rfl, b9⟩
    obtain ⟨n0, n1, _⟩ := I1.out.next (chain D.out b9)
    have j1 : w.heap.size < y4.heap.size := World.block_lt_of_cell? _ _ n0
    have j3 : ¬ w.heap.size = y4.heap.size := Nat.ne_of_lt j1
    obtain ⟨u4, hu4⟩ : ∃ u : World, u = y4.alloc (.cells #[.bool cb, .string cs] 23) := ⟨_, rfl⟩
    have E : Hid (Below x0.heap.size x0 u4) := by rw [hu4]; exact b9.alloc b9.size _
    have D := Lib.hid (chain D.out E.out)
    have T4 : Hid (ZC (.bool cb) (.string cs) u4 y4.heap.size) := by rw [hu4]; exact ZC.new rfl
    have HW4 : Hid (WL (u4.alloc (.cells #[.bool a, .string s] 23)) (y4.heap.size + 1) [(a, s)]) := by have := WL.one u4 a s 23; rwa [show u4.heap.size = y4.heap.size + 1 by rw [hu4]; simp] at this
    have Hu4 := Lib.hid hu4
    clear hu4 b9 E k0 k1
    obtain ⟨k0, k1, _⟩ := I1.out.next D.out
    obtain ⟨k2, k3, _⟩ := T4.out
    go_wp2_with fail
    rw [← Hu4.out]
    clear Hu4
    refine (H_val.out _ _ HW4.out).mono ?_
    rintro e y5 ⟨rfl, b9⟩
    have E := Lib.hid (chain (below_one u4 _) b9)
    have D := Lib.hid (chain D.out E.out)
    have T4 := Lib.hid (T4.out.next E.out)
    clear b9 E k0 k1 k2 k3 n0 n1 j1 j3
    obtain ⟨k0, k1, _⟩ := I1.out.next D.out
    obtain ⟨k2, k3, _⟩ := T4.out
    go_wp2_with fail
    refine (H_from.out _).mono ?_
    rintro e y6 ⟨vx, rfl, rx, b9⟩
    have RX := Lib.hid rx
    obtain ⟨px, bx', ox, cx, rfl, hrx⟩ := rx
    clear hrx
    generalize (Nm.dg D9 x.natAbs).length = lx at *
    obtain ⟨u6, hu6⟩ : ∃ u : World, u = y6.alloc (.cells #[.bool bx, .slice px lx cx] 31) := ⟨_, rfl⟩
    have E : Hid (Below y5.heap.size y5 u6) := by rw [hu6]; exact b9.alloc b9.size _
    have D := Lib.hid (chain D.out E.out)
    have T4 := Lib.hid (T4.out.next E.out)
    have T6 : Hid (ZC (.bool bx) (.slice px lx cx) u6 y6.heap.size) := by rw [hu6]; exact ZC.new rfl
    have RX : Hid (Rz u6 (.slice px lx cx) x) := by rw [hu6]; exact Ri.allocd RX.out _
    have Hu6 := Lib.hid hu6
    clear hu6 b9 E k0 k1 k2 k3
    obtain ⟨k0, k1, _⟩ := I1.out.next D.out
    obtain ⟨k2, k3, _⟩ := T4.out
    obtain ⟨k4, k5, _⟩ := T6.out
    go_wp2_with fail
    rw [← Hu6.out]
    clear Hu6
    refine (H_bits.out _ _ RX.out).mono ?_
    rintro e y7 ⟨rfl, b9⟩
    have D := Lib.hid (chain D.out b9)
    have T4 := Lib.hid (T4.out.next b9)
    have T6 := Lib.hid (T6.out.next b9)
    have RX := Lib.hid (Ri.below RX.out b9 (Nat.le_refl _))
    clear b9 k0 k1 k2 k3 k4 k5
    obtain ⟨k0, k1, _⟩ := I1.out.next D.out
    obtain ⟨k2, k3, _⟩ := T4.out
    obtain ⟨k4, k5, _⟩ := T6.out
    go_wp2_with fail
    go_region_held3 (fun W' => W'.cell? ⟨y4.heap.size, 0, none⟩ = some (.bool cb) ∧ W'.cell? ⟨y4.heap.size, 1, none⟩ = some (.string cs) ∧ W'.cell? ⟨y6.heap.size, 0, none⟩ = some (.bool bx) ∧ W'.cell? ⟨y6.heap.size, 1, none⟩ = some (.slice px lx cx)) (go_keep)
      (first
        | (go_at_call 41; (with_reducible refine (H_pow.out _ ).mono ?_); rintro e y ⟨v3, rfl, r3, b9⟩; have E := Lib.hid (show Below y7.heap.size y7 y by first | exact chain E.out b9 | exact chain ((Below.refl _ _).drew) b9); have p0 := keep1 E.out k0; have p1 := keep1 E.out k1; have p2 := keep1 E.out k2; have p3 := keep1 E.out k3; have p4 := keep1 E.out k4; have p5 := keep1 E.out k5; have R3 := Lib.hid r3; obtain ⟨q3, bb3, o3, c3, rfl, rr3⟩ := r3; clear rr3; clear b9)
        | (go_at_call 37; (with_reducible refine (H_mul.out _ _ _ (by first | exact Ri.below RX.out E.out (Nat.le_refl _) | exact Ri.drew RX.out | exact RX.out) (by first | exact Ri.below R3.out E.out (Nat.le_refl _) | exact Ri.drew R3.out | exact R3.out)).mono ?_); rintro e y ⟨v4, rfl, r4, b9⟩; have E := Lib.hid (show Below y7.heap.size y7 y by first | exact chain E.out b9 | exact chain ((Below.refl _ _).drew) b9); have p0 := keep1 E.out k0; have p1 := keep1 E.out k1; have p2 := keep1 E.out k2; have p3 := keep1 E.out k3; have p4 := keep1 E.out k4; have p5 := keep1 E.out k5; have R4 := Lib.hid r4; obtain ⟨q4, bb4, o4, c4, rfl, rr4⟩ := r4; clear rr4; clear b9)
        | (go_at_call 30; (with_reducible refine (H_is.out _ _ R4.out).mono ?_); rintro e y ⟨rfl, b9⟩; have E := Lib.hid (show Below y7.heap.size y7 y by first | exact chain E.out b9 | exact chain ((Below.refl _ _).drew) b9); have p0 := keep1 E.out k0; have p1 := keep1 E.out k1; have p2 := keep1 E.out k2; have p3 := keep1 E.out k3; have p4 := keep1 E.out k4; have p5 := keep1 E.out k5;  clear b9)
        | (go_at_call 12; (with_reducible refine (H_known.out _).mono ?_); rintro e y ⟨rfl, b9⟩; have E := Lib.hid (show Below y7.heap.size y7 y by first | exact chain E.out b9 | exact chain ((Below.refl _ _).drew) b9); have p0 := keep1 E.out k0; have p1 := keep1 E.out k1; have p2 := keep1 E.out k2; have p3 := keep1 E.out k3; have p4 := keep1 E.out k4; have p5 := keep1 E.out k5;  clear b9)
        | fail)
    have D := Lib.hid (chain D.out E.out)
    have HZ := Lib.hid (chain hb0.out D.out)
    go_wp2
    go_ret
    exact ⟨rfl, HZ.out⟩
  · skip
    have HSh := Lib.hid HSH
    have Hw0 := Lib.hid hw0
    clear HSH hw0
    unfold Ret at *
    unfold BPost at HSh
    go_enter Try.func7, Try.ntmps7
    go_wp2_with fail
    rw [← Hw0.out]
    refine HSh.out.mono ?_
    rintro e x0 ⟨rfl, b0⟩
    have D := Lib.hid b0
    clear b0
    obtain ⟨k0, k1, _⟩ := I1.out.next D.out
    go_wp2_with fail
    refine (H_sh.out _).mono ?_
    rintro e y4 ⟨rfl, b9⟩
    obtain ⟨n0, n1, _⟩ := I1.out.next (chain D.out b9)
    have j1 : w.heap.size < y4.heap.size := World.block_lt_of_cell? _ _ n0
    have j3 : ¬ w.heap.size = y4.heap.size := Nat.ne_of_lt j1
    obtain ⟨u4, hu4⟩ : ∃ u : World, u = y4.alloc (.cells #[.bool cb, .string cs] 23) := ⟨_, rfl⟩
    have E : Hid (Below x0.heap.size x0 u4) := by rw [hu4]; exact b9.alloc b9.size _
    have D := Lib.hid (chain D.out E.out)
    have T4 : Hid (ZC (.bool cb) (.string cs) u4 y4.heap.size) := by rw [hu4]; exact ZC.new rfl
    have HW4 : Hid (WL (u4.alloc (.cells #[.bool a, .string s] 23)) (y4.heap.size + 1) [(a, s)]) := by have := WL.one u4 a s 23; rwa [show u4.heap.size = y4.heap.size + 1 by rw [hu4]; simp] at this
    have Hu4 := Lib.hid hu4
    clear hu4 b9 E k0 k1
    obtain ⟨k0, k1, _⟩ := I1.out.next D.out
    obtain ⟨k2, k3, _⟩ := T4.out
    go_wp2_with fail
    rw [← Hu4.out]
    clear Hu4
    refine (H_val.out _ _ HW4.out).mono ?_
    rintro e y5 ⟨rfl, b9⟩
    have E := Lib.hid (chain (below_one u4 _) b9)
    have D := Lib.hid (chain D.out E.out)
    have T4 := Lib.hid (T4.out.next E.out)
    clear b9 E k0 k1 k2 k3 n0 n1 j1 j3
    obtain ⟨k0, k1, _⟩ := I1.out.next D.out
    obtain ⟨k2, k3, _⟩ := T4.out
    go_wp2_with fail
    refine (H_from.out _).mono ?_
    rintro e y6 ⟨vx, rfl, rx, b9⟩
    have RX := Lib.hid rx
    obtain ⟨px, bx', ox, cx, rfl, hrx⟩ := rx
    clear hrx
    generalize (Nm.dg D9 x.natAbs).length = lx at *
    obtain ⟨u6, hu6⟩ : ∃ u : World, u = y6.alloc (.cells #[.bool bx, .slice px lx cx] 31) := ⟨_, rfl⟩
    have E : Hid (Below y5.heap.size y5 u6) := by rw [hu6]; exact b9.alloc b9.size _
    have D := Lib.hid (chain D.out E.out)
    have T4 := Lib.hid (T4.out.next E.out)
    have T6 : Hid (ZC (.bool bx) (.slice px lx cx) u6 y6.heap.size) := by rw [hu6]; exact ZC.new rfl
    have RX : Hid (Rz u6 (.slice px lx cx) x) := by rw [hu6]; exact Ri.allocd RX.out _
    have Hu6 := Lib.hid hu6
    clear hu6 b9 E k0 k1 k2 k3
    obtain ⟨k0, k1, _⟩ := I1.out.next D.out
    obtain ⟨k2, k3, _⟩ := T4.out
    obtain ⟨k4, k5, _⟩ := T6.out
    go_wp2_with fail
    rw [← Hu6.out]
    clear Hu6
    refine (H_bits.out _ _ RX.out).mono ?_
    rintro e y7 ⟨rfl, b9⟩
    have D := Lib.hid (chain D.out b9)
    have T4 := Lib.hid (T4.out.next b9)
    have T6 := Lib.hid (T6.out.next b9)
    have RX := Lib.hid (Ri.below RX.out b9 (Nat.le_refl _))
    clear b9 k0 k1 k2 k3 k4 k5
    obtain ⟨k0, k1, _⟩ := I1.out.next D.out
    obtain ⟨k2, k3, _⟩ := T4.out
    obtain ⟨k4, k5, _⟩ := T6.out
    go_wp2_with fail
    go_region_held3 (fun W' => W'.cell? ⟨y4.heap.size, 0, none⟩ = some (.bool cb) ∧ W'.cell? ⟨y4.heap.size, 1, none⟩ = some (.string cs) ∧ W'.cell? ⟨y6.heap.size, 0, none⟩ = some (.bool bx) ∧ W'.cell? ⟨y6.heap.size, 1, none⟩ = some (.slice px lx cx)) (go_keep)
      (first
        | (go_at_call 41; (with_reducible refine (H_pow.out _ ).mono ?_); rintro e y ⟨v3, rfl, r3, b9⟩; have E := Lib.hid (show Below y7.heap.size y7 y by first | exact chain E.out b9 | exact chain ((Below.refl _ _).drew) b9); have p0 := keep1 E.out k0; have p1 := keep1 E.out k1; have p2 := keep1 E.out k2; have p3 := keep1 E.out k3; have p4 := keep1 E.out k4; have p5 := keep1 E.out k5; have R3 := Lib.hid r3; obtain ⟨q3, bb3, o3, c3, rfl, rr3⟩ := r3; clear rr3; clear b9)
        | (go_at_call 37; (with_reducible refine (H_mul.out _ _ _ (by first | exact Ri.below RX.out E.out (Nat.le_refl _) | exact Ri.drew RX.out | exact RX.out) (by first | exact Ri.below R3.out E.out (Nat.le_refl _) | exact Ri.drew R3.out | exact R3.out)).mono ?_); rintro e y ⟨v4, rfl, r4, b9⟩; have E := Lib.hid (show Below y7.heap.size y7 y by first | exact chain E.out b9 | exact chain ((Below.refl _ _).drew) b9); have p0 := keep1 E.out k0; have p1 := keep1 E.out k1; have p2 := keep1 E.out k2; have p3 := keep1 E.out k3; have p4 := keep1 E.out k4; have p5 := keep1 E.out k5; have R4 := Lib.hid r4; obtain ⟨q4, bb4, o4, c4, rfl, rr4⟩ := r4; clear rr4; clear b9)
        | (go_at_call 30; (with_reducible refine (H_is.out _ _ R4.out).mono ?_); rintro e y ⟨rfl, b9⟩; have E := Lib.hid (show Below y7.heap.size y7 y by first | exact chain E.out b9 | exact chain ((Below.refl _ _).drew) b9); have p0 := keep1 E.out k0; have p1 := keep1 E.out k1; have p2 := keep1 E.out k2; have p3 := keep1 E.out k3; have p4 := keep1 E.out k4; have p5 := keep1 E.out k5;  clear b9)
        | (go_at_call 12; (with_reducible refine (H_known.out _).mono ?_); rintro e y ⟨rfl, b9⟩; have E := Lib.hid (show Below y7.heap.size y7 y by first | exact chain E.out b9 | exact chain ((Below.refl _ _).drew) b9); have p0 := keep1 E.out k0; have p1 := keep1 E.out k1; have p2 := keep1 E.out k2; have p3 := keep1 E.out k3; have p4 := keep1 E.out k4; have p5 := keep1 E.out k5;  clear b9)
        | fail)
    have D := Lib.hid (chain D.out E.out)
    have HZ := Lib.hid (chain hb0.out D.out)
    go_wp2
    go_ret
    exact ⟨rfl, HZ.out⟩
end Go.Proofs.Ytlmklhffafcmmaa

/- WideInts gives true for every int and every wide integer (P1.2), and leaves its arguments as they were. No condition. -/
namespace Go.Proofs.Ytlmklhffafcmmaa
open Go.ChangeShapes Go.WideShapes Go.ChangeAt Go.RowKit Go.Joins
open Go.ChangeMaps (open_string shut_string)

theorem Try.own : ownKnob Try.prog.godebug = none := by kernel_rfl
theorem Try.cellsWide : Try.prog.cellsOf 23 = 2 := by kernel_rfl

set_option maxRecDepth 100000 in
/-- A wide integer that came in. -/
theorem open_wide {H : Type} {enc : TypeId × Value → H} {w : World} {base : Nat} {b0 : Nat} {spare : Nat → Bool} {held : Bool} {r : Reach} {v : Value} {d : DataW H} {p : List MemPlace}
    (hv : Value.okWide Try.prog w r b0 23 v) (h : DataW.Trod enc Try.prog w base spare held 23 v d p) :
    ∃ (a : Bool) (s : ByteArray), v = .agg #[.bool a, .string s] ∧ d = .agg [.lit (.bool a), .lit (.string s.data.toList)] ∧ p = [] ∧ s.size ≤ maxLen := by
  obtain ⟨c0, c1, y0, y1, m, rfl, rfl, rfl, hy0, hy1⟩ := open_agg2 Try.underlying23 (by kernel_rfl) Try.cellsWide hv h
  obtain ⟨a, e0, rfl⟩ := DataW.trod_bool Try.underlying4 hy0
  obtain ⟨s, e1, rfl, hs⟩ := DataW.trod_string Try.underlying9 hy1
  simp at e0 e1
  subst e0 e1
  exact ⟨a, s, rfl, rfl, rfl, hs⟩
theorem shut_wide {H : Type} {enc : TypeId × Value → H} {w : World} {base : Nat} {spare : Nat → Bool} {held : Bool} {a : Bool} {s : ByteArray} (hs : s.size ≤ maxLen) :
    DataW.Trod enc Try.prog w base spare held 23 (.agg #[.bool a, .string s]) (.agg [.lit (.bool a), .lit (.string s.data.toList)]) [] :=
  shut_agg2 (y0 := (.lit (.bool a), [])) (y1 := (.lit (.string s.data.toList), [])) Try.underlying23 (by kernel_rfl) Try.cellsWide ⟨1, by simp [DataW.trod, Try.underlying4]⟩ ⟨1, by simp [DataW.trod, Try.underlying9, hs]⟩

theorem ints_any (n : Int) (a : Bool) (s : ByteArray) (w : World) (h1 : -9223372036854775808 ≤ n) (h2 : n ≤ 9223372036854775807) :
    Calls Try.prog 4 #[.int .i64 n, .agg #[.bool a, .string s]] w (Ret (.bool true) w) := by
  by_cases hs : s.size ≤ 60
  · have hz : s.size ≤ 140737488351232 := by omega
    cases hv : vld a s with
    | false => exact ints_invalid n a s w h1 h2 hz hs hv
    | true =>
      by_cases g1 : sg a (bv s) < -9223372036854775808
      · exact ints_low n a s w h1 h2 hz hs hv g1
      · by_cases g2 : 9223372036854775807 < sg a (bv s)
        · exact ints_high n a s w h1 h2 hz hs hv g2
        · exact ints_in n a s w h1 h2 hz hs hv (by omega) (by omega)
  · exact ints_long n a s w h1 h2 hs

set_option maxRecDepth 100000 in
theorem ints_lifted (os : Os) (started : os.Started) (H : Type) (enc : TypeId × Value → H) :
    ReturnsInHanded {} Try.checked os 4 .any (Rows.wideIntsSpec.pre6 enc Try.prog Try.f4 Rows.wideIntsRow.domain false) (Rows.wideIntsSpec.post enc Try.prog Try.f4 false true false false) := by
  refine returnsInHanded_of_change (C := Try.checked) Try.own started (by kernel_rfl) Try.func4
    (ChangeSpec.witness6 (enc := enc) (C := Try.checked) false ⟨#[], #[.int .i64 0, .agg #[.bool false, .string ⟨#[]⟩]], []⟩ 8 (by kernel_rfl) (by kernel_rfl) (by kernel_rfl) (by kernel_rfl)) ?_
  intro W base args ds gs before hval0 hW hcnd _
  have hval : ∀ (j : Nat) t v, Try.f4.params[j]? = some t → args[j]? = some v → Value.okWide Try.prog W .any base t v := hval0
  have hW' := hW
  obtain ⟨p, q, hA0, hV, rfl, hfz, hnd⟩ := hW
  have hA : DataW.TrodAll enc Try.prog W 0 (fun _ => true) true Try.f4.params.toList args.toList ds p := hA0
  rw [Try.params4] at hA hval
  obtain ⟨v0, v1, d0, d1, p0, p1, rfl, rfl, rfl, h0, h1⟩ := trodAll_two hA
  obtain ⟨rfl, rfl⟩ := trodVars_none hV
  obtain ⟨n, rfl, rfl, rfl, wn⟩ := open_int Try.underlying3 (hval 0 3 v0 rfl rfl) h0
  obtain ⟨a, s, rfl, rfl, rfl, hs⟩ := open_wide (hval 1 23 v1 rfl rfl) h1
  clear hA0 hval0
  have bn := bounds_i64 wn
  refine (ints_any n a s W (by omega) (by omega)).mono fun e W' ⟨he, bel⟩ => ?_
  subst he
  exact ⟨_, rfl, _, _, _, [], _, [], hW', trodAll_mk1 (shut_bool Try.underlying4 _), trodAll_mk2 (shut_int Try.underlying3 wn) (shut_wide hs), rfl, bel.frame _, fun h => by cases h⟩

/-- The statement. -/
theorem ints_holds : Rows.WideIntsSaid :=
  OpenClaim.holds_of_wide 4 Try.f4 rfl rfl rfl rfl rfl rfl rfl ⟨rfl, rfl, rfl, rfl, rfl⟩ rfl rfl rfl rfl rfl (by kernel_rfl) Try.func4 (by kernel_rfl)
    (of_decide_eq_true (by kernel_rfl)) (by unfold Func.isWrapper; first | (rw [if_pos (by decide +kernel)]; kernel_rfl) | (rw [if_neg (by decide +kernel)]; exact ⟨rfl, rfl⟩))
    (fun os started H enc _ => ints_lifted os started H enc)
#print axioms ints_holds
end Go.Proofs.Ytlmklhffafcmmaa

/- WideShifts gives true for every wide integer and every int (P1.5), and leaves its arguments as they were. No condition. -/
namespace Go.Proofs.Ytlmklhffafcmmaa
open Go.ChangeShapes Go.WideShapes Go.ChangeAt Go.RowKit Go.Joins
open Go.ChangeMaps (open_string shut_string)

theorem ediv_far {x : Int} {j k : Nat} (hx : x.natAbs < 2 ^ j) (hjk : j ≤ k) : x / 2 ^ j = x / 2 ^ k := by
  have e : ∀ n : Nat, (2 : Int) ^ n = ((2 ^ n : Nat) : Int) := fun n => by simp
  have h2 : 2 ^ j ≤ 2 ^ k := Nat.pow_le_pow_right (by decide) hjk
  have hp : 0 < 2 ^ j := Nat.pow_pos (by decide)
  rw [e, e]
  generalize (2 ^ j : Nat) = p at *
  generalize (2 ^ k : Nat) = q at *
  rcases Int.lt_or_le x 0 with h | h
  · rw [Int.ediv_eq_neg_one_of_neg_of_le h (by omega), Int.ediv_eq_neg_one_of_neg_of_le h (by omega)]
  · rw [Int.ediv_eq_zero_of_lt h (by omega), Int.ediv_eq_zero_of_lt h (by omega)]

theorem shifts_any (a : Bool) (s : ByteArray) (y : Int) (w : World) :
    Calls Try.prog 7 #[.agg #[.bool a, .string s], .int .i64 y] w (Ret (.bool true) w) := by
  by_cases hs : s.size ≤ 60
  · cases hv : vld a s with
    | false => exact shifts_invalid a s y w hs hv
    | true =>
      by_cases hr : y < -65536 ∨ 65536 < y
      · exact shifts_range a s y w hs hv hr
      · by_cases hn : y < 0
        · obtain ⟨k, hk⟩ : ∃ k : Nat, -y = (k : Int) := ⟨(-y).toNat, by omega⟩
          by_cases h2 : k ≤ 2000
          · exact shifts_down a s y w hs hv k k hk (by omega) (by omega) h2 rfl rfl
          · obtain ⟨j, hj⟩ : ∃ j : Nat, j = 2000 := ⟨_, rfl⟩
            refine shifts_far a s y w hs hv k j hk (by omega) (by omega) (by omega) (ediv_far ?_ (by omega)) (by omega) hj
            rw [sg_abs]
            obtain ⟨k6, hk6⟩ : ∃ k6 : Nat, k6 = 60 := ⟨_, rfl⟩
            have h5 := bv60 hk6 hs
            rw [pow_256] at h5
            exact Nat.lt_of_lt_of_le h5 (Nat.pow_le_pow_right (by decide) (by omega))
        · obtain ⟨k, hk⟩ : ∃ k : Nat, y = (k : Int) := ⟨y.toNat, by omega⟩
          by_cases hf : 0 < lenB s ∧ 65536 < lenB s + k
          · exact shifts_upfull a s y w hs hv k hk (by omega) hf.1 hf.2
          · by_cases h2 : k ≤ 2000
            · exact shifts_upnear a s y w hs hv k hk (by omega) hf h2
            · by_cases h0 : sgV a s = 0
              · exact shifts_upfar0 a s y w hs hv k hk (by omega) hf (by omega) h0
              · exact shifts_upfar1 a s y w hs hv k hk (by omega) hf (by omega) h0
  · exact shifts_long a s y w hs

set_option maxRecDepth 100000 in
theorem shifts_lifted (os : Os) (started : os.Started) (H : Type) (enc : TypeId × Value → H) :
    ReturnsInHanded {} Try.checked os 7 .any (Rows.wideShiftsSpec.pre6 enc Try.prog Try.f7 Rows.wideShiftsRow.domain false) (Rows.wideShiftsSpec.post enc Try.prog Try.f7 false true false false) := by
  refine returnsInHanded_of_change (C := Try.checked) Try.own started (by kernel_rfl) Try.func7
    (ChangeSpec.witness6 (enc := enc) (C := Try.checked) false ⟨#[], #[.agg #[.bool false, .string ⟨#[]⟩], .int .i64 0], []⟩ 8 (by kernel_rfl) (by kernel_rfl) (by kernel_rfl) (by kernel_rfl)) ?_
  intro W base args ds gs before hval0 hW hcnd _
  have hval : ∀ (j : Nat) t v, Try.f7.params[j]? = some t → args[j]? = some v → Value.okWide Try.prog W .any base t v := hval0
  have hW' := hW
  obtain ⟨p, q, hA0, hV, rfl, hfz, hnd⟩ := hW
  have hA : DataW.TrodAll enc Try.prog W 0 (fun _ => true) true Try.f7.params.toList args.toList ds p := hA0
  rw [Try.params7] at hA hval
  obtain ⟨v0, v1, d0, d1, p0, p1, rfl, rfl, rfl, h0, h1⟩ := trodAll_two hA
  obtain ⟨rfl, rfl⟩ := trodVars_none hV
  obtain ⟨a, s, rfl, rfl, rfl, hs⟩ := open_wide (hval 0 23 v0 rfl rfl) h0
  obtain ⟨n, rfl, rfl, rfl, wn⟩ := open_int Try.underlying3 (hval 1 3 v1 rfl rfl) h1
  clear hA0 hval0
  refine (shifts_any a s n W).mono fun e W' ⟨he, bel⟩ => ?_
  subst he
  exact ⟨_, rfl, _, _, _, [], _, [], hW', trodAll_mk1 (shut_bool Try.underlying4 _), trodAll_mk2 (shut_wide hs) (shut_int Try.underlying3 wn), rfl, bel.frame _, fun h => by cases h⟩

/-- The statement. -/
theorem shifts_holds : Rows.WideShiftsSaid :=
  OpenClaim.holds_of_wide 7 Try.f7 rfl rfl rfl rfl rfl rfl rfl ⟨rfl, rfl, rfl, rfl, rfl⟩ rfl rfl rfl rfl rfl (by kernel_rfl) Try.func7 (by kernel_rfl)
    (of_decide_eq_true (by kernel_rfl)) (by unfold Func.isWrapper; first | (rw [if_pos (by decide +kernel)]; kernel_rfl) | (rw [if_neg (by decide +kernel)]; exact ⟨rfl, rfl⟩))
    (fun os started H enc _ => shifts_lifted os started H enc)
#print axioms shifts_holds
end Go.Proofs.Ytlmklhffafcmmaa
