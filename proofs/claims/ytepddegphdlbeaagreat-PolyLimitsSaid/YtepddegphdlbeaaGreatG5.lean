/- What the theorem leans on, part G5. -/
import Derived.Test.YtepddegphdlbeaaGreatG4
import Derived.Test.YtepddegphdlbeaaGreatG2
import Derived.Test.YtepddegphdlbeaaGreatG1
import Derived.Test.YtepddegphdlbeaaGreatG0
import Derived.Test.YtepddegphdlbeaaGreatProg
import Derived.WalkKit
import Derived.WalkSpells
import Derived.WalkLawsBesides
import Derived.Lib.Hide
import Derived.Deep.QuietTactic
import Derived.BigQuiet
import Derived.Shelf.Small.Bits
import Derived.Shelf.Small.Wraps
import Derived.Shelf.Strconv.Itoa0
import Derived.Shelf.Bits.Mul64
import Derived.Ground.Names2Prog
import Derived.Shelf.Slices.SearchI
import Derived.Shelf.Spec.BitsCarry
import Derived.Deep.LoopGhost
import Derived.Deep.RegionHeld3
import Derived.Laws.AppendOwnNone
import Derived.Test.YtepddegphdlbeaaGreatG3
set_option maxRecDepth 100000
set_option maxHeartbeats 16000000
set_option linter.all false
namespace Go.Proofs.YtepddegphdlbeaaGreat
open Go.RowKit
theorem k'6h {B : Nat} {a w : World} (h : Below B a w) (n : Nat) : Below B a (w.drewN n) := ⟨h.os, h.tape, h.output, h.size, h.block⟩
theorem k'6i {x y : Int} (hx : 0 ≤ x ∧ x < 1000000000) (hy : 0 ≤ y ∧ y < 1000000000) : 0 ≤ x * y ∧ x * y ≤ 999999998000000001 := by
 refine ⟨Int.mul_nonneg hx.1 hy.1, ?_⟩
 have h1 : x * y ≤ x * 999999999 := Int.mul_le_mul_of_nonneg_left (by omega) hx.1
 omega
theorem k'6j {d c x y r q : Nat} {dd cc xx yy : Int} (hr : (d + c + x * y) % D9 = r) (hq : (d + c + x * y) / D9 = q) (hd : (d : Int) = dd) (hc : cc = (c : Int)) (hx : (x : Int) = xx) (hy : (y : Int) = yy) :
 (dd + cc + xx * yy) % 1000000000 = (r : Int) ∧ (dd + cc + xx * yy) / 1000000000 = (q : Int) := by
 have e : (dd + cc + xx * yy) = ((d + c + x * y : Nat) : Int) := by subst hd hc hx hy; simp
 rw [e]
 unfold D9 at hr hq
 generalize d + c + x * y = s at *
 omega
theorem k'6k {d c x r q : Nat} {dd cc : Int} (hr : (d + c + x * 0) % D9 = r) (hq : (d + c + x * 0) / D9 = q) (hd : (d : Int) = dd) (hc : cc = (c : Int)) :
 (dd + cc) % 1000000000 = (r : Int) ∧ (dd + cc) / 1000000000 = (q : Int) := by
 rw [Nat.mul_zero, Nat.add_zero] at hr hq
 unfold D9 at hr hq
 omega
theorem k'6l (v1 v2 : Value) (X Y : List Nat) (w : World) (h1 : Ri w v1 X) (h2 : Ri w v2 Y) (l1 : X.length ≤ 1000000) (l2 : Y.length ≤ 1000000) (dx : Nm.Dig D9 X) (dy : Nm.Dig D9 Y) :
 Calls Tryz.prog 124 #[v1, v2] w (GivesI (Nm.val D9 X * Nm.val D9 Y) w) := by
 obtain ⟨p1, b1, o1, c1, rfl, _, _, hp1, _, g1⟩ := h1
 obtain ⟨p2, b2, o2, c2, rfl, _, _, hp2, _, g2⟩ := h2
 have hmk := k'6c X.length Y.length (by omega) (by omega)
 have Hp1 := i' hp1
 have Hp2 := i' hp2
 have G1 := i' g1
 have G2 := i' g2
 have NN := i' (And.intro dx dy)
 have HT := i' (fun v xs w h => k'5z v xs w h)
 clear hp1 hp2 g1 g2 dx dy
 go_enter Tryz.func124, Tryz.ntmps124
 go_wp2
 clear hmk
 go_loopw [6] (fun iv' wr => ∃ (i : Nat) (l : List Nat), i ≤ X.length ∧ iv' = .int .i64 (i : Nat) ∧ Hid (OInv X Y i l) ∧ Hid (Ari wr w.heap.size l) ∧ Hid (Below w.heap.size w wr))
  (fun iv' _ => X.length - (intOf iv').toNat)
 case atStart =>
  exact ⟨0, _, Nat.zero_le _, rfl, OInv.start X Y, Ari.made w _, (Below.refl _ _).alloc (Nat.le_refl _) _⟩
 case round =>
  rename_i wo _
  obtain ⟨i, l, hi, rfl, hinv, harr, hbl⟩ := hrel
  by_cases hx : i < X.length
  ·obtain rfl := Hp1.out (by intro e; rw [e] at hx; exact absurd hx (Nat.not_lt_zero _))
   have hrow : Hid (TInv X Y i (X.getD i 0) 0 0 l) := hinv.out.row _
   have hx0 : Hid (X.getD i 0 = X[i]) := by show _ = _; simp [hx]
   have hX : (0 : Int) ≤ (X[i] : Int) ∧ (X[i] : Int) < 1000000000 := by have h5 : X[i] < 1000000000 := Nm.dig_get NN.out.1 i hx; omega
   obtain ⟨x, hxx⟩ : ∃ x : Int, (X[i] : Int) = x := ⟨_, rfl⟩
   have g1 := G1.out i hx
   rw [hxx] at hX g1
   have HXX := i' (And.intro hxx (And.intro hX g1))
   have Hxi := i' hx
   clear hxx hX g1 hinv
   go_wp2
   go_loopw [7, 8] (fun cv kv wr => ∃ (k c : Nat) (cc : Int) (l : List Nat), k ≤ 1000001 ∧ kv = .int .i64 (k : Nat) ∧ cv = .int .i64 cc ∧ 0 ≤ cc ∧ cc < 1000000000 ∧ Hid (cc = (c : Int)) ∧ Hid (TInv X Y i (X.getD i 0) k c l) ∧ Hid (Ari wr w.heap.size l) ∧ Hid (Below w.heap.size w wr))
    (fun _ kv _ => Y.length + 1 - (intOf kv).toNat)
   case atStart =>
    exact ⟨0, 0, 0, l, by omega, rfl, rfl, by omega, by omega, rfl, hrow, harr, hbl⟩
   case round =>
    rename_i wr _
    clear hrow harr hbl
    obtain ⟨k, c, cc, l, hk, rfl, rfl, hc0, hc1, hcc, hinv, harr, hbl⟩ := hrel
    by_cases hy : k < Y.length
    ·have _ := hy
     obtain ⟨hlt, hst⟩ := hinv.out.step Hxi.out (by rw [hx0.out]; exact Nm.dig_get NN.out.1 i Hxi.out) NN.out.2 (Or.inl hy)
     have hkY : k ≤ Y.length := by have h5 := hst.2.2.2.2.2.2.1; omega
     have hlen : l.length = X.length + Y.length := hinv.out.1
     have hd0 : l.getD (i + k) 0 = l[i + k] := by simp [hlt]
     have hD : (0 : Int) ≤ (l[i + k] : Int) ∧ (l[i + k] : Int) < 1000000000 := by have h5 : l[i + k] < 1000000000 := Nm.dig_get hinv.out.2.1 (i + k) hlt; omega
     have e3 := harr.out.cell (i + k) hlt
     have e4 := harr.out.free (i + k)
     obtain rfl := Hp2.out (by intro e; rw [e] at hy; exact absurd hy (Nat.not_lt_zero _))
     have e1 := k'd hbl.out HXX.out.2.2
     have e2 := k'd hbl.out (G2.out k hy)
     have hY : (0 : Int) ≤ (Y[k] : Int) ∧ (Y[k] : Int) < 1000000000 := by have h5 : Y[k] < 1000000000 := Nm.dig_get NN.out.2 k hy; omega
     have hy0 : Y.getD k 0 = Y[k] := by simp [hy]
     rw [hd0, hy0] at hst
     obtain ⟨r, hr⟩ : ∃ r, (l[i + k] + c + X.getD i 0 * Y[k]) % D9 = r := ⟨_, rfl⟩
     obtain ⟨q, hq⟩ : ∃ q, (l[i + k] + c + X.getD i 0 * Y[k]) / D9 = q := ⟨_, rfl⟩
     rw [hr, hq] at hst
     obtain ⟨d, hdd⟩ : ∃ d : Int, (l[i + k] : Int) = d := ⟨_, rfl⟩
     obtain ⟨y, hyy⟩ : ∃ y : Int, (Y[k] : Int) = y := ⟨_, rfl⟩
     rw [hyy] at hY e2
     obtain ⟨hmod, hdiv⟩ := k'6j hr hq hdd hcc.out (show ((X.getD i 0 : Nat) : Int) = x by rw [hx0.out]; exact HXX.out.1) hyy
     obtain ⟨hp1, hp2⟩ := k'6i HXX.out.2.1 hY
     obtain ⟨hY1, hY2⟩ := hY
     rw [hdd] at hD e3
     obtain ⟨hD1, hD2⟩ := hD
     have hA := fun nq => (harr.out.drewN nq).set (i + k) r
     obtain ⟨rr, hrr⟩ : ∃ rr : Int, (r : Int) = rr := ⟨_, rfl⟩
     obtain ⟨qq, hqq⟩ : ∃ qq : Int, (q : Int) = qq := ⟨_, rfl⟩
     rw [hrr] at hmod
     simp only [hrr] at hA
     rw [hqq] at hdiv
     have hq1 : 0 ≤ qq ∧ qq < 1000000000 := by have h5 : q < 1000000000 := hst.2.2.1; omega
     obtain ⟨hq1, hq2⟩ := hq1
     have HS := i' hst
     have HA := i' hA
     have HQ := i' hqq
     have HB := i' (fun nq => (k'6h hbl.out nq).setCell (p := ⟨w.heap.size, i + k, none⟩) (Nat.le_refl _) (.int .i64 rr))
     have hilt : i + k < X.length + Y.length := by omega
     clear hst hr hq hd0 hy0 hinv hrr hqq hdd hA harr hyy
     go_wp2_with fail
     go_quiet (fail)
     go_wp2
     go_roundw
     case rel => exact ⟨k + 1, q, qq, l.set (i + k) r, by omega, by go_num, by rw [hdiv], hq1, hq2, HQ.out.symm, HS.out, HA.out _, HB.out _⟩
     case measure => simp [intOf]; omega
    ·rcases Nat.eq_zero_or_pos c with hcp | hcp
     ·have hcz : cc = 0 := by rw [hcc.out, hcp]; rfl
      subst hcz
      subst hcp
      have HE : Hid (OInv X Y (i + 1) l) := hinv.out.row Hxi.out (by omega)
      clear hinv
      go_wp2
      go_roundw
      case rel => exact ⟨i + 1, l, Hxi.out, by go_num, HE, harr, hbl⟩
      case measure => have h5 := Hxi.out; simp [intOf]; omega
     ·have _ := hcp
      obtain ⟨hlt, hst⟩ := hinv.out.step Hxi.out (by rw [hx0.out]; exact Nm.dig_get NN.out.1 i Hxi.out) NN.out.2 (Or.inr hcp)
      have hkY : k ≤ Y.length := by have h5 := hst.2.2.2.2.2.2.1; omega
      have hlen : l.length = X.length + Y.length := hinv.out.1
      have hd0 : l.getD (i + k) 0 = l[i + k] := by simp [hlt]
      have hD : (0 : Int) ≤ (l[i + k] : Int) ∧ (l[i + k] : Int) < 1000000000 := by have h5 : l[i + k] < 1000000000 := Nm.dig_get hinv.out.2.1 (i + k) hlt; omega
      have e3 := harr.out.cell (i + k) hlt
      have e4 := harr.out.free (i + k)
      have hy0 : Y.getD k 0 = 0 := by simp at hy; simp [hy]
      rw [hd0, hy0] at hst
      obtain ⟨r, hr⟩ : ∃ r, (l[i + k] + c + X.getD i 0 * 0) % D9 = r := ⟨_, rfl⟩
      obtain ⟨q, hq⟩ : ∃ q, (l[i + k] + c + X.getD i 0 * 0) / D9 = q := ⟨_, rfl⟩
      rw [hr, hq] at hst
      obtain ⟨d, hdd⟩ : ∃ d : Int, (l[i + k] : Int) = d := ⟨_, rfl⟩
      obtain ⟨hmod, hdiv⟩ := k'6k hr hq hdd hcc.out
      rw [hdd] at hD e3
      obtain ⟨hD1, hD2⟩ := hD
      have hA := fun nq => (harr.out.drewN nq).set (i + k) r
      obtain ⟨rr, hrr⟩ : ∃ rr : Int, (r : Int) = rr := ⟨_, rfl⟩
      obtain ⟨qq, hqq⟩ : ∃ qq : Int, (q : Int) = qq := ⟨_, rfl⟩
      rw [hrr] at hmod
      simp only [hrr] at hA
      rw [hqq] at hdiv
      have hq1 : 0 ≤ qq ∧ qq < 1000000000 := by have h5 : q < 1000000000 := hst.2.2.1; omega
      obtain ⟨hq1, hq2⟩ := hq1
      have hcp1 : 0 < cc := by rw [hcc.out]; omega
      have HS := i' hst
      have HA := i' hA
      have HQ := i' hqq
      have HB := i' (fun nq => (k'6h hbl.out nq).setCell (p := ⟨w.heap.size, i + k, none⟩) (Nat.le_refl _) (.int .i64 rr))
      have hilt : i + k < X.length + Y.length := by omega
      clear hst hr hq hd0 hy0 hinv hrr hqq hdd hA harr
      go_wp2
      go_roundw
      case rel => exact ⟨k + 1, q, qq, l.set (i + k) r, by omega, by go_num, by rw [hdiv], hq1, hq2, HQ.out.symm, HS.out, HA.out 0, HB.out 0⟩
      case measure => simp [intOf]; omega
  ·obtain rfl : i = X.length := by omega
   have HE : Hid (Nm.trimL l = Nm.dg D9 (Nm.val D9 X * Nm.val D9 Y)) := hinv.out.finish
   have HO := i' (Ri.of_ari harr.out (X.length + Y.length) hinv.out.1 (by unfold maxLen; omega))
   clear hinv
   go_wp2_with (go_at_call 95; (with_reducible refine (HT.out _ _ _ HO.out).mono ?_); rintro e w5 ⟨v5, rfl, h5, rfl⟩)
   go_ret
   exact ⟨_, rfl, by rw [← HE.out]; exact h5, hbl.out⟩
theorem link {w0 W W' : World} (h : Below w0.heap.size w0 W) (k : Below W.heap.size W W') : Below w0.heap.size w0 W' := h.trans (k.mono h.size)
theorem k'6n (w : World) (o : Obj) : Below w.heap.size w (w.alloc o) := (Below.refl _ _).alloc (Nat.le_refl _) _
theorem Ri.one (w : World) (d : Nat) : Ri (w.alloc (.cells #[.int .i64 (d : Int)] 3)) (.slice (some ⟨w.heap.size, 0, none⟩) 1 1) [d] :=
 Ri.of_ari (g := w.heap.size) (l := [d]) (heap_alloc_new w _) 1 rfl (by decide)
theorem k'6o (v : Value) (m d : Nat) (w : World) (hd : d < D9) (h : Ri w v (Nm.dg D9 m)) (l : (Nm.dg D9 m).length ≤ 1000000) :
 Calls Tryz.prog 94 #[v, .int .i64 (d : Int)] w (GivesI (m * d) w) := by
 rcases Nat.eq_zero_or_pos d with h0 | h0
 ·subst h0
  have hb : (((0 : Nat) : Int) == 0) = true := by decide
  go_enter Tryz.func94, Tryz.ntmps94
  go_wp2
  go_ret
  exact ⟨_, rfl, by rw [Nat.mul_zero, Nm.dg_zero]; exact Ri.nil w, Below.refl _ _⟩
 ·have hb : ((d : Int) == 0) = false := by simp; omega
  have HM := i' (k'6l v (.slice (some ⟨w.heap.size, 0, none⟩) 1 1) (Nm.dg D9 m) [d] (w.alloc (.cells #[.int .i64 (d : Int)] 3)) (h.below (k'6n w _) (Nat.le_refl _)) (Ri.one w d) l (by simp) (Nm.dig_dg D92 m) (Nm.dig_cons.2 ⟨hd, Nm.dig_nil _⟩))
  rw [Nm.val_dg D92, show Nm.val D9 [d] = d by simp [Nm.val]] at HM
  clear h hd
  go_enter Tryz.func94, Tryz.ntmps94
  go_wp2_with (go_at_call 124; (with_reducible refine HM.out.mono ?_); rintro e w5 ⟨v5, rfl, h5, b5⟩)
  go_ret
  exact ⟨_, rfl, h5, link (k'6n w _) b5⟩
def MadeI (b : Bool) (m : Nat) (w : World) (e : Ending) (w' : World) : Prop := ∃ v, e = .returned (.agg #[.bool b, v]) ∧ Ri w' v (Nm.dg D9 m) ∧ Below w.heap.size w w'
theorem k'6p {m : Nat} : (0 < ((Nm.dg D9 m).length : Int)) ↔ m ≠ 0 := by
 constructor
 ·intro h e; subst e; rw [Nm.dg_zero] at h; simp at h
 ·intro h
  have h1 := Nm.val_dg D92 m
  cases hd : Nm.dg D9 m with
  | nil => rw [hd] at h1; exact absurd h1.symm h
  | cons x l => simp
theorem k'6q (b : Bool) (v : Value) (m : Nat) (w : World) (h : Ri w v (Nm.dg D9 m)) :
 Calls Tryz.prog 96 #[.bool b, v] w (MadeI (b && m != 0) m w) := by
 have HR := i' h
 obtain ⟨p, b1, o1, c1, rfl, hr⟩ := h
 clear hr
 have E := i' (k'6p (m := m))
 cases b with
 | false =>
  go_enter Tryz.func96, Tryz.ntmps96
  go_wp2
  exact bodyPost_ret (v := .agg #[.bool false, .slice p (Nm.dg D9 m).length c1]) (by simp [results, Tryz.results96, go_sem]) rfl ⟨_, rfl, HR.out.below (k'6n w _) (Nat.le_refl _), k'6n w _⟩
 | true =>
  have E2 : Hid (decide (0 < (Nm.dg D9 m).length) = (true && m != 0)) := by
   have h1 := E.out
   show _ = _
   by_cases h0 : m = 0
   ·subst h0; rfl
   ·have h2 := h1.2 h0
    rw [decide_eq_true (by omega)]; simp [h0]
  rw [← E2.out]
  clear E
  generalize (Nm.dg D9 m).length = n at *
  by_cases hb : 0 < (n : Int)
  ·go_enter Tryz.func96, Tryz.ntmps96
   go_wp2
   exact bodyPost_ret (v := .agg #[.bool (decide (0 < n)), .slice p n c1]) (by simp [results, Tryz.results96, go_sem]; try omega) rfl ⟨_, rfl, HR.out.below (k'6n w _) (Nat.le_refl _), k'6n w _⟩
  ·go_enter Tryz.func96, Tryz.ntmps96
   go_wp2
   exact bodyPost_ret (v := .agg #[.bool (decide (0 < n)), .slice p n c1]) (by simp [results, Tryz.results96, go_sem]; try omega) rfl ⟨_, rfl, HR.out.below (k'6n w _) (Nat.le_refl _), k'6n w _⟩
def OvInv (X : List Nat) (n k Q R : Nat) (l : List Nat) : Prop :=
 R < n ∧ Nm.val D9 (X.drop k) = n * Q + R ∧ l.length = X.length ∧ Nm.Dig D9 l ∧ Nm.val D9 (l.drop k) = Q ∧ ∀ j, j < k → l.getD j 0 = 0
theorem OvInv.start (X : List Nat) {n : Nat} (h : 0 < n) : OvInv X n X.length 0 0 (List.replicate X.length 0) :=
 ⟨h, by simp [Nm.val], by simp, fun x hx => by rw [List.eq_of_mem_replicate hx]; exact D90, by simp [Nm.val], fun j _ => by simp [List.getElem?_replicate]; split <;> rfl⟩
theorem ov_lt {x R n : Nat} (hx : x < D9) (h : R < n) : x + D9 * R < D9 * n := by
 have h1 : D9 * (R + 1) ≤ D9 * n := Nat.mul_le_mul_left _ h
 rw [Nat.mul_add] at h1
 omega
theorem k'6r {x B n Q R q r : Nat} (hd : n * q + r = x + B * R) : x + B * (n * Q + R) = n * (q + B * Q) + r := by
 rw [Nat.mul_add, Nat.mul_add, Nat.mul_left_comm n B Q]
 generalize B * (n * Q) = s
 omega
theorem OvInv.step {X l : List Nat} {n j Q R : Nat} (h : OvInv X n (j + 1) Q R l) (hj : j < X.length) (dx : Nm.Dig D9 X) :
 OvInv X n j ((X[j] + D9 * R) / n + D9 * Q) ((X[j] + D9 * R) % n) (l.set j ((X[j] + D9 * R) / n)) := by
 obtain ⟨h1, h2, h3, h4, h5, h6⟩ := h
 have hn : 0 < n := by omega
 have hd := Nat.div_add_mod (X[j] + D9 * R) n
 have hlt := ov_lt (Nm.dig_get dx j hj) h1
 have hq : (X[j] + D9 * R) / n < D9 := by rw [Nat.div_lt_iff_lt_mul hn]; exact hlt
 have hjl : j < l.length := by omega
 refine ⟨Nat.mod_lt _ hn, ?_, by simpa using h3, k'6e h4 _ _ hq, ?_, fun i hi => by rw [k'6f (by omega)]; exact h6 i (by omega)⟩
 ·rw [List.drop_eq_getElem_cons hj, Nm.val_cons, h2]
  exact k'6r hd
 ·have e : (l.set j ((X[j] + D9 * R) / n)).drop j = ((X[j] + D9 * R) / n) :: l.drop (j + 1) := by
   rw [List.drop_eq_getElem_cons (by simpa using hjl)]
   simp [List.drop_set]
  rw [e, Nm.val_cons, h5]
theorem OvInv.step0 {X l : List Nat} {n j Q R : Nat} (h : OvInv X n (j + 1) Q R l) (hj : j < X.length) (dx : Nm.Dig D9 X) (hlt : X[j] + D9 * R < n) :
 OvInv X n j (D9 * Q) (X[j] + D9 * R) l := by
 have h0 := h.step hj dx
 have hjl : j < l.length := by have h3 := h.2.2.1; omega
 have hl := h.2.2.2.2.2 j (by omega)
 simp [hjl] at hl
 rw [Nat.div_eq_of_lt hlt, Nat.mod_eq_of_lt hlt, Nat.zero_add, ← hl, List.set_getElem_self] at h0
 exact h0
theorem OvInv.finish {X l : List Nat} {n Q R : Nat} (h : OvInv X n 0 Q R l) : Nm.trimL l = Nm.dg D9 (Nm.val D9 X / n) ∧ R = Nm.val D9 X % n := by
 obtain ⟨h1, h2, h3, h4, h5, h6⟩ := h
 rw [List.drop_zero] at h2 h5
 have hn : 0 < n := by omega
 rw [Nm.trimL_dg D92 h4, h5, h2, Nat.mul_add_div hn, Nat.mul_add_mod, Nat.div_eq_of_lt h1, Nat.mod_eq_of_lt h1, Nat.add_zero]
 exact ⟨rfl, rfl⟩
def RiAt (B : Nat) (w : World) (v : Value) (xs : List Nat) : Prop :=
 ∃ (p : Option Addr) (b off cap : Nat), v = .slice p xs.length cap ∧ xs.length ≤ cap ∧ cap ≤ maxLen ∧ (xs ≠ [] → p = some ⟨b, off, none⟩) ∧ ((p = none ∧ cap = 0) ∨ (p = some ⟨b, off, none⟩ ∧ IntB w b ∧ B ≤ b)) ∧
  ∀ k (h : k < xs.length), w.cell? ⟨b, off + k, none⟩ = some (.int .i64 (xs[k] : Int))
theorem RiAt.ri {B : Nat} {w : World} {v : Value} {xs : List Nat} (h : RiAt B w v xs) : Ri w v xs := by
 obtain ⟨p, b, off, cap, h1, h2, h3, h4, h5, h6⟩ := h
 exact ⟨p, b, off, cap, h1, h2, h3, h4, h5.imp id (fun g => ⟨g.1, g.2.1⟩), h6⟩
theorem RiAt.of_own {w : World} {B : Nat} {v : Value} {l : List Nat} (h : w.ownsRow B 3 1 v l.length (iv l)) : RiAt B w v l := by
 rcases h.2 with ⟨rfl, h0⟩ | ⟨g, cap, cur, rfl, hB, hg, hn, hm, hs, ht⟩
 ·rw [List.eq_nil_of_length_eq_zero h0]
  exact ⟨none, 0, 0, 0, rfl, by simp, by simp, fun h => absurd rfl h, Or.inl ⟨rfl, rfl⟩, fun k h => absurd h (by simp)⟩
 ·refine ⟨some ⟨g, 0, none⟩, g, 0, cap, rfl, hn, hm, fun _ => rfl, Or.inr ⟨rfl, ⟨lt_of_block hg, cur, _, hg⟩, hB⟩, fun k hk => ?_⟩
  have := h.cells (g := g) rfl k (.int .i64 (l[k] : Int)) (k'5x l k hk)
  have hadd : ((⟨g, 0, none⟩ : Addr).add k) = ⟨g, 0 + k, none⟩ := by unfold Addr.add; split <;> simp_all
  rwa [hadd] at this
theorem RiAt.below {B C : Nat} {w w' : World} {v : Value} {xs : List Nat} (h : RiAt B w v xs) (hb : Below C w w') (hC : w.heap.size ≤ C) : RiAt B w' v xs := by
 obtain ⟨p, b, off, cap, h1, h2, h3, h4, h5, h6⟩ := h
 refine ⟨p, b, off, cap, h1, h2, h3, h4, h5.imp id (fun g => ⟨g.1, g.2.1.below hb hC, g.2.2⟩), fun k hk => ?_⟩
 have hl : b < w.heap.size := World.block_lt_of_cell? w _ (h6 k hk)
 rw [hb.cell (p := ⟨b, off + k, none⟩) (Nat.lt_of_lt_of_le hl hC)]
 exact h6 k hk
theorem RiAt.set {B g o : Nat} {w : World} {v u : Value} {xs : List Nat} (h : RiAt B w v xs) (hg : g < B) : RiAt B (w.setCell ⟨g, o, none⟩ u) v xs := by
 obtain ⟨p, b, off, cap, h1, h2, h3, h4, h5, h6⟩ := h
 refine ⟨p, b, off, cap, h1, h2, h3, h4, h5.imp id (fun q => ⟨q.1, q.2.1.set _ _, q.2.2⟩), fun k hk => ?_⟩
 have hne : p = some ⟨b, off, none⟩ := h4 (by intro e; rw [e] at hk; exact absurd hk (Nat.not_lt_zero _))
 have hb : B ≤ b := by
  rcases h5 with q | q
  ·rw [q.1] at hne; exact absurd hne (by simp)
  ·exact q.2.2
 have hs : (w.setCell ⟨g, o, none⟩ u).heap[b]? = w.heap[b]? := Below.heap_setCell _ _ _ _ (by show b ≠ g; omega)
 rw [World.cell?_of_block (a := ⟨b, off + k, none⟩) hs]
 exact h6 k hk
def TrimAt (B : Nat) (xs : List Nat) (w : World) (e : Ending) (w' : World) : Prop := ∃ v, e = .returned v ∧ RiAt B w v (Nm.trimL xs) ∧ w = w'
def OverPost (m n : Nat) (w : World) (e : Ending) (w' : World) : Prop := ∃ q r, e = .returned (.tuple #[q, r]) ∧ Ri w' q (Nm.dg D9 (m / n)) ∧ Ri w' r (Nm.dg D9 (m % n)) ∧ Below w.heap.size w w'
theorem k'6y {a b : Nat} (h : b ≤ a) : ¬ cmpN a b < 0 := by unfold cmpN; split <;> (try split) <;> omega
theorem k'6z {a b : Nat} (h : a < b) : cmpN a b < 0 := by rw [k'28 h]; omega
theorem below_drew' {B : Nat} {a w : World} (h : Below B a w) (n : Nat) : Below B a (w.drewN n) := ⟨h.os, h.tape, h.output, h.size, h.block⟩
theorem Ari.has {w : World} {g : Nat} {l : List Nat} (h : Ari w g l) (k : Nat) (hk : k < l.length) : ∃ v, w.cell? ⟨g, k, none⟩ = some v := ⟨_, h.cell k hk⟩
theorem Ri.set {w : World} {p : Addr} {u old v : Value} {xs : List Nat} (h : Ri w v xs) (hp : w.cell? p = some old) (hno : ∀ n, old ≠ .int .i64 n) : Ri (w.setCell p u) v xs := by
 obtain ⟨q, b, off, cap, h1, h2, h3, h4, h5, h6⟩ := h
 refine ⟨q, b, off, cap, h1, h2, h3, h4, h5.imp id (fun g => ⟨g.1, g.2.set _ _⟩), fun k hk => ?_⟩
 rw [World.cell?_setCell_other]
 ·exact h6 k hk
 ·intro e
  rw [e, h6 k hk] at hp
  exact hno _ (Option.some.inj hp).symm
theorem Ri.set2 {w : World} {b : Nat} {u1 u2 old1 v : Value} {c : Bool} {xs : List Nat} (h : Ri w v xs) (h1 : w.cell? ⟨b, 0, none⟩ = some (.bool c)) (h2 : w.cell? ⟨b, 1, none⟩ = some old1) (hno : ∀ n, old1 ≠ .int .i64 n) :
 Ri ((w.setCell ⟨b, 0, none⟩ u1).setCell ⟨b, 1, none⟩ u2) v xs :=
 (h.set h1 (fun _ => by simp)).set (old := old1) ((World.cell?_setCell_other w ⟨b, 0, none⟩ ⟨b, 1, none⟩ u1 (by simp)).trans h2) hno
def sgnI (b : Bool) (m : Nat) : Int := if m = 0 then 0 else if b = true then -1 else 1
def SignPost (c : Int) (w : World) (e : Ending) (w' : World) : Prop := e = .returned (.int .i64 c) ∧ Below w.heap.size w w'
theorem k'72 (b : Bool) (v : Value) (m : Nat) (w : World) (h : Ri w v (Nm.dg D9 m)) :
 Calls Tryz.prog 50 #[.agg #[.bool b, v]] w (SignPost (sgnI b m) w) := by
 obtain ⟨p, b1, o1, c1, rfl, hr⟩ := h
 clear hr
 have E := i' (k'6p (m := m))
 have HB := fun o => i' (k'6n w o)
 by_cases h0 : m = 0
 ·have hz : sgnI b m = 0 := by simp [sgnI, h0]
  have hl : (((Nm.dg D9 m).length : Int) == 0) = true := by rw [h0, Nm.dg_zero]; rfl
  rw [hz]
  clear hz h0
  go_enter Tryz.func50, Tryz.ntmps50
  go_wp2
  go_ret
  exact ⟨rfl, (HB _).out⟩
 ·have hl : (((Nm.dg D9 m).length : Int) == 0) = false := by have h5 := E.out.2 h0; simp; intro e; rw [e] at h5; simp at h5
  cases b with
  | false =>
   have hz : sgnI false m = 1 := by simp [sgnI, h0]
   rw [hz]
   clear hz h0
   go_enter Tryz.func50, Tryz.ntmps50
   go_wp2
   go_ret
   exact ⟨rfl, (HB _).out⟩
  | true =>
   have hz : sgnI true m = -1 := by simp [sgnI, h0]
   rw [hz]
   clear hz h0
   go_enter Tryz.func50, Tryz.ntmps50
   go_wp2
   go_ret
   exact ⟨rfl, (HB _).out⟩
theorem k'73 (b : Bool) (v : Value) (m : Nat) (w : World) (h : Ri w v (Nm.dg D9 m)) :
 Calls Tryz.prog 136 #[.agg #[.bool b, v]] w (MadeI (!b && m != 0) m w) := by
 have HR := i' h
 obtain ⟨p, b1, o1, c1, rfl, hr⟩ := h
 clear hr
 obtain ⟨vv, hvv⟩ : ∃ vv, vv = Value.slice p (Nm.dg D9 m).length c1 := ⟨_, rfl⟩
 obtain ⟨w0, hw0⟩ : ∃ w0 : World, w0 = (w.alloc (.cells #[.bool b, .slice p (Nm.dg D9 m).length c1] 52)).alloc (.cells #[.bool false, .slice none 0 0] 52) := ⟨_, rfl⟩
 have hb0 : Hid (Below w.heap.size w w0) := by rw [hw0]; exact ((Below.refl _ _).alloc (Nat.le_refl _) _).alloc (by simp) _
 have k4 : w0.cell? ⟨w.heap.size + 1, 0, none⟩ = some (.bool false) := by rw [hw0]; simp [go_sem]
 have k5 : w0.cell? ⟨w.heap.size + 1, 1, none⟩ = some (.slice none 0 0) := by rw [hw0]; simp [go_sem]
 have k6 : w0.frozen? ⟨w.heap.size + 1, 0, none⟩ = false := by rw [hw0]; simp [go_sem]
 have k7 : w0.frozen? ⟨w.heap.size + 1, 1, none⟩ = false := by rw [hw0]; simp [go_sem]
 have HM := i' (k'6q (!b) _ m w0 (HR.out.below hb0.out (Nat.le_refl _)))
 have KK := i' (And.intro k4 (And.intro k5 (And.intro k6 k7)))
 have Hw0 := i' hw0
 clear k4 k5 k6 k7 hw0 hvv
 go_enter Tryz.func136, Tryz.ntmps136
 go_wp2_with fail
 rw [← Hw0.out]
 refine HM.out.mono ?_
 rintro e wa ⟨v2, rfl, h5, b5⟩
 have H5 := i' h5
 obtain ⟨p2, b2, o2, c2, rfl, hr⟩ := h5
 clear hr
 have q4 := keep1 b5 KK.out.1
 have q5 := keep1 b5 KK.out.2.1
 have q6 := keepf b5 KK.out.1 KK.out.2.2.1
 have q7 := keepf b5 KK.out.2.1 KK.out.2.2.2
 have HZ := i' (link hb0.out b5)
 clear b5
 go_wp2
 exact bodyPost_ret (v := .agg #[.bool (!b && m != 0), .slice p2 (Nm.dg D9 m).length c2]) (by simp [results, Tryz.results136, go_sem, q4, q5]) rfl ⟨_, rfl, H5.out.set2 q4 q5 (fun _ => by simp), (HZ.out.setCell (p := ⟨w.heap.size + 1, 0, none⟩) (by simp) _).setCell (p := ⟨w.heap.size + 1, 1, none⟩) (by simp) _⟩
theorem k'75 (a : Bool) (v1 v2 : Value) (m n : Nat) (w : World) (h1 : Ri w v1 (Nm.dg D9 m)) (h2 : Ri w v2 (Nm.dg D9 n)) (l1 : (Nm.dg D9 m).length ≤ 1000000) (l2 : (Nm.dg D9 n).length ≤ 1000000) :
 Calls Tryz.prog 82 #[.agg #[.bool a, v1], .agg #[.bool a, v2]] w (MadeI (a && (m + n) != 0) ((m + n)) w) := by
 have H1 := i' h1
 have H2 := i' h2
 obtain ⟨pa, ba, oa, ca, rfl, hr1⟩ := h1
 obtain ⟨pb, bb, ob, cb, rfl, hr2⟩ := h2
 clear hr1 hr2
 have HT0 := i' (fun v1 v2 w' h1 h2 => k'64 v1 v2 m n w' h1 h2 l1 l2)
 clear l1 l2
 generalize (Nm.dg D9 m).length = ma at *
 generalize (Nm.dg D9 n).length = na at *
 obtain ⟨w0, hw0⟩ : ∃ w0 : World, w0 = ((w.alloc (.cells #[.bool a, .slice pa ma ca] 52)).alloc (.cells #[.bool a, .slice pb na cb] 52)).alloc (.cells #[.bool false, .slice none 0 0] 52) := ⟨_, rfl⟩
 have hb0 : Hid (Below w.heap.size w w0) := by rw [hw0]; exact (((Below.refl _ _).alloc (Nat.le_refl _) _).alloc (by simp) _).alloc (by simp; omega) _
 have k0 : w0.cell? ⟨w.heap.size, 0, none⟩ = some (.bool a) := by rw [hw0]; simp [go_sem]
 have k1 : w0.cell? ⟨w.heap.size, 1, none⟩ = some (.slice pa ma ca) := by rw [hw0]; simp [go_sem]
 have k2 : w0.cell? ⟨w.heap.size + 1, 0, none⟩ = some (.bool a) := by rw [hw0]; simp [go_sem]
 have k3 : w0.cell? ⟨w.heap.size + 1, 1, none⟩ = some (.slice pb na cb) := by rw [hw0]; simp [go_sem]
 have k4 : w0.cell? ⟨w.heap.size + 1 + 1, 0, none⟩ = some (.bool false) := by rw [hw0]; simp [go_sem]
 have k5 : w0.cell? ⟨w.heap.size + 1 + 1, 1, none⟩ = some (.slice none 0 0) := by rw [hw0]; simp [go_sem]
 have k6 : w0.frozen? ⟨w.heap.size + 1 + 1, 0, none⟩ = false := by rw [hw0]; simp [go_sem]
 have k7 : w0.frozen? ⟨w.heap.size + 1 + 1, 1, none⟩ = false := by rw [hw0]; simp [go_sem]
 have HTm := i' (fun w' (hb : Below w0.heap.size w0 w') => HT0.out _ _ w' (H1.out.below (chain hb0.out hb) (Nat.le_refl _)) (H2.out.below (chain hb0.out hb) (Nat.le_refl _)))
 have HMd := i' (fun v w h => k'6q a v ((m + n)) w h)
 have Hw0 := i' hw0
 have n1 : ¬ (w.heap.size = w.heap.size + 1 + 1) := by omega
 have n2 : ¬ (w.heap.size + 1 + 1 = w.heap.size) := by omega
 clear hw0
 go_enter Tryz.func82, Tryz.ntmps82
 go_wp2_with fail
 rw [← Hw0.out]
 go_region_held3 (fun W' => W'.cell? ⟨w.heap.size, 0, none⟩ = some (.bool a) ∧ W'.cell? ⟨w.heap.size, 1, none⟩ = some (.slice pa ma ca) ∧ W'.cell? ⟨w.heap.size + 1, 0, none⟩ = some (.bool a) ∧ W'.cell? ⟨w.heap.size + 1, 1, none⟩ = some (.slice pb na cb)) (go_keep)
  (first
   | (go_at_call 93; (with_reducible refine (HTm.out _ ((Below.refl _ _).drew)).mono ?_); rintro e w1 ⟨vt, rfl, r1, b1⟩; have c1 := chain ((Below.refl _ _).drew) b1; have p0 := keep1 c1 k0; have p1 := keep1 c1 k1; have p2 := keep1 c1 k2; have p3 := keep1 c1 k3; have G1 := i' (And.intro r1 c1); clear r1 b1 c1)
   | (go_at_call 96; (with_reducible refine (HMd.out _ _ G1.out.1).mono ?_); rintro e w2 ⟨vm, rfl, r2, b2⟩; have c2 := chain G1.out.2 b2; have p0 := keep1 c2 k0; have p1 := keep1 c2 k1; have p2 := keep1 c2 k2; have p3 := keep1 c2 k3; have p4 := keep1 c2 k4; have p5 := keep1 c2 k5; have p6 := keepf c2 k4 k6; have p7 := keepf c2 k5 k7; have G2 := i' (And.intro r2 c2); obtain ⟨pm, bm, om, cm, rfl, hrm⟩ := r2; clear hrm b2 c2))
 have HZ := i' (chain hb0.out G2.out.2)
 go_wp2
 exact bodyPost_ret (v := .agg #[.bool (a && (m + n) != 0), .slice pm (Nm.dg D9 ((m + n))).length cm]) (by simp [results, Tryz.results82, go_sem, p4, p5]) rfl ⟨_, rfl, G2.out.1.set2 p4 p5 (fun _ => by simp), (HZ.out.setCell (p := ⟨w.heap.size + 1 + 1, 0, none⟩) (by simp; omega) _).setCell (p := ⟨w.heap.size + 1 + 1, 1, none⟩) (by simp; omega) _⟩
theorem k'76 (a b : Bool) (v1 v2 : Value) (m n : Nat) (w : World) (hab : (a == b) = false) (hmn : n ≤ m) (h1 : Ri w v1 (Nm.dg D9 m)) (h2 : Ri w v2 (Nm.dg D9 n)) (l1 : (Nm.dg D9 m).length ≤ 1000000) (l2 : (Nm.dg D9 n).length ≤ 1000000) :
 Calls Tryz.prog 82 #[.agg #[.bool a, v1], .agg #[.bool b, v2]] w (MadeI (a && (m - n) != 0) ((m - n)) w) := by
 have H1 := i' h1
 have H2 := i' h2
 obtain ⟨pa, ba, oa, ca, rfl, hr1⟩ := h1
 obtain ⟨pb, bb, ob, cb, rfl, hr2⟩ := h2
 clear hr1 hr2
 have HO0 := i' (fun v1 v2 w' h1 h2 => k'66 v1 v2 m n w' h1 h2 l1 l2)
 have HT0 := i' (fun v1 v2 w' h1 h2 => k'69 v1 v2 m n w' hmn h1 h2 l1 l2)
 clear l1 l2
 generalize (Nm.dg D9 m).length = ma at *
 generalize (Nm.dg D9 n).length = na at *
 obtain ⟨w0, hw0⟩ : ∃ w0 : World, w0 = ((w.alloc (.cells #[.bool a, .slice pa ma ca] 52)).alloc (.cells #[.bool b, .slice pb na cb] 52)).alloc (.cells #[.bool false, .slice none 0 0] 52) := ⟨_, rfl⟩
 have hb0 : Hid (Below w.heap.size w w0) := by rw [hw0]; exact (((Below.refl _ _).alloc (Nat.le_refl _) _).alloc (by simp) _).alloc (by simp; omega) _
 have k0 : w0.cell? ⟨w.heap.size, 0, none⟩ = some (.bool a) := by rw [hw0]; simp [go_sem]
 have k1 : w0.cell? ⟨w.heap.size, 1, none⟩ = some (.slice pa ma ca) := by rw [hw0]; simp [go_sem]
 have k2 : w0.cell? ⟨w.heap.size + 1, 0, none⟩ = some (.bool b) := by rw [hw0]; simp [go_sem]
 have k3 : w0.cell? ⟨w.heap.size + 1, 1, none⟩ = some (.slice pb na cb) := by rw [hw0]; simp [go_sem]
 have k4 : w0.cell? ⟨w.heap.size + 1 + 1, 0, none⟩ = some (.bool false) := by rw [hw0]; simp [go_sem]
 have k5 : w0.cell? ⟨w.heap.size + 1 + 1, 1, none⟩ = some (.slice none 0 0) := by rw [hw0]; simp [go_sem]
 have k6 : w0.frozen? ⟨w.heap.size + 1 + 1, 0, none⟩ = false := by rw [hw0]; simp [go_sem]
 have k7 : w0.frozen? ⟨w.heap.size + 1 + 1, 1, none⟩ = false := by rw [hw0]; simp [go_sem]
 have HTm := i' (fun w' (hb : Below w.heap.size w w') => HT0.out _ _ w' (H1.out.below hb (Nat.le_refl _)) (H2.out.below hb (Nat.le_refl _)))
 have HMd := i' (fun v w h => k'6q a v ((m - n)) w h)
 have Hw0 := i' hw0
 have n1 : ¬ (w.heap.size = w.heap.size + 1 + 1) := by omega
 have n2 : ¬ (w.heap.size + 1 + 1 = w.heap.size) := by omega
 clear hw0
 go_enter Tryz.func82, Tryz.ntmps82
 go_wp2_with fail
 rw [← Hw0.out]
 have HO1 := HO0.out _ _ w0 (H1.out.below hb0.out (Nat.le_refl _)) (H2.out.below hb0.out (Nat.le_refl _))
 obtain ⟨cc, hcc⟩ : ∃ cc, cmpN m n = cc := ⟨_, rfl⟩
 rw [hcc] at HO1
 have hc : 0 ≤ cc := by rw [← hcc]; exact by have h5 := k'6y hmn; omega
 clear hcc
 refine HO1.mono ?_
 clear HO1
 rintro e wx ⟨rfl, nq, rfl⟩
 have hb1 := i' (below_drew' hb0.out nq)
 have k0 : (w0.drewN nq).cell? _ = _ := k0
 have k1 : (w0.drewN nq).cell? _ = _ := k1
 have k2 : (w0.drewN nq).cell? _ = _ := k2
 have k3 : (w0.drewN nq).cell? _ = _ := k3
 have k4 : (w0.drewN nq).cell? _ = _ := k4
 have k5 : (w0.drewN nq).cell? _ = _ := k5
 have k6 : (w0.drewN nq).frozen? _ = _ := k6
 have k7 : (w0.drewN nq).frozen? _ = _ := k7
 clear Hw0 hb0
 have hb0 := hb1
 clear hb1
 generalize w0.drewN nq = wy at *
 go_wp2_with fail
 go_region_held3 (fun W' => W'.cell? ⟨w.heap.size, 0, none⟩ = some (.bool a) ∧ W'.cell? ⟨w.heap.size, 1, none⟩ = some (.slice pa ma ca) ∧ W'.cell? ⟨w.heap.size + 1, 0, none⟩ = some (.bool b) ∧ W'.cell? ⟨w.heap.size + 1, 1, none⟩ = some (.slice pb na cb)) (go_keep)
  (first
   | (go_at_call 123; (with_reducible refine (HTm.out _ (chain hb0.out ((Below.refl _ _).drew))).mono ?_); rintro e w1 ⟨vt, rfl, r1, b1⟩; have c1 := chain ((Below.refl _ _).drew) b1; have p0 := keep1 c1 k0; have p1 := keep1 c1 k1; have p2 := keep1 c1 k2; have p3 := keep1 c1 k3; have G1 := i' (And.intro r1 c1); clear r1 b1 c1)
   | (go_at_call 96; (with_reducible refine (HMd.out _ _ G1.out.1).mono ?_); rintro e w2 ⟨vm, rfl, r2, b2⟩; have c2 := chain G1.out.2 b2; have p0 := keep1 c2 k0; have p1 := keep1 c2 k1; have p2 := keep1 c2 k2; have p3 := keep1 c2 k3; have p4 := keep1 c2 k4; have p5 := keep1 c2 k5; have p6 := keepf c2 k4 k6; have p7 := keepf c2 k5 k7; have G2 := i' (And.intro r2 c2); obtain ⟨pm, bm, om, cm, rfl, hrm⟩ := r2; clear hrm b2 c2))
 have HZ := i' (chain hb0.out G2.out.2)
 go_wp2
 exact bodyPost_ret (v := .agg #[.bool (a && (m - n) != 0), .slice pm (Nm.dg D9 ((m - n))).length cm]) (by simp [results, Tryz.results82, go_sem, p4, p5]) rfl ⟨_, rfl, G2.out.1.set2 p4 p5 (fun _ => by simp), (HZ.out.setCell (p := ⟨w.heap.size + 1 + 1, 0, none⟩) (by simp; omega) _).setCell (p := ⟨w.heap.size + 1 + 1, 1, none⟩) (by simp; omega) _⟩
theorem k'77 (a b : Bool) (v1 v2 : Value) (m n : Nat) (w : World) (hab : (a == b) = false) (hmn : m < n) (h1 : Ri w v1 (Nm.dg D9 m)) (h2 : Ri w v2 (Nm.dg D9 n)) (l1 : (Nm.dg D9 m).length ≤ 1000000) (l2 : (Nm.dg D9 n).length ≤ 1000000) :
 Calls Tryz.prog 82 #[.agg #[.bool a, v1], .agg #[.bool b, v2]] w (MadeI (b && (n - m) != 0) ((n - m)) w) := by
 have H1 := i' h1
 have H2 := i' h2
 obtain ⟨pa, ba, oa, ca, rfl, hr1⟩ := h1
 obtain ⟨pb, bb, ob, cb, rfl, hr2⟩ := h2
 clear hr1 hr2
 have HO0 := i' (fun v1 v2 w' h1 h2 => k'66 v1 v2 m n w' h1 h2 l1 l2)
 have HT0 := i' (fun v1 v2 w' h1 h2 => k'69 v1 v2 n m w' (Nat.le_of_lt hmn) h1 h2 l2 l1)
 clear l1 l2
 generalize (Nm.dg D9 m).length = ma at *
 generalize (Nm.dg D9 n).length = na at *
 obtain ⟨w0, hw0⟩ : ∃ w0 : World, w0 = ((w.alloc (.cells #[.bool a, .slice pa ma ca] 52)).alloc (.cells #[.bool b, .slice pb na cb] 52)).alloc (.cells #[.bool false, .slice none 0 0] 52) := ⟨_, rfl⟩
 have hb0 : Hid (Below w.heap.size w w0) := by rw [hw0]; exact (((Below.refl _ _).alloc (Nat.le_refl _) _).alloc (by simp) _).alloc (by simp; omega) _
 have k0 : w0.cell? ⟨w.heap.size, 0, none⟩ = some (.bool a) := by rw [hw0]; simp [go_sem]
 have k1 : w0.cell? ⟨w.heap.size, 1, none⟩ = some (.slice pa ma ca) := by rw [hw0]; simp [go_sem]
 have k2 : w0.cell? ⟨w.heap.size + 1, 0, none⟩ = some (.bool b) := by rw [hw0]; simp [go_sem]
 have k3 : w0.cell? ⟨w.heap.size + 1, 1, none⟩ = some (.slice pb na cb) := by rw [hw0]; simp [go_sem]
 have k4 : w0.cell? ⟨w.heap.size + 1 + 1, 0, none⟩ = some (.bool false) := by rw [hw0]; simp [go_sem]
 have k5 : w0.cell? ⟨w.heap.size + 1 + 1, 1, none⟩ = some (.slice none 0 0) := by rw [hw0]; simp [go_sem]
 have k6 : w0.frozen? ⟨w.heap.size + 1 + 1, 0, none⟩ = false := by rw [hw0]; simp [go_sem]
 have k7 : w0.frozen? ⟨w.heap.size + 1 + 1, 1, none⟩ = false := by rw [hw0]; simp [go_sem]
 have HTm := i' (fun w' (hb : Below w.heap.size w w') => HT0.out _ _ w' (H2.out.below hb (Nat.le_refl _)) (H1.out.below hb (Nat.le_refl _)))
 have HMd := i' (fun v w h => k'6q b v ((n - m)) w h)
 have Hw0 := i' hw0
 have n1 : ¬ (w.heap.size = w.heap.size + 1 + 1) := by omega
 have n2 : ¬ (w.heap.size + 1 + 1 = w.heap.size) := by omega
 clear hw0
 go_enter Tryz.func82, Tryz.ntmps82
 go_wp2_with fail
 rw [← Hw0.out]
 have HO1 := HO0.out _ _ w0 (H1.out.below hb0.out (Nat.le_refl _)) (H2.out.below hb0.out (Nat.le_refl _))
 obtain ⟨cc, hcc⟩ : ∃ cc, cmpN m n = cc := ⟨_, rfl⟩
 rw [hcc] at HO1
 have hc : cc < 0 := by rw [← hcc]; exact k'6z hmn
 clear hcc
 refine HO1.mono ?_
 clear HO1
 rintro e wx ⟨rfl, nq, rfl⟩
 have hb1 := i' (below_drew' hb0.out nq)
 have k0 : (w0.drewN nq).cell? _ = _ := k0
 have k1 : (w0.drewN nq).cell? _ = _ := k1
 have k2 : (w0.drewN nq).cell? _ = _ := k2
 have k3 : (w0.drewN nq).cell? _ = _ := k3
 have k4 : (w0.drewN nq).cell? _ = _ := k4
 have k5 : (w0.drewN nq).cell? _ = _ := k5
 have k6 : (w0.drewN nq).frozen? _ = _ := k6
 have k7 : (w0.drewN nq).frozen? _ = _ := k7
 clear Hw0 hb0
 have hb0 := hb1
 clear hb1
 generalize w0.drewN nq = wy at *
 go_wp2_with fail
 go_region_held3 (fun W' => W'.cell? ⟨w.heap.size, 0, none⟩ = some (.bool a) ∧ W'.cell? ⟨w.heap.size, 1, none⟩ = some (.slice pa ma ca) ∧ W'.cell? ⟨w.heap.size + 1, 0, none⟩ = some (.bool b) ∧ W'.cell? ⟨w.heap.size + 1, 1, none⟩ = some (.slice pb na cb)) (go_keep)
  (first
   | (go_at_call 123; (with_reducible refine (HTm.out _ (chain hb0.out ((Below.refl _ _).drew))).mono ?_); rintro e w1 ⟨vt, rfl, r1, b1⟩; have c1 := chain ((Below.refl _ _).drew) b1; have p0 := keep1 c1 k0; have p1 := keep1 c1 k1; have p2 := keep1 c1 k2; have p3 := keep1 c1 k3; have G1 := i' (And.intro r1 c1); clear r1 b1 c1)
   | (go_at_call 96; (with_reducible refine (HMd.out _ _ G1.out.1).mono ?_); rintro e w2 ⟨vm, rfl, r2, b2⟩; have c2 := chain G1.out.2 b2; have p0 := keep1 c2 k0; have p1 := keep1 c2 k1; have p2 := keep1 c2 k2; have p3 := keep1 c2 k3; have p4 := keep1 c2 k4; have p5 := keep1 c2 k5; have p6 := keepf c2 k4 k6; have p7 := keepf c2 k5 k7; have G2 := i' (And.intro r2 c2); obtain ⟨pm, bm, om, cm, rfl, hrm⟩ := r2; clear hrm b2 c2))
 have HZ := i' (chain hb0.out G2.out.2)
 go_wp2
 exact bodyPost_ret (v := .agg #[.bool (b && (n - m) != 0), .slice pm (Nm.dg D9 ((n - m))).length cm]) (by simp [results, Tryz.results82, go_sem, p4, p5]) rfl ⟨_, rfl, G2.out.1.set2 p4 p5 (fun _ => by simp), (HZ.out.setCell (p := ⟨w.heap.size + 1 + 1, 0, none⟩) (by simp; omega) _).setCell (p := ⟨w.heap.size + 1 + 1, 1, none⟩) (by simp; omega) _⟩
def iV (z : Int) (v : Value) : Value := .agg #[.bool (decide (z < 0)), v]
abbrev Rz (w : World) (v : Value) (z : Int) : Prop := Ri w v (Nm.dg D9 z.natAbs)
def IntPost (z : Int) (w : World) (e : Ending) (w' : World) : Prop := ∃ v, e = .returned (iV z v) ∧ Rz w' v z ∧ Below w.heap.size w w'
theorem k'78 {b : Bool} {m : Nat} {z : Int} {w : World} (hz : z = if b = true then -(m : Int) else (m : Int)) : ∀ e w', MadeI (b && m != 0) m w e w' → IntPost z w e w' := by
 rintro e w' ⟨v, rfl, h1, h2⟩
 have e1 : z.natAbs = m := by rw [hz]; split <;> omega
 have e2 : decide (z < 0) = (b && m != 0) := by
  rw [hz]
  cases b with
  | false => simp
  | true =>
   by_cases h0 : m = 0
   ·simp [h0]
   ·have h1 : 0 < m := by omega
    simp [h0, h1]
 exact ⟨v, by rw [iV, e2], by rw [Rz, e1]; exact h1, h2⟩
theorem k'79 (z : Int) (v : Value) (w : World) (h : Rz w v z) : Calls Tryz.prog 136 #[iV z v] w (IntPost (-z) w) := by
 refine (k'73 (decide (z < 0)) v z.natAbs w h).mono (k'78 ?_)
 by_cases hz : z < 0
 ·simp [hz]; omega
 ·simp [hz]; omega
theorem k'7a (z : Int) (v : Value) (w : World) (h : Rz w v z) : Calls Tryz.prog 50 #[iV z v] w (SignPost z.sign w) := by
 have := k'72 (decide (z < 0)) v z.natAbs w h
 have e : sgnI (decide (z < 0)) z.natAbs = z.sign := by
  unfold sgnI
  rcases Int.lt_trichotomy z 0 with g | g | g
  ·rw [Int.sign_eq_neg_one_of_neg g]; simp [g]; omega
  ·subst g; rfl
  ·rw [Int.sign_eq_one_of_pos g]
   have g2 : ¬ z < 0 := by omega
   simp [g2]; omega
 rw [e] at this
 exact this
theorem k'7c (x y : Int) (v1 v2 : Value) (w : World) (h1 : Rz w v1 x) (h2 : Rz w v2 y) (l1 : (Nm.dg D9 x.natAbs).length ≤ 1000000) (l2 : (Nm.dg D9 y.natAbs).length ≤ 1000000) :
 Calls Tryz.prog 82 #[iV x v1, iV y v2] w (IntPost (x + y) w) := by
 by_cases hs : decide (x < 0) = decide (y < 0)
 ·have h := k'75 (decide (x < 0)) v1 v2 x.natAbs y.natAbs w h1 h2 l1 l2
  have e : iV y v2 = .agg #[.bool (decide (x < 0)), v2] := by rw [iV, hs]
  rw [e]
  refine h.mono (k'78 ?_)
  by_cases hx : x < 0
  ·have hy : y < 0 := by simpa [hx] using hs.symm
   simp [hx]; omega
  ·have hy : ¬ y < 0 := by simpa [hx] using hs.symm
   simp [hx]; omega
 ·have hab : (decide (x < 0) == decide (y < 0)) = false := by simpa using hs
  rcases Nat.lt_or_ge x.natAbs y.natAbs with hl | hl
  ·refine (k'77 (decide (x < 0)) (decide (y < 0)) v1 v2 x.natAbs y.natAbs w hab hl h1 h2 l1 l2).mono (k'78 ?_)
   by_cases hx : x < 0 <;> by_cases hy : y < 0 <;> simp [hx, hy] at hs ⊢ <;> omega
  ·refine (k'76 (decide (x < 0)) (decide (y < 0)) v1 v2 x.natAbs y.natAbs w hab hl h1 h2 l1 l2).mono (k'78 ?_)
   by_cases hx : x < 0 <;> by_cases hy : y < 0 <;> simp [hx, hy] at hs ⊢ <;> omega
theorem k'7d (x y : Int) (v1 v2 : Value) (w : World) (h1 : Rz w v1 x) (h2 : Rz w v2 y) (l1 : (Nm.dg D9 x.natAbs).length ≤ 1000000) (l2 : (Nm.dg D9 y.natAbs).length ≤ 1000000) :
 Calls Tryz.prog 117 #[iV x v1, iV y v2] w (IntPost (x - y) w) := by
 have H1 := i' h1
 have H2 := i' h2
 obtain ⟨pa, ba, oa, ca, rfl, hr1⟩ := h1
 obtain ⟨pb, bb, ob, cb, rfl, hr2⟩ := h2
 clear hr1 hr2
 have HNg0 := i' (fun v w' h => k'79 y v w' h)
 have HAd0 := i' (fun v1 v2 w' h1 h2 => k'7c x (-y) v1 v2 w' h1 h2 l1 (by rw [Int.natAbs_neg]; exact l2))
 have HZZ : Hid (x + -y = x - y) := Int.sub_eq_add_neg.symm
 unfold iV at *
 clear l1 l2
 generalize (Nm.dg D9 x.natAbs).length = ma at *
 generalize (Nm.dg D9 y.natAbs).length = na at *
 generalize decide (x < 0) = a at *
 generalize decide (y < 0) = b at *
 obtain ⟨nb, hnb⟩ : ∃ nb, decide (-y < 0) = nb := ⟨_, rfl⟩
 simp only [hnb] at HAd0
 have HNB := i' hnb
 obtain ⟨zb, hzb⟩ : ∃ zb, decide (x - y < 0) = zb := ⟨_, rfl⟩
 have HZB := i' hzb
 clear hnb hzb
 obtain ⟨w0, hw0⟩ : ∃ w0 : World, w0 = ((w.alloc (.cells #[.bool a, .slice pa ma ca] 52)).alloc (.cells #[.bool b, .slice pb na cb] 52)).alloc (.cells #[.bool false, .slice none 0 0] 52) := ⟨_, rfl⟩
 have hb0 : Hid (Below w.heap.size w w0) := by rw [hw0]; exact (((Below.refl _ _).alloc (Nat.le_refl _) _).alloc (by simp) _).alloc (by simp; omega) _
 have k0 : w0.cell? ⟨w.heap.size, 0, none⟩ = some (.bool a) := by rw [hw0]; simp [go_sem]
 have k1 : w0.cell? ⟨w.heap.size, 1, none⟩ = some (.slice pa ma ca) := by rw [hw0]; simp [go_sem]
 have k2 : w0.cell? ⟨w.heap.size + 1, 0, none⟩ = some (.bool b) := by rw [hw0]; simp [go_sem]
 have k3 : w0.cell? ⟨w.heap.size + 1, 1, none⟩ = some (.slice pb na cb) := by rw [hw0]; simp [go_sem]
 have k4 : w0.cell? ⟨w.heap.size + 1 + 1, 0, none⟩ = some (.bool false) := by rw [hw0]; simp [go_sem]
 have k5 : w0.cell? ⟨w.heap.size + 1 + 1, 1, none⟩ = some (.slice none 0 0) := by rw [hw0]; simp [go_sem]
 have k6 : w0.frozen? ⟨w.heap.size + 1 + 1, 0, none⟩ = false := by rw [hw0]; simp [go_sem]
 have k7 : w0.frozen? ⟨w.heap.size + 1 + 1, 1, none⟩ = false := by rw [hw0]; simp [go_sem]
 have Hw0 := i' hw0
 have n1 : ¬ (w.heap.size = w.heap.size + 1 + 1) := by omega
 have n2 : ¬ (w.heap.size + 1 + 1 = w.heap.size) := by omega
 clear hw0
 go_enter Tryz.func117, Tryz.ntmps117
 go_wp2_with fail
 rw [← Hw0.out]
 go_region_held3 (fun W' => W'.cell? ⟨w.heap.size, 0, none⟩ = some (.bool a) ∧ W'.cell? ⟨w.heap.size, 1, none⟩ = some (.slice pa ma ca) ∧ W'.cell? ⟨w.heap.size + 1, 0, none⟩ = some (.bool b) ∧ W'.cell? ⟨w.heap.size + 1, 1, none⟩ = some (.slice pb na cb)) (go_keep)
  (first
   | (go_at_call 136; (with_reducible refine (HNg0.out _ _ (H2.out.below (chain hb0.out ((Below.refl _ _).drew)) (Nat.le_refl _))).mono ?_); rintro e w1 ⟨vt, he, r1, b1⟩; unfold iV at he; rw [HNB.out] at he; subst he; have c1 := chain ((Below.refl _ _).drew) b1; have p0 := keep1 c1 k0; have p1 := keep1 c1 k1; have p2 := keep1 c1 k2; have p3 := keep1 c1 k3; have G1 := i' (And.intro r1 c1); clear r1 b1 c1)
   | (go_at_call 82; (with_reducible refine (HAd0.out _ _ _ (H1.out.below (chain hb0.out G1.out.2) (Nat.le_refl _)) G1.out.1).mono ?_); rintro e w2 ⟨vm, he, r2, b2⟩; rw [HZZ.out] at he r2; unfold iV at he; rw [HZB.out] at he; subst he; have c2 := chain G1.out.2 b2; have p0 := keep1 c2 k0; have p1 := keep1 c2 k1; have p2 := keep1 c2 k2; have p3 := keep1 c2 k3; have p4 := keep1 c2 k4; have p5 := keep1 c2 k5; have p6 := keepf c2 k4 k6; have p7 := keepf c2 k5 k7; have G2 := i' (And.intro r2 c2); obtain ⟨pm, bm, om, cm, rfl, hrm⟩ := r2; clear hrm b2 c2))
 have HZ := i' (chain hb0.out G2.out.2)
 go_wp2
 exact bodyPost_ret (v := .agg #[.bool zb, .slice pm (Nm.dg D9 (x - y).natAbs).length cm]) (by simp [results, Tryz.results117, go_sem, p4, p5]) rfl ⟨_, by rw [iV, HZB.out], G2.out.1.set2 p4 p5 (fun _ => by simp), (HZ.out.setCell (p := ⟨w.heap.size + 1 + 1, 0, none⟩) (by simp; omega) _).setCell (p := ⟨w.heap.size + 1 + 1, 1, none⟩) (by simp; omega) _⟩
theorem k'7f {n : Nat} (hn : n < 9223372036854775808) : Nm.trimL [n % 1000000000, n / 1000000000 % 1000000000, n / 1000000000 / 1000000000] = Nm.dg D9 n := by
 have h1 : Nm.Dig D9 [n % 1000000000, n / 1000000000 % 1000000000, n / 1000000000 / 1000000000] :=
  Nm.dig_cons.2 ⟨Nat.mod_lt _ (by decide), Nm.dig_cons.2 ⟨Nat.mod_lt _ (by decide), Nm.dig_cons.2 ⟨by unfold D9; omega, Nm.dig_nil _⟩⟩⟩
 rw [Nm.trimL_dg D92 h1]
 congr 1
 simp only [Nm.val_cons, Nm.val_nil]
 unfold D9
 omega
theorem Ri.three (w : World) (a b c : Nat) : Ri (w.alloc (.cells #[.int .i64 (a : Int), .int .i64 (b : Int), .int .i64 (c : Int)] 3)) (.slice (some ⟨w.heap.size, 0, none⟩) 3 3) [a, b, c] :=
 Ri.of_ari (g := w.heap.size) (l := [a, b, c]) (heap_alloc_new w _) 3 rfl (by decide)
theorem k'7g (n : Nat) (w : World) (hn : n < 9223372036854775808) :
 Calls Tryz.prog 74 #[.int .i64 (n : Int)] w (IntPost (n : Int) w) := by
 have HD := i' (k'7f hn)
 obtain ⟨x0, h0⟩ : ∃ x0, n % 1000000000 = x0 := ⟨_, rfl⟩
 obtain ⟨x1, h1⟩ : ∃ x1, n / 1000000000 % 1000000000 = x1 := ⟨_, rfl⟩
 obtain ⟨x2, h2⟩ : ∃ x2, n / 1000000000 / 1000000000 = x2 := ⟨_, rfl⟩
 rw [h0, h1, h2] at HD
 have e0 : (n : Int) % 1000000000 = (x0 : Int) := by omega
 have e1 : (n : Int) / 1000000000 % 1000000000 = (x1 : Int) := by omega
 have e2 : (n : Int) / 1000000000 / 1000000000 = (x2 : Int) := by omega
 have HM := i' (fun v w h => (k'6q false v n w h).mono (k'78 (z := (n : Int)) (by simp)))
 have HT := i' (fun v xs w h => k'5z v xs w h)
 obtain ⟨w0, hw0⟩ : ∃ w0 : World, w0 = w.alloc (.cells #[.bool false, .slice none 0 0] 52) := ⟨_, rfl⟩
 have hb0 : Hid (Below w.heap.size w w0) := by rw [hw0]; exact k'6n _ _
 have k4 : w0.cell? ⟨w.heap.size, 0, none⟩ = some (.bool false) := by rw [hw0]; simp [go_sem]
 have k5 : w0.cell? ⟨w.heap.size, 1, none⟩ = some (.slice none 0 0) := by rw [hw0]; simp [go_sem]
 have k6 : w0.frozen? ⟨w.heap.size, 0, none⟩ = false := by rw [hw0]; simp [go_sem]
 have k7 : w0.frozen? ⟨w.heap.size, 1, none⟩ = false := by rw [hw0]; simp [go_sem]
 have h3 := Ri.three w0 x0 x1 x2
 have b3 := k'6n w0 (.cells #[.int .i64 (x0 : Int), .int .i64 (x1 : Int), .int .i64 (x2 : Int)] 3)
 have hsz : w0.heap.size = w.heap.size + 1 := by rw [hw0]; simp
 rw [hsz] at h3
 have G3 := i' (And.intro h3 b3)
 have Hw0 := i' hw0
 have KK := i' (And.intro k4 (And.intro k5 (And.intro k6 k7)))
 obtain ⟨nn, hnn⟩ : ∃ nn : Int, (n : Int) = nn := ⟨_, rfl⟩
 have hn0 : 0 ≤ nn := by omega
 have hn1 : nn < 9223372036854775808 := by omega
 rw [hnn] at e0 e1 e2 HM ⊢
 clear h0 h1 h2 h3 b3 hsz hw0 k4 k5 k6 k7 hn hnn
 go_enter Tryz.func74, Tryz.ntmps74
 go_wp2_with fail
 rw [← Hw0.out]
 refine (HT.out _ _ _ G3.out.1).mono ?_
 rintro e w5 ⟨v5, rfl, h5, rfl⟩
 rw [HD.out] at h5
 have H5 := i' h5
 clear h5
 go_wp2_with fail
 refine (HM.out _ _ H5.out).mono ?_
 rintro e w6 ⟨v6, he, h6, b6⟩
 unfold iV at he
 obtain ⟨zb, hzb⟩ : ∃ zb, decide (nn < 0) = zb := ⟨_, rfl⟩
 rw [hzb] at he
 have HZB := i' hzb
 clear hzb
 subst he
 have c6 := link G3.out.2 b6
 have q4 := keep1 c6 KK.out.1
 have q5 := keep1 c6 KK.out.2.1
 have q6 := keepf c6 KK.out.1 KK.out.2.2.1
 have q7 := keepf c6 KK.out.2.1 KK.out.2.2.2
 have H6 := i' h6
 have HZ := i' (link hb0.out c6)
 obtain ⟨pm, bm, om, cm, rfl, hrm⟩ := h6
 clear hrm b6 c6
 go_wp2
 exact bodyPost_ret (v := .agg #[.bool zb, .slice pm (Nm.dg D9 nn.natAbs).length cm]) (by simp [results, Tryz.results74, go_sem, q4, q5]) rfl ⟨_, by rw [iV, HZB.out], H6.out.set2 q4 q5 (fun _ => by simp), (HZ.out.setCell (p := ⟨w.heap.size, 0, none⟩) (Nat.le_refl _) _).setCell (p := ⟨w.heap.size, 1, none⟩) (Nat.le_refl _) _⟩
theorem Ri.uniq {w : World} {v : Value} {xs ys : List Nat} (h : Ri w v xs) (k : Ri w v ys) : xs = ys := by
 obtain ⟨p, b, off, cap, h1, h2, h3, h4, h5, h6⟩ := h
 obtain ⟨q, c, o, cp, k1, k2, k3, k4, k5, k6⟩ := k
 rw [h1] at k1
 obtain ⟨rfl, hl, rfl⟩ := Value.slice.inj k1
 refine List.ext_getElem hl fun i hx hy => ?_
 have e1 := h4 (by intro e; rw [e] at hx; exact absurd hx (Nat.not_lt_zero _))
 have e2 := k4 (by intro e; rw [e] at hy; exact absurd hy (Nat.not_lt_zero _))
 rw [e1] at e2
 obtain ⟨rfl, rfl⟩ : b = c ∧ off = o := by simpa using e2
 have e3 := h6 i hx
 rw [k6 i hy] at e3
 have e4 := (Value.int.inj (Option.some.inj e3)).2
 omega
open Classical in
noncomputable def numOf (w : World) (v : Value) : Nat := if h : ∃ n, Ri w v (Nm.dg D9 n) then h.choose else 0
def ToInv (X : List Nat) (k r : Nat) (t : List Nat) : Prop :=
 t.length + k = X.length ∧ Nm.Dig D9 t ∧ r < 256 ∧ Nm.val D9 (X.drop k) = Nm.val D9 t * 256 + r
theorem ToInv.start (X : List Nat) : ToInv X X.length 0 [] :=
 ⟨by simp, Nm.dig_nil _, by omega, by rw [List.drop_of_length_le (Nat.le_refl _)]; simp [Nm.val]⟩
theorem ToInv.step {X t : List Nat} {j r : Nat} (h : ToInv X (j + 1) r t) (hj : j < X.length) (dx : X[j] < D9) : ToInv X j ((r * 1000000000 + X[j]) % 256) ((r * 1000000000 + X[j]) / 256 :: t) := by
 obtain ⟨h1, h2, h3, h4⟩ := h
 refine ⟨by simp; omega, Nm.dig_cons.2 ⟨by unfold D9 at *; omega, h2⟩, Nat.mod_lt _ (by decide), ?_⟩
 rw [List.drop_eq_getElem_cons hj, Nm.val_cons, Nm.val_cons, h4]
 have := Nat.div_add_mod (r * 1000000000 + X[j]) 256
 have e : D9 = 1000000000 := rfl
 rw [e]
 generalize (r * 1000000000 + X[j]) / 256 = a at *
 generalize (r * 1000000000 + X[j]) % 256 = b at *
 generalize Nm.val 1000000000 t = v at *
 generalize X[j] = x at *
 omega
theorem ToInv.finish {X t : List Nat} {r : Nat} (h : ToInv X 0 r t) : r = Nm.val D9 X % 256 ∧ Nm.trimL t = Nm.dg D9 (Nm.val D9 X / 256) ∧ t.length = X.length := by
 obtain ⟨h1, h2, h3, h4⟩ := h
 rw [List.drop_zero] at h4
 refine ⟨by omega, ?_, by omega⟩
 rw [Nm.trimL_dg D92 h2]
 congr 1
 omega
def Wr (w : World) (g : Nat) (l : List Nat) : Prop := ∀ k (h : k < l.length), w.cell? ⟨g, k, none⟩ = some (.int .i64 (l[k] : Int)) ∧ w.frozen? ⟨g, k, none⟩ = false
theorem Wr.of_own {w : World} {B n : Nat} {g cap : Nat} {l : List Nat} (h : w.ownsRow B 3 1 (.slice (some ⟨g, 0, none⟩) n cap) n (iv l)) : Wr w g l := by
 intro k hk
 have h1 := h.cells (g := g) rfl k (.int .i64 (l[k] : Int)) (k'5x l k hk)
 have hadd : ((⟨g, 0, none⟩ : Addr).add k) = ⟨g, k, none⟩ := by unfold Addr.add; split <;> simp_all
 rw [hadd] at h1
 refine ⟨h1, ?_⟩
 rcases h.2 with ⟨h2, _⟩ | ⟨g2, cap2, cur, h2, hB, hg, _⟩
 ·simp at h2
 ·have : g2 = g := by injection h2 with h3; injection h3 with h4; injection h4 with h5; exact h5.symm
  subst this
  exact frozen_of_row w g2 k _ _ hg
theorem Wr.keep {w w' : World} {g : Nat} {l : List Nat} (h : Wr w g l) (he : w'.heap[g]? = w.heap[g]?) : Wr w' g l := fun k hk =>
 ⟨(World.cell?_of_block (a := ⟨g, k, none⟩) he).trans (h k hk).1, (World.frozen?_of_block (a := ⟨g, k, none⟩) he).trans (h k hk).2⟩
theorem Wr.lt {w : World} {g : Nat} {l : List Nat} (h : Wr w g l) (h0 : 0 < l.length) : g < w.heap.size := World.block_lt_of_cell? w _ (h 0 h0).1
theorem Wr.set {w : World} {g : Nat} {l : List Nat} (h : Wr w g l) (k n : Nat) : Wr (w.setCell ⟨g, k, none⟩ (.int .i64 (n : Int))) g (l.set k n) := by
 intro j hj
 have hj2 : j < l.length := by simpa using hj
 obtain ⟨h1, h2⟩ := h j hj2
 have hc := h1
 by_cases hjk : j = k
 ·subst hjk
  refine ⟨?_, by simpa [go_sem] using h2⟩
  simp only [List.getElem_set_self]
  simp [go_sem, h1]
 ·refine ⟨?_, by simpa [go_sem] using h2⟩
  rw [List.getElem_set_ne (fun e => hjk e.symm)]
  have hkj : ¬ k = j := fun e => hjk e.symm
  simp [go_sem, h1, hjk, hkj]
theorem Wr.take {w : World} {g : Nat} {l : List Nat} (h : Wr w g l) (n : Nat) : Wr w g (l.take n) := by
 intro k hk
 have hk2 : k < l.length := by simp at hk; omega
 rw [List.getElem_take]
 exact h k hk2
theorem Wr.trim {w : World} {g : Nat} {l : List Nat} (h : Wr w g l) : Wr w g (Nm.trimL l) := by
 rw [Nm.trimL_is_take l]
 exact h.take _
theorem Wr.ri {w : World} {g cap : Nat} {l : List Nat} (h : Wr w g l) (hg : IntB w g) (h1 : l.length ≤ cap) (h2 : cap ≤ maxLen) : Ri w (.slice (some ⟨g, 0, none⟩) l.length cap) l :=
 ⟨some ⟨g, 0, none⟩, g, 0, cap, rfl, h1, h2, fun _ => rfl, Or.inr ⟨rfl, hg⟩, fun k hk => by rw [Nat.zero_add]; exact (h k hk).1⟩
theorem k'7k {w w' : World} {g B n : Nat} {t : TypeId} {v : Value} {xs : List Value} (h : w.ownsRow B t 1 v n xs) (ho : Only g w w') (hg : g < B) : w'.ownsRow B t 1 v n xs := by
 refine ⟨h.1, ?_⟩
 rcases h.2 with h2 | ⟨g2, cap2, cur, h2, hB, hg2, hr⟩
 ·exact Or.inl h2
 ·exact Or.inr ⟨g2, cap2, cur, h2, hB, (ho.block g2 (by omega)).trans hg2, hr⟩
theorem k'7l (g cap : Nat) (xs : List Nat) (w : World) (h : Wr w g xs) (h2 : xs.length ≤ cap) (h3 : cap ≤ maxLen) : Calls Tryz.prog 95 #[.slice (some ⟨g, 0, none⟩) xs.length cap] w fun e w' => e = .returned (.slice (some ⟨g, 0, none⟩) (Nm.trimL xs).length cap) ∧ w = w' := by
 have hc := h3
 unfold maxLen at hc
 have hl : xs.length ≤ 9223372036854775807 := by omega
 have H6 := i' h
 have H23 := i' (And.intro h2 h3)
 clear h h2 h3 hc
 go_enter Tryz.func95, Tryz.ntmps95
 go_wp2
 go_loop [0] (fun v => ∃ k : Nat, k ≤ xs.length ∧ v = .slice (some ⟨g, 0, none⟩) k cap ∧ Hid (∀ i (h : i < xs.length), k ≤ i → xs[i] = 0)) (fun v => lenOf v)
 case atStart => exact ⟨xs.length, Nat.le_refl _, rfl, fun i h hi => absurd h (by omega)⟩
 case round =>
  obtain ⟨k, hk, rfl, hz⟩ := hrel
  rcases Nat.eq_zero_or_pos k with h0 | h0
  ·subst h0
   have e0 : Nm.trimL xs = xs.take 0 := Nm.trimL_take (Nat.zero_le _) (fun i h _ => hz.out i h (Nat.zero_le _)) trivial
   have e1 : Hid ((Nm.trimL xs).length = 0) := by rw [e0]; rfl
   clear e0
   go_wp2
   go_ret
   exact ⟨by rw [e1.out]; rfl, rfl⟩
  ·obtain ⟨j, rfl⟩ : ∃ j, k = j + 1 := ⟨k - 1, by omega⟩
   have hj : j < xs.length := by omega
   have hcell := (H6.out j hj).1
   have hjc : j ≤ cap := by have := H23.out.1; omega
   by_cases hv : xs[j] = 0
   ·have HV := i' hv
    have hvi : ((xs[j] : Int) == 0) = true := by simp [hv]
    clear hv
    go_wp2
    go_round
    case rel =>
     refine ⟨j, by omega, rfl, fun i h hi => ?_⟩
     rcases Nat.lt_or_ge j i with g | g
     ·exact hz.out i h g
     ·obtain rfl : i = j := by omega
      exact HV.out
    case measure => simp [lenOf]
   ·have e0 : Nm.trimL xs = xs.take (j + 1) := Nm.trimL_take hk hz.out (Nm.nrm_take_last hj hv)
    have e1 : Hid ((Nm.trimL xs).length = j + 1) := by rw [e0]; show _ = _; simp; omega
    have hvi : ((xs[j] : Int) == 0) = false := by simp [hv]
    clear hv e0
    go_wp2
    go_ret
    exact ⟨by rw [e1.out]; rfl, rfl⟩
def ToOut (m k : Nat) : Prop := k = 0 ∨ m / 256 ^ (k - 1) ≠ 0
theorem k'7n (m k : Nat) : m / 256 ^ k / 256 = m / 256 ^ (k + 1) := by rw [Nat.div_div_eq_div_mul, Nat.pow_succ]
theorem ToOut.step {m k : Nat} (h : m / 256 ^ k ≠ 0) : ToOut m (k + 1) := Or.inr (by rwa [Nat.add_sub_cancel])
def CopyI (w : World) (B : Nat) (v : Value) (X : List Nat) : Prop :=
 ∃ pd cap, v = .slice pd X.length cap ∧ (X = [] ∨ ∃ g, pd = some ⟨g, 0, none⟩ ∧ B ≤ g ∧ g < w.heap.size ∧ Wr w g X) ∧ X.length ≤ cap ∧ cap ≤ maxLen
theorem k'7o {w : World} {ops : Array Oper} {rest : List Oper} {o : Oper} {a : Act} {Q : Exit → Act → World → Prop} (hgd : o.guard = none) (s x : Operand)
 (ho : o.op = .call { callee := .builtin .append, args := #[s, x], argTypes := #[24, 24] }) (v : Value) (X : List Nat) (hs : a.eval s = .slice none 0 0) (hx : a.eval x = v) (hr : Ri w v X) (hl : X.length ≤ 1000000)
 (h : ∀ v' w', CopyI w' w.heap.size v' X → Below w.heap.size w w' → wpList Tryz.prog ops Q rest (a.put o.dst v') w') : wpList Tryz.prog ops Q (o :: rest) a w := by
 have hi3 : (Tryz.prog.info? 3).map (fun i => (i.zero, i.size, i.bytes)) = some (some (.int .i64 0), 1, 8) := by kernel_rfl
 obtain ⟨i0, hi0, hz0, hz1, hz2⟩ := info_parts hi3
 obtain ⟨p, b, off, cap, rfl, h2, h3, h4, h5, h6⟩ := hr
 rcases h5 with ⟨rfl, rfl⟩ | ⟨rfl, hb⟩
 ·have hX : X = [] := List.eq_nil_of_length_eq_zero (by omega)
  subst hX
  exact wpList_append_own_none hgd s x 24 ho w.heap.size 3 i0 1 Tryz.underlying24 hi0 (.slice none 0 0) 0 [] hs (World.ownsRow_nil _ _ _ _) hx (h _ _ ⟨none, 0, rfl, Or.inl rfl, Nat.le_refl _, by unfold maxLen; omega⟩ (Below.refl _ _))
 ·refine wpList_append_own w hgd s x 24 ho w.heap.size 3 i0 (.int .i64 0) 1 8 Tryz.underlying24 hi0 hz0 hz1 hz2 rfl (by decide) (.slice none 0 0) 0 [] hs (World.ownsRow_nil _ _ _ _) ⟨b, off, none⟩ X.length cap (iv X) hx (by rw [k'5w, Nat.mul_one]) ?_ ?_ (by unfold maxLen; omega) (by omega) (Nat.le_refl _) ?_
  ·intro j u hj
   have hjl : j < X.length := by have h7 := (List.getElem?_eq_some_iff.1 hj).1; rwa [k'5w] at h7
   rw [k'5x X j hjl] at hj
   have hadd : ((⟨b, off, none⟩ : Addr).add j) = ⟨b, off + j, none⟩ := by unfold Addr.add; split <;> simp_all
   rw [hadd, h6 j hjl]; exact hj
  ·intro u hu
   simp only [iv, List.mem_map] at hu
   obtain ⟨y, _, rfl⟩ := hu
   rfl
  ·intro v' w' hown hgrow _
   have hb9 : Below w.heap.size w w' := (Below.refl _ _).grown hgrow (Nat.le_refl _) (fun q hq => by simp [Value.ownBlock] at hq)
   refine h _ _ ?_ hb9
   rw [Nat.zero_add, List.nil_append] at hown
   have hown2 := hown
   rcases hown.2 with ⟨rfl, h0⟩ | ⟨g, cap2, cur, rfl, hB, hg, hn, hm, _⟩
   ·exact ⟨none, 0, by rw [h0], Or.inl (List.eq_nil_of_length_eq_zero h0), by omega, by unfold maxLen; omega⟩
   ·exact ⟨_, _, rfl, Or.inr ⟨g, rfl, hB, lt_of_block hg, Wr.of_own hown2⟩, hn, hm⟩
theorem k'7p (l : List Nat) (x : Nat) : bvl (l ++ [x]) = bvl l ++ [Value.int .u8 (x : Int)] := by simp [bvl]
theorem k'7r (l : List Nat) (k : Nat) (h : k < l.length) : (bvl l)[k]? = some (.int .u8 (l[k] : Int)) := by simp [bvl, List.getElem?_eq_getElem h]
theorem k'7s {w : World} {B : Nat} {v : Value} {l : List Nat} {x : Nat} (h : w.ownsRow B 5 1 v l.length (bvl l)) (hx : l = (Nm.dg 256 x).reverse) :
 (convert 112 9 v).run Tryz.prog w = .ok (.string (bs x)) w := by
 rcases h.2 with ⟨rfl, h0⟩ | ⟨g, cap, cur, rfl, hB, hg, hn, hm, _⟩
 ·have hl : l = [] := List.eq_nil_of_length_eq_zero h0
  have hd : Nm.dg 256 x = [] := by rw [hl] at hx; simpa using hx.symm
  have hb : bs x = ⟨#[]⟩ := by unfold bs; rw [hd]; rfl
  rw [hb]
  have := run_convert_bytes_string (P := Tryz.prog) w 112 9 5 none 0 0 Tryz.underlying112 Tryz.underlying5 Tryz.underlying9
  rw [this]
  simp [Conv.bytesToString, loadCells, loadCellsFrom, go_sem]
  rfl
 ·have hlen : (l.map UInt8.ofNat).length = l.length := by simp
  have := run_convert_bytes_back (P := Tryz.prog) w 112 9 5 ⟨g, 0, none⟩ cap (l.map UInt8.ofNat) Tryz.underlying112 Tryz.underlying5 Tryz.underlying9 (fun j hj => by
   have hjn : j < l.length := by rw [hlen] at hj; exact hj
   rw [h.cells (g := g) rfl j (.int .u8 (l[j] : Int)) (k'7r l j hjn)]
   have e2 : l[j] < 256 := by
    have : l[j] ∈ (Nm.dg 256 x).reverse := by rw [← hx]; exact List.getElem_mem _
    exact Nm.dig_dg (by decide) x _ (List.mem_reverse.1 this)
   rw [List.getElem_map]
   congr 2
   simp [UInt8.toNat_ofNat', Nat.mod_eq_of_lt e2])
  rw [hlen] at this
  rw [this, bs, ← hx]
theorem k'7t {m L c : Nat} (hm : m < D9 ^ L) (h : m / 256 ^ c ≠ 0) : c < 4 * L := by
 rcases Nat.lt_or_ge c (4 * L) with g | g
 ·exact g
 ·have h1 : D9 ^ L ≤ 256 ^ (4 * L) := by
   rw [Nat.pow_mul]
   exact Nat.pow_le_pow_left (by decide) _
  have h2 : 256 ^ (4 * L) ≤ 256 ^ c := Nat.pow_le_pow_right (by decide) g
  exact absurd (Nat.div_eq_of_lt (by omega)) h
theorem k'7u {B n : Nat} (hB : 2 ≤ B) (h : (Nm.dg B n).length = 0) : n = 0 := by
 have h1 := Nm.val_dg hB n
 rw [List.eq_nil_of_length_eq_zero h] at h1
 simpa [Nm.val] using h1.symm
theorem k'7v {w : World} {B n : Nat} {t : TypeId} {v : Value} {xs : List Value} (h : w.ownsRow B t 1 v n xs) : lenOf v = n := by
 rcases h.2 with ⟨rfl, h0⟩ | ⟨g, cap, cur, rfl, _⟩
 ·rw [h0]; rfl
 ·rfl
theorem k'7w {w : World} {B n : Nat} {t : TypeId} {v : Value} {xs : List Value} (h : w.ownsRow B t 1 v n xs) : ∃ p g cap, v = .slice p n cap ∧ n ≤ cap ∧ (0 < n → p = some ⟨g, 0, none⟩ ∧ g < w.heap.size ∧ ∀ k u, xs[k]? = some u → w.cell? ⟨g, k, none⟩ = some u) := by
 have h9 := h
 rcases h.2 with ⟨rfl, h0⟩ | ⟨g, cap, cur, rfl, hB, hg, hn, hm, _⟩
 ·exact ⟨none, 0, 0, by rw [h0], by omega, fun h1 => absurd h1 (by omega)⟩
 ·refine ⟨_, g, cap, rfl, hn, fun _ => ⟨rfl, lt_of_block hg, fun k u hk => ?_⟩⟩
  have := h9.cells (g := g) rfl k u hk
  have hadd : ((⟨g, 0, none⟩ : Addr).add k) = ⟨g, k, none⟩ := by unfold Addr.add; split <;> simp_all
  rwa [hadd] at this
theorem k'7x (l : List Nat) (j : Nat) (h : j < l.length) : (l.drop j).reverse = (l.drop (j + 1)).reverse ++ [l[j]] := by
 rw [List.drop_eq_getElem_cons h]; simp
def wz (z : Int) : Value := wd (decide (z < 0)) z.natAbs
def ToPost (z : Int) (w : World) (e : Ending) (w' : World) : Prop := e = .returned (wz z) ∧ Below w.heap.size w w'
theorem k'7y (z : Int) (v : Value) (w : World) (h : Rz w v z) (hl : (Nm.dg D9 z.natAbs).length ≤ 1000000) :
 Calls Tryz.prog 39 #[iV z v] w (ToPost z w) := by
 have HZ : Hid (wz z = .agg #[.bool (decide (z < 0)), .string (bs z.natAbs)]) := by
  show _ = _
  rw [wz, wd]
  by_cases hz : z < 0
  ·have h1 : z.natAbs ≠ 0 := by omega
   simp [hz, h1]
  ·simp [hz]
 have H0 : Hid (Ri w v (Nm.dg D9 z.natAbs)) := h
 obtain ⟨pa, ba, oa, ca, rfl, hr1⟩ := h
 clear hr1
 unfold iV at *
 generalize decide (z < 0) = ng at *
 generalize z.natAbs = m at *
 obtain ⟨w0, hw0⟩ : ∃ w0 : World, w0 = (w.alloc (.cells #[.bool ng, .slice pa (Nm.dg D9 m).length ca] 52)).alloc (.cells #[.bool false, .string ⟨#[]⟩] 44) := ⟨_, rfl⟩
 have hb0 : Hid (Below w.heap.size w w0) := by rw [hw0]; exact ((Below.refl _ _).alloc (Nat.le_refl _) _).alloc (by simp) _
 have hsz : Hid (w.heap.size + 1 + 1 = w0.heap.size) := by rw [hw0]; show _ = _; simp
 have k0 : w0.cell? ⟨w.heap.size, 0, none⟩ = some (.bool ng) := by rw [hw0]; simp [go_sem]
 have k1 : w0.cell? ⟨w.heap.size, 1, none⟩ = some (.slice pa (Nm.dg D9 m).length ca) := by rw [hw0]; simp [go_sem]
 have k4 : w0.cell? ⟨w.heap.size + 1, 0, none⟩ = some (.bool false) := by rw [hw0]; simp [go_sem]
 have k5 : w0.cell? ⟨w.heap.size + 1, 1, none⟩ = some (.string ⟨#[]⟩) := by rw [hw0]; simp [go_sem]
 have k6 : w0.frozen? ⟨w.heap.size + 1, 0, none⟩ = false := by rw [hw0]; simp [go_sem]
 have k7 : w0.frozen? ⟨w.heap.size + 1, 1, none⟩ = false := by rw [hw0]; simp [go_sem]
 have KK := i' (And.intro k0 (And.intro k4 (And.intro k5 (And.intro k6 k7))))
 have H1 : Hid (Ri w0 (.slice pa (Nm.dg D9 m).length ca) (Nm.dg D9 m)) := H0.out.below hb0.out (Nat.le_refl _)
 have Hw0 := i' hw0
 clear hw0 k0 k4 k5 k6 k7 H0
 generalize hX : Nm.dg D9 m = X at *
 have HX := i' hX
 clear hX
 go_enter Tryz.func39, Tryz.ntmps39
 go_wp2_with (at_builtin; rw [← Hw0.out]; refine k'7o rfl _ _ rfl _ X rfl rfl H1.out hl ?_)
 intro v4 w1 hcopy hb1
 obtain ⟨pd, cap, rfl, hcs, hcap1, hcap2⟩ := hcopy
 have HB1 : Hid (Below w0.heap.size w0 w1) := hb1
 have HC := i' (And.intro hcs (And.intro hcap1 hcap2))
 have HXL : Hid (m < D9 ^ X.length) := by
  have h5 := Nm.val_lt (Nm.dig_dg D92 m)
  rw [Nm.val_dg D92, HX.out] at h5
  exact h5
 have hi3 : (Tryz.prog.info? 5).map (fun i => (i.zero, i.size, i.bytes)) = some (some (.int .u8 0), 1, 1) := by kernel_rfl
 obtain ⟨i0, hi0, hz0, hz1, hz2⟩ := info_parts hi3
 have HI := i' (And.intro hi0 (And.intro hz0 (And.intro hz1 hz2)))
 clear hcs hcap1 hcap2 hb1 hi3 hi0 hz0 hz1 hz2 k1 H1
 go_wp2
 go_loopw [3, 4, 5, 6] (fun bk dv _ _ wr => ∃ (wz : World) (c n : Nat) (l : List Nat), wz = wr ∧ n = l.length ∧ n ≤ 1000000 ∧ dv = .slice pd n cap ∧ Hid (l = Nm.dg D9 (m / 256 ^ c)) ∧ Hid (n ≤ X.length) ∧ Hid (c ≤ 4 * X.length) ∧
  Hid (n = 0 ∨ ∃ g, pd = some ⟨g, 0, none⟩ ∧ w0.heap.size ≤ g ∧ g < w1.heap.size ∧ Wr wz g l) ∧ Hid (wz.ownsRow w1.heap.size 5 1 bk c (bvl (lowd m c))) ∧ Hid (ToOut m c) ∧ Hid (Below w0.heap.size w0 wz) ∧ Hid (w1.heap.size ≤ wz.heap.size))
  (fun bk _ _ _ _ => 4 * X.length + 1 - lenOf bk)
 case atStart =>
  exact ⟨w1, 0, X.length, X, rfl, rfl, hl, rfl, by show X = _; rw [Nat.pow_zero, Nat.div_one]; exact HX.out.symm, Nat.le_refl _, Nat.zero_le _, by
   rcases HC.out.1 with h | ⟨g, h1, h2, h3, h4⟩
   ·exact Or.inl (by rw [h]; rfl)
   ·exact Or.inr ⟨g, h1, h2, h3, h4⟩, World.ownsRow_nil _ _ _ _, Or.inl rfl, HB1.out, Nat.le_refl _⟩
 case round =>
  obtain ⟨wz, c, n, l, rfl, hn, hn6, rfl, hl9, hnX, hc4, hwr, hown, hto, hbl, hsz1⟩ := hrel
  have Hn := i' hn
  clear hn
  rcases Nat.eq_zero_or_pos n with h0 | h0
  ·subst h0
   have hdone : m / 256 ^ c = 0 := by
    have h5 : l = Nm.dg D9 (m / 256 ^ c) := hl9.out
    have h6 : 0 = l.length := Hn.out
    exact k'7u D92 (by rw [← h5, ← h6])
   have HL : Hid (lowd m c = Nm.dg 256 m) := k'3h m c hdone hto.out
   have hcl : Hid (c ≤ 4000000) := by have h5 := hc4.out; show _ ≤ _; omega
   obtain ⟨pb, gb, cb, rfl, hcb, hgb⟩ := k'7w hown.out
   have HGB := i' hgb
   have hcb2 : Hid (c ≤ cb) := hcb
   clear hdone hl9 hnX hc4 hwr hto Hn hgb hcb hown
   have hc0 : c ≤ 4000000 := hcl.out
   go_wp2
   go_loopw [7, 8] (fun ov iv wq => ∃ (wy : World) (k nl : Nat), wy = wq ∧ nl + k = c ∧ iv = .int .i64 ((k : Int) - 1) ∧ Hid (wy.ownsRow wz.heap.size 5 1 ov nl (bvl ((lowd m c).drop k).reverse)) ∧ Hid (Below wz.heap.size wz wy))
    (fun _ iv _ => (intOf iv + 1).toNat)
   case atStart => exact ⟨wz, c, 0, rfl, Nat.zero_add _, rfl, by
    have h5 : (lowd m c).drop c = [] := List.drop_of_length_le (by rw [k'3e]; omega)
    rw [h5]; exact World.ownsRow_nil _ _ _ _, Below.refl _ _⟩
   case round =>
    rename_i ov _ _ _
    obtain ⟨wy, k, nl, rfl, hk, rfl, hown, hbl2⟩ := hrel
    rcases Nat.eq_zero_or_pos k with h0 | h0
    ·subst h0
     have hnl : nl = ((lowd m c).drop 0).reverse.length := by simp [k'3e]; omega
     have hcv := k'7s (x := m) (hnl ▸ hown.out) (by rw [List.drop_zero, HL.out])
     have hba := link hbl.out hbl2.out
     have q0 := keep1 hba KK.out.1
     have q4 := keep1 hba KK.out.2.1
     have q5 := keep1 hba KK.out.2.2.1
     have q6 := keepf hba KK.out.2.1 KK.out.2.2.2.1
     have q7 := keepf hba KK.out.2.2.1 KK.out.2.2.2.2
     have HB := i' (link hb0.out hba)
     have n1 : ¬ (w.heap.size = w.heap.size + 1) := by omega
     clear hown hbl2 hba
     go_wp2
     exact bodyPost_ret (v := .agg #[.bool ng, .string (bs m)]) (by simp [results, Tryz.results39, go_sem, q4, q5]) rfl ⟨by rw [HZ.out], (HB.out.setCell (p := ⟨w.heap.size + 1, 0, none⟩) (by simp) _).setCell (p := ⟨w.heap.size + 1, 1, none⟩) (by simp) _⟩
    ·obtain ⟨j, rfl⟩ : ∃ j, k = j + 1 := ⟨k - 1, by omega⟩
     have hjl : j < (lowd m c).length := by rw [k'3e]; omega
     obtain ⟨rfl, hgl, hgc⟩ := HGB.out (by omega)
     have e1 := k'd hbl2.out (hgc j _ (k'7r _ j hjl))
     obtain ⟨x, hx⟩ : ∃ x, (lowd m c)[j] = x := ⟨_, rfl⟩
     rw [hx] at e1
     have hrd := k'7x (lowd m c) j hjl
     rw [hx] at hrd
     have HRD := i' hrd
     have HLL : Hid (nl ≤ 4000000) := by show _ ≤ _; omega
     obtain ⟨y, hy⟩ : ∃ y : Int, (x : Int) = y := ⟨_, rfl⟩
     rw [hy] at e1
     have HY := i' hy
     have hjc : j < c := by omega
     have hjb : j ≤ cb := by have := hcb2.out; omega
     have e5 : ((j + 1 : Nat) : Int) - 1 = (j : Int) := by omega
     rw [e5]
     have hbase : Hid (wz.heap.size ≤ wy.heap.size) := hbl2.out.size
     clear hjl hgc hx hrd hy hgl
     go_wp2_with (at_builtin; refine wpList_append_own _ rfl _ _ 112 rfl wz.heap.size 5 i0 (.int .u8 0) 1 1 Tryz.underlying112 HI.out.1 HI.out.2.1 HI.out.2.2.1 HI.out.2.2.2 rfl (by decide) _ _ _ rfl (hown.out.alloc _) ⟨wy.heap.size, 0, none⟩ 1 1 [.int .u8 y] rfl rfl ?dc1 ?dc2 ?dc3 ?dc4 ?dc5 ?_)
     case dc2 => rfl
     case dc3 => have h5 := HLL.out; unfold maxLen; omega
     case dc4 => have h5 := HLL.out; omega
     case dc5 => have h5 := hbase.out; omega
     intro v' w2 hown1 hgrow1 _
     have hbl1 : Hid (Below wz.heap.size wz w2) := (hbl2.out.alloc hbase.out _).grown hgrow1 (by have h5 := hbase.out; simp; omega) (fun q hq => (hown.out.lt q hq).1)
     have hown2 : Hid (w2.ownsRow wz.heap.size 5 1 v' (nl + 1) (bvl ((lowd m c).drop j).reverse)) := by
      show World.ownsRow _ _ _ _ _ _ _
      rw [HRD.out, k'7p, HY.out]
      exact hown1
     clear hown1 hgrow1 hbl2 hown
     go_wp2
     go_roundw
     case rel => exact ⟨_, j, nl + 1, rfl, by omega, by go_num, hown2, hbl1⟩
     case measure => simp [intOf]
  ·have hne : l ≠ [] := fun e => by have h5 := Hn.out; rw [e] at h5; simp at h5; omega
   rcases hwr.out with h1 | ⟨g, rfl, hg1, hg2, hg3⟩
   ·omega
   have hmz : m / 256 ^ c ≠ 0 := fun e => hne (by have h5 : l = Nm.dg D9 (m / 256 ^ c) := hl9.out; rw [h5, e]; rfl)
   have hc5 : c < 4 * X.length := k'7t HXL.out hmz
   have HT := i' (ToOut.step hmz)
   have DL : Hid (Nm.Dig D9 l) := by have h5 : l = Nm.dg D9 (m / 256 ^ c) := hl9.out; rw [h5]; exact Nm.dig_dg D92 _
   have VL : Hid (Nm.val D9 l = m / 256 ^ c) := by have h5 : l = Nm.dg D9 (m / 256 ^ c) := hl9.out; rw [h5]; exact Nm.val_dg D92 _
   have HG12 := i' (And.intro hg1 hg2)
   have HG3 := i' hg3
   have HC5 := i' hc5
   obtain ⟨pb, gb, cb, hbk, _, _⟩ := k'7w hown.out
   subst hbk
   have hcc : Hid (n ≤ cap) := by have h5 := HC.out.2.1; have h6 := hnX.out; show _ ≤ _; omega
   clear hne hmz hc5 hg1 hg2 hg3 hwr hto hl9
   go_wp2
   go_loopw [5, 6] (fun rv iv wq => ∃ (wy : World) (k r : Nat) (ri : Int) (t : List Nat), wy = wq ∧ k ≤ n ∧ iv = .int .i64 ((k : Int) - 1) ∧ rv = .int .i64 ri ∧ 0 ≤ ri ∧ ri < 256 ∧ Hid ((r : Int) = ri) ∧ Hid (ToInv l k r t) ∧ Hid (Wr wy g (l.take k ++ t)) ∧ Hid (Only g wz wy))
    (fun _ iv _ => (intOf iv + 1).toNat)
   case atStart => exact ⟨wz, n, 0, 0, [], rfl, Nat.le_refl _, rfl, rfl, by omega, by omega, rfl, by have h5 : n = l.length := Hn.out; rw [h5]; exact ToInv.start l, by have h5 : n = l.length := Hn.out; rw [h5, List.take_length, List.append_nil]; exact HG3.out, Only.refl _ _⟩
   case round =>
    obtain ⟨wy, k, r, ri, t, rfl, hk, rfl, rfl, hr0, hr1, hri, hinv, hwr, ho⟩ := hrel
    rcases Nat.eq_zero_or_pos k with h0 | h0
    ·subst h0
     obtain ⟨f1, f2, f3⟩ := hinv.out.finish
     obtain ⟨f5, f6, f7, _⟩ := hinv.out
     have hrb : r = m / 256 ^ c % 256 := by rw [f1, VL.out]
     have HL2 : Hid (bvl (lowd m c) ++ [Value.int .u8 ri] = bvl (lowd m (c + 1))) := by
      show _ = _
      rw [lowd, k'7p, ← hrb, hri.out]
     have HTR : Hid (Nm.trimL t = Nm.dg D9 (m / 256 ^ (c + 1))) := by
      show _ = _
      rw [f2, VL.out, k'7n]
     have ew : IntKind.u8.wrap ri = ri := by
      have h5 := k'3j r
      rw [hri.out] at h5
      rw [h5, Nat.mod_eq_of_lt f7]; exact hri.out
     have HF3 : Hid (t.length = n) := by have h5 : n = l.length := Hn.out; rw [h5]; exact f3
     have HTL : Hid ((Nm.trimL t).length ≤ n) := by rw [← HF3.out]; exact Nm.trimL_le t
     have HWR : Hid (Wr wy g t) := by have h5 := hwr.out; rwa [List.take_zero, List.nil_append] at h5
     have HOW : Hid (wy.ownsRow w1.heap.size 5 1 (.slice pb c cb) c (bvl (lowd m c))) := k'7k hown.out ho.out HG12.out.2
     have HBW : Hid (Below w0.heap.size w0 wy) := ho.out.below hbl.out HG12.out.1
     have HSZ : Hid (w1.heap.size ≤ wy.heap.size) := by rw [ho.out.size]; exact hsz1.out
     have HC4 : Hid (c ≤ 4000000) := by have h5 := HC5.out; show _ ≤ _; omega
     clear f1 f2 f3 f5 f6 f7 hrb hinv hwr ho hown hbl hsz1 hri hk
     go_wp2_with (at_builtin; refine wpList_append_own _ rfl _ _ 112 rfl w1.heap.size 5 i0 (.int .u8 0) 1 1 Tryz.underlying112 HI.out.1 HI.out.2.1 HI.out.2.2.1 HI.out.2.2.2 rfl (by decide) _ _ _ rfl (HOW.out.alloc _) ⟨wy.heap.size, 0, none⟩ 1 1 [.int .u8 ri] rfl rfl ?ec1 ?ec2 ?ec3 ?ec4 ?ec5 ?_)
     case ec1 => exact k'61 (by simp [go_sem])
     case ec2 => intro u hu; simp at hu; subst hu; rfl
     case ec3 => have h5 := HC4.out; unfold maxLen; omega
     case ec4 => have h5 := HC4.out; omega
     case ec5 => have h5 := HSZ.out; simp; omega
     intro v' w2 hown1 hgrow1 _
     rw [HL2.out] at hown1
     have hgb : ∀ q, some q = Value.ownBlock (.slice pb c cb) → w1.heap.size ≤ q := fun q hq => (HOW.out.lt q hq.symm).1
     have hbl1 : Hid (Below w1.heap.size wy w2) := ((Below.refl w1.heap.size wy).alloc HSZ.out _).grown hgrow1 (by have h5 := HSZ.out; simp; omega) (fun q hq => (HOW.out.lt q hq).1)
     have hown2 : Hid (w2.ownsRow w1.heap.size 5 1 v' (c + 1) (bvl (lowd m (c + 1)))) := hown1
     have HWR2 : Hid (Wr w2 g t) := HWR.out.keep (hbl1.out.block g HG12.out.2)
     have HB2 : Hid (Below w0.heap.size w0 w2) := HBW.out.trans (hbl1.out.mono HB1.out.size)
     have HSZ2 : Hid (w1.heap.size ≤ w2.heap.size) := Nat.le_trans HSZ.out hbl1.out.size
     have HTx := k'7l g cap t w2 HWR2.out (by rw [HF3.out]; exact hcc.out) HC.out.2.2
     rw [HF3.out] at HTx
     have HTX := i' HTx
     clear hown1 hgrow1 HWR HOW HBW HSZ hgb hbl1 HTx
     go_wp2_with (go_at_call 95; (with_reducible refine HTX.out.mono ?_); rintro e w9 ⟨rfl, rfl⟩)
     go_roundw
     case rel => exact ⟨_, c + 1, (Nm.trimL t).length, Nm.trimL t, rfl, rfl, by have h5 := HTL.out; omega, rfl, HTR.out, by have h5 := HTL.out; have h6 := hnX.out; show _ ≤ _; omega, by have h5 := HC5.out; show _ ≤ _; omega, Or.inr ⟨g, rfl, HG12.out.1, HG12.out.2, HWR2.out.trim⟩, hown2, HT, HB2, HSZ2⟩
     case measure => have h5 := k'7v hown2.out; have h6 := HC5.out; have h7 : lenOf (.slice pb c cb) = c := rfl; simp [h5, h7]; omega
    ·obtain ⟨j, rfl⟩ : ∃ j, k = j + 1 := ⟨k - 1, by omega⟩
     have hjl : j < l.length := by have h5 : n = l.length := Hn.out; omega
     have hxd : l[j] < D9 := Nm.dig_get DL.out j hjl
     have hst := hinv.out.step hjl hxd
     have hlt2 : j < (l.take (j + 1) ++ t).length := by simp; omega
     obtain ⟨e1, e2⟩ := hwr.out j hlt2
     have hge : (l.take (j + 1) ++ t)[j] = l[j] := by rw [List.getElem_append_left (by simp; omega), List.getElem_take]
     rw [hge] at e1
     obtain ⟨q, hq⟩ : ∃ q, (r * 1000000000 + l[j]) / 256 = q := ⟨_, rfl⟩
     obtain ⟨r2, hr2⟩ : ∃ r2, (r * 1000000000 + l[j]) % 256 = r2 := ⟨_, rfl⟩
     rw [hq, hr2] at hst
     have hset := hwr.out.set j q
     rw [List.set_append_left _ _ (by simp; omega), List.take_succ_eq_append_getElem hjl, List.set_append_right _ _ (by simp; omega)] at hset
     have e5 : j - (l.take j).length = 0 := by simp; omega
     rw [e5, List.set_cons_zero, List.append_assoc] at hset
     have HW2 : Hid (Wr (wy.setCell ⟨g, j, none⟩ (.int .i64 (q : Int))) g (l.take j ++ q :: t)) := hset
     obtain ⟨x, hx⟩ : ∃ x : Int, (l[j] : Int) = x := ⟨_, rfl⟩
     obtain ⟨qi, hqi⟩ : ∃ qi : Int, (q : Int) = qi := ⟨_, rfl⟩
     obtain ⟨r2i, hr2i⟩ : ∃ r2i : Int, (r2 : Int) = r2i := ⟨_, rfl⟩
     have hx0 : 0 ≤ x := by omega
     have hx1 : x < 1000000000 := by unfold D9 at hxd; omega
     have hdiv : (ri * 1000000000 + x) / 256 = qi := by rw [← hri.out, ← hx, ← hqi, ← hq]; omega
     have hmod : (ri * 1000000000 + x) % 256 = r2i := by rw [← hri.out, ← hx, ← hr2i, ← hr2]; omega
     have hr20 : 0 ≤ r2i := by omega
     have hr21 : r2i < 256 := by omega
     rw [hx] at e1
     rw [hqi] at HW2
     have HO2 : Hid (Only g wz (wy.setCell ⟨g, j, none⟩ (.int .i64 qi))) := ho.out.setCell j _
     have HST := i' hst
     have HR2 : Hid ((r2 : Int) = r2i) := hr2i
     have e6 : ((j + 1 : Nat) : Int) - 1 = (j : Int) := by omega
     rw [e6]
     have hjn : j < n := by omega
     clear hjl hxd hst hlt2 hge hset hq hr2 hx hqi hr2i hinv hwr ho hri e5
     go_wp2
     go_roundw
     case rel => exact ⟨_, j, r2, r2i, q :: t, rfl, by omega, by go_num, by first | rfl | rw [hmod], hr20, hr21, HR2, HST.out, HW2.out, HO2.out⟩
     case measure => simp [intOf]
def dv : List UInt8 → Nat → Nat
 | [], a => a
 | x :: l, a => dv l (10 * a + (x.toNat - 48))
def decv (d : ByteArray) : Nat := dv d.data.toList 0
theorem k'81 {w : World} {B n g cap k : Nat} {l : List Nat} (h : w.ownsRow B 129 1 (.slice (some ⟨g, 0, none⟩) n cap) n (uv l)) (hk : k < l.length) :
 w.cell? ⟨g, k, none⟩ = some (.int .u64 (l[k] : Int)) ∧ w.frozen? ⟨g, k, none⟩ = false := by
 have h1 := h.cells (g := g) rfl k (.int .u64 (l[k] : Int)) (k'b l k hk)
 have hadd : ((⟨g, 0, none⟩ : Addr).add k) = ⟨g, k, none⟩ := by unfold Addr.add; split <;> simp_all
 rw [hadd] at h1
 refine ⟨h1, ?_⟩
 rcases h.2 with ⟨h2, _⟩ | ⟨g2, cap2, cur, h2, hB, hg, _⟩
 ·simp at h2
 ·have : g2 = g := by injection h2 with h3; injection h3 with h4; injection h4 with h5; exact h5.symm
  subst this
  exact frozen_of_row w g2 k _ _ hg
theorem Rd.of_own {w : World} {B : Nat} {v : Value} {l : List Nat} (h : w.ownsRow B 129 1 v l.length (uv l)) : Rd w v l := by
 rcases h.2 with ⟨rfl, h0⟩ | ⟨g, cap, cur, rfl, hB, hg, hn, hm, hs, ht⟩
 ·rw [List.eq_nil_of_length_eq_zero h0]; exact Rd.nil w
 ·refine ⟨some ⟨g, 0, none⟩, g, 0, cap, rfl, hn, hm, fun _ => rfl, Or.inr ⟨rfl, lt_of_block hg⟩, fun k hk => ?_⟩
  rw [Nat.zero_add]
  exact (k'81 h hk).1
def FdInv (X : List Nat) (y c0 k cn : Nat) (s : List Nat) : Prop :=
 s.length = k ∧ Nm.Dig W s ∧ cn < W ∧ Nm.val W s + W ^ k * cn = y * Nm.val W (X.take k) + c0
theorem FdInv.start {X : List Nat} {y c0 : Nat} (h : c0 < W) : FdInv X y c0 0 c0 [] := ⟨rfl, Nm.dig_nil W, h, by simp [Nm.val]⟩
theorem FdInv.step {X s : List Nat} {y c0 k cn : Nat} (h : FdInv X y c0 k cn s) (hk : k < X.length) (dx : X[k] < W) (dy : y < W) : FdInv X y c0 (k + 1) (mh X[k] y cn) (s ++ [ml X[k] y cn]) := by
 obtain ⟨h1, h2, h3, h4⟩ := h
 refine ⟨by simp [h1], Nm.dig_append.2 ⟨h2, Nm.dig_cons.2 ⟨ml_lt _ _ _, Nm.dig_nil W⟩⟩, mh_lt _ _ _ dx dy h3, ?_⟩
 rw [Nm.val_snoc, h1, Nm.val_take_succ W X k hk, Nat.pow_succ]
 have e1 := mlh X[k] y cn
 generalize mh X[k] y cn = p at *
 generalize ml X[k] y cn = q at *
 generalize W ^ k = P at *
 have e4 : P * (q + W * p) = P * (X[k] * y + cn) := by rw [e1]
 grind
theorem FdInv.finish {V y c0 cn : Nat} {s : List Nat} (h : FdInv (Nm.dg W V) y c0 (Nm.dg W V).length cn s) (hy : 0 < y) :
 (cn = 0 → s = Nm.dg W (y * V + c0)) ∧ (0 < cn → s ++ [cn] = Nm.dg W (y * V + c0)) := by
 obtain ⟨h1, h2, h3, h4⟩ := h
 rw [List.take_length, Nm.val_dg W2] at h4
 constructor
 ·intro h0
  subst h0
  rw [Nat.mul_zero, Nat.add_zero] at h4
  rw [← h4]
  refine Nm.eq_dg W2 h2 ?_
  cases hs : s with
  | nil => trivial
  | cons z zs =>
   rw [← hs]
   refine Nm.nrm_of_val h2 ?_
   rw [h4, h1]
   have hne : Nm.dg W V ≠ [] := by intro e; rw [e, hs] at h1; simp at h1
   have h6 := Nm.val_pos (B := W) (Nm.nrm_dg W2 V) hne
   rw [Nm.val_dg W2] at h6
   have h7 : 1 * V ≤ y * V := Nat.mul_le_mul_right _ hy
   omega
 ·intro h0
  have e : Nm.val W (s ++ [cn]) = y * V + c0 := by rw [Nm.val_snoc, h1, h4]
  rw [← e]
  exact Nm.eq_dg W2 (Nm.dig_append.2 ⟨h2, Nm.dig_cons.2 ⟨h3, Nm.dig_nil W⟩⟩) (Nm.nrm_snoc _ _ (by omega))
theorem AllD.drop {d : ByteArray} (h : AllD d) (k : Nat) (hk : k ≤ d.size) : AllD (d.extract k d.size) := by
 intro j hj
 have h1 : k + j < d.size := by simp at hj; omega
 have e : (d.extract k d.size)[j] = d[k + j] := by
  simp only [ByteArray.getElem_eq_getElem_data, ByteArray.data_extract, Array.getElem_extract]
 rw [e]
 exact h _ h1
theorem AllD.list {d : ByteArray} (h : AllD d) : ∀ x ∈ d.data.toList, x.toNat ≤ 57 := by
 intro x hx
 obtain ⟨k, hk, rfl⟩ := List.mem_iff_getElem.1 hx
 exact (h k hk).2
def szOf : Value → Nat
 | .string s => s.size
 | _ => 0
end Go.Proofs.YtepddegphdlbeaaGreat
