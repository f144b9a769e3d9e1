/- What the theorem leans on, part 6: Quo2, RefFrom, RefPow, RefQuo1, RefQuo2, RefQuo3, RefQuo4, RefQuo. -/
import Derived.Test.YtlmklhffafcmmaaGreatV5
import Derived.Deep.DeepCutAuto
import Derived.Deep.RegionHeld3
import Derived.Test.YtlmklhffafcmmaaGreatV4

/- The function wide.Quo, out of the division of magnitudes. -/
namespace Go.Proofs.YtlmklhffafcmmaaGreat
open Go.RowKit

theorem eq1_le {a : Bool} {m n : Nat} (h0 : 0 < n) : eq1 a m n ≤ m := by
  unfold eq1
  split
  · next h =>
    have h1 := Nat.div_add_mod m n
    have h2 := Nat.mod_lt m h0
    have h3 : 2 ≤ n := by omega
    have h4 : 2 * (m / n) ≤ n * (m / n) := Nat.mul_le_mul_right _ h3
    omega
  · exact Nat.div_le_self _ _
theorem er1_lt {a : Bool} {m n : Nat} (h0 : 0 < n) : er1 a m n < n := by
  have h2 := Nat.mod_lt m h0
  unfold er1
  split <;> omega

def ZC (x y : Value) (w : World) (g : Nat) : Prop := w.cell? ⟨g, 0, none⟩ = some x ∧ w.cell? ⟨g, 1, none⟩ = some y ∧ w.frozen? ⟨g, 0, none⟩ = false ∧ w.frozen? ⟨g, 1, none⟩ = false
theorem ZC.next {x y : Value} {w2 w3 : World} {g : Nat} (h : ZC x y w2 g) (b : Below w2.heap.size w2 w3) : ZC x y w3 g := ⟨keep1 b h.1, keep1 b h.2.1, keepf b h.1 h.2.2.1, keepf b h.2.1 h.2.2.2⟩
theorem ZC.made {x y : Value} {w2 w3 : World} {t : TypeId} {g : Nat} (hg : w2.heap.size = g) (b3 : Below (w2.alloc (.cells #[x, y] t)).heap.size (w2.alloc (.cells #[x, y] t)) w3) : ZC x y w3 g := by
  subst hg
  exact ⟨keep1 b3 (by simp [go_sem]), keep1 b3 (by simp [go_sem]), keepf b3 (v := x) (by simp [go_sem]) (by simp [go_sem]), keepf b3 (v := y) (by simp [go_sem]) (by simp [go_sem])⟩
theorem ZC.made1 {x y : Value} {w2 w3 : World} {t : TypeId} {o : Obj} {g : Nat} (hg : w2.heap.size = g) (b3 : Below ((w2.alloc (.cells #[x, y] t)).alloc o).heap.size ((w2.alloc (.cells #[x, y] t)).alloc o) w3) : ZC x y w3 g :=
  ZC.made hg (((Below.refl _ _).alloc (Nat.le_refl _) _).trans (b3.mono (by simp)))
theorem below_one (w : World) (o : Obj) : Below w.heap.size w (w.alloc o) := (Below.refl _ _).alloc (Nat.le_refl _) _
theorem below_two (w : World) (o o2 : Obj) : Below w.heap.size w ((w.alloc o).alloc o2) := ((Below.refl _ _).alloc (Nat.le_refl _) _).alloc (by simp) _
theorem far8 {a x : Nat} (h : a + 4 ≤ x) : ¬(x = a) ∧ ¬(x = a+1) ∧ ¬(a = x) ∧ ¬(a+1 = x) ∧ ¬(x+1 = a) ∧ ¬(a = x+1) ∧ a < x ∧ a+1 < x := ⟨by omega, by omega, by omega, by omega, by omega, by omega, by omega, by omega⟩
def Apart (x y : Nat) : Prop := ¬(x = y) ∧ ¬(y = x) ∧ x < y
theorem apart_b {w2 w3 : World} {o : Obj} {g : Nat} (hg : w2.heap.size = g) (b : Below (w2.alloc o).heap.size (w2.alloc o) w3) : Apart g w3.heap.size := by
  have := b.size
  simp at this
  subst hg
  exact ⟨by omega, by omega, by omega⟩
theorem apart_b2 {w2 w3 : World} {o o2 : Obj} {g : Nat} (hg : w2.heap.size = g) (b : Below ((w2.alloc o).alloc o2).heap.size ((w2.alloc o).alloc o2) w3) : Apart g w3.heap.size ∧ Apart (g + 1) w3.heap.size := by
  have := b.size
  simp at this
  subst hg
  exact ⟨⟨by omega, by omega, by omega⟩, ⟨by omega, by omega, by omega⟩⟩
theorem apart_t {x y z : Nat} (h : Apart x y) (b : y ≤ z) : Apart x z := by
  obtain ⟨h1, h2, h3⟩ := h
  exact ⟨by omega, by omega, by omega⟩
theorem undrew {w w' : World} (b : Below w.drew.heap.size w.drew w') : Below w.heap.size w w' := ⟨b.os, b.tape, b.output, b.size, b.block⟩
theorem Rd.alloc {w : World} {v : Value} {xs : List Nat} (h : Rd w v xs) (o : Obj) : Rd (w.alloc o) v xs := h.below (below_one w o) (Nat.le_refl _)
theorem ZC.new {x y : Value} {w : World} {t : TypeId} {g : Nat} (hg : g = w.heap.size) : ZC x y (w.alloc (.cells #[x, y] t)) g := ZC.made hg.symm (Below.refl _ _)
theorem ZC.alloc {x y : Value} {w : World} {g : Nat} (h : ZC x y w g) (o : Obj) : ZC x y (w.alloc o) g := h.next (below_one w o)
theorem ZC.set {x y x0 y0 : Value} {w : World} {g : Nat} (h : ZC x0 y0 w g) : ZC x y ((w.setCell ⟨g, 0, none⟩ x).setCell ⟨g, 1, none⟩ y) g := by
  obtain ⟨h1, h2, h3, h4⟩ := h
  refine ⟨?_, ?_, ?_, ?_⟩ <;> simp [go_sem, h1, h2, h3, h4]
theorem ZC.other {x y u v : Value} {w : World} {g g2 : Nat} (h : ZC x y w g) (hn : ¬ g = g2) : ZC x y ((w.setCell ⟨g2, 0, none⟩ u).setCell ⟨g2, 1, none⟩ v) g := by
  obtain ⟨h1, h2, h3, h4⟩ := h
  have hn2 : ¬ g2 = g := fun e => hn e.symm
  refine ⟨?_, ?_, ?_, ?_⟩ <;> simp [go_sem, h1, h2, h3, h4, hn, hn2]
theorem Rd.set {w : World} {p : Addr} {u old v : Value} {xs : List Nat} (h : Rd w v xs) (hp : w.cell? p = some old) (hno : ∀ n, old ≠ .int .u64 n) : Rd (w.setCell p u) v xs := by
  obtain ⟨q, b, off, cap, h1, h2, h3, h4, h5, h6⟩ := h
  refine ⟨q, b, off, cap, h1, h2, h3, h4, h5.imp id (fun g => ⟨g.1, by simpa [World.setCell] using g.2⟩), fun k hk => ?_⟩
  rw [World.cell?_setCell_other]
  · exact h6 k hk
  · intro e
    subst e
    rw [h6 k hk] at hp
    exact hno _ (Option.some.inj hp).symm
theorem Rd.set2 {w : World} {v : Value} {xs : List Nat} {b0 : Bool} {p : Option Addr} {n c : Nat} {g : Nat} (h : Rd w v xs) (z : ZC (.bool b0) (.slice p n c) w g) (u u' : Value) : Rd ((w.setCell ⟨g, 0, none⟩ u).setCell ⟨g, 1, none⟩ u') v xs :=
  (h.set z.1 (fun _ => by simp)).set (old := .slice p n c) ((World.cell?_setCell_other w ⟨g, 0, none⟩ ⟨g, 1, none⟩ u (by simp)).trans z.2.1) (fun _ => by simp)
theorem below_set2 {B : Nat} {a w : World} {g : Nat} (h : Below B a w) (hg : B ≤ g) (u u' : Value) : Below B a ((w.setCell ⟨g, 0, none⟩ u).setCell ⟨g, 1, none⟩ u') :=
  (h.setCell (p := ⟨g, 0, none⟩) hg _).setCell (p := ⟨g, 1, none⟩) hg _
def CutR (x1 x2 s1 s2 : Value) (X1 X2 : List Nat) (B : Nat) (wb wx : World) (g7 g8 : Nat) : Prop := (B ≤ g7 ∧ B ≤ g8) ∧ ZC x1 s1 wx g7 ∧ ZC x2 s2 wx g8 ∧ Rd wx s1 X1 ∧ Rd wx s2 X2 ∧ Below B wb wx
section
variable {x1 x2 e1 e2 u1 u2 : Value} {X1 X2 : List Nat} {B : Nat} {wb w3 : World} {t : TypeId} {b0 b1 : Bool} {p p' : Option Addr} {n c n' c' g g' : Nat}
theorem CutR.s1 (r1 : Rd w3 e1 X1) (r2 : Rd w3 e2 X2) (b : Below B wb w3) (hB : B ≤ w3.heap.size) : CutR x1 x2 e1 e2 X1 X2 B wb ((w3.alloc (.cells #[x1, e1] t)).alloc (.cells #[x2, e2] t)) w3.heap.size (w3.heap.size + 1) :=
  ⟨⟨hB, by omega⟩, (ZC.new rfl).alloc _, ZC.new (by simp), (r1.alloc _).alloc _, (r2.alloc _).alloc _, (b.alloc hB _).alloc (by simp; omega) _⟩
theorem CutR.s2 (r1 : Rd w3 e1 X1) (r2 : Rd w3 e2 X2) (b : Below B wb w3) (hB : B ≤ w3.heap.size) : CutR x1 x2 e1 e2 X1 X2 B wb ((w3.alloc (.cells #[x2, e2] t)).alloc (.cells #[x1, e1] t)) (w3.heap.size + 1) w3.heap.size :=
  ⟨⟨by omega, hB⟩, ZC.new (by simp), (ZC.new rfl).alloc _, (r1.alloc _).alloc _, (r2.alloc _).alloc _, (b.alloc hB _).alloc (by simp; omega) _⟩
theorem CutR.s3 (z : ZC (.bool b0) (.slice p n c) w3 g) (hg : B ≤ g) (r1 : Rd w3 e1 X1) (r2 : Rd w3 e2 X2) (b : Below B wb w3) (hB : B ≤ w3.heap.size) :
    CutR x1 x2 e1 e2 X1 X2 B wb (((w3.setCell ⟨g, 0, none⟩ x1).setCell ⟨g, 1, none⟩ e1).alloc (.cells #[x2, e2] t)) g w3.heap.size :=
  ⟨⟨hg, hB⟩, z.set.alloc _, ZC.new (by simp), (r1.set2 z _ _).alloc _, (r2.set2 z _ _).alloc _, (below_set2 b hg _ _).alloc (by simpa using hB) _⟩
theorem CutR.s4 (z : ZC (.bool b0) (.slice p n c) w3 g) (hg : B ≤ g) (r1 : Rd w3 e1 X1) (r2 : Rd w3 e2 X2) (b : Below B wb w3) (hB : B ≤ w3.heap.size) :
    CutR x1 x2 e1 e2 X1 X2 B wb (((w3.setCell ⟨g, 0, none⟩ x2).setCell ⟨g, 1, none⟩ e2).alloc (.cells #[x1, e1] t)) w3.heap.size g :=
  ⟨⟨hB, hg⟩, ZC.new (by simp), z.set.alloc _, (r1.set2 z _ _).alloc _, (r2.set2 z _ _).alloc _, (below_set2 b hg _ _).alloc (by simpa using hB) _⟩
theorem CutR.s5 (z : ZC (.bool b0) (.slice p n c) w3 g) (hg : B ≤ g) (z' : ZC (.bool b1) (.slice p' n' c') w3 g') (hg' : B ≤ g') (hn : ¬ g = g') (r1 : Rd w3 e1 X1) (r2 : Rd w3 e2 X2) (b : Below B wb w3) :
    CutR x1 x2 e1 e2 X1 X2 B wb ((((w3.setCell ⟨g, 0, none⟩ x1).setCell ⟨g, 1, none⟩ e1).setCell ⟨g', 0, none⟩ x2).setCell ⟨g', 1, none⟩ e2) g g' :=
  have zz := z'.other (u := x1) (v := e1) (fun e => hn e.symm)
  ⟨⟨hg, hg'⟩, z.set.other hn, zz.set, (r1.set2 z _ _).set2 zz _ _, (r2.set2 z _ _).set2 zz _ _, below_set2 (below_set2 b hg _ _) hg' _ _⟩
end

def Q3Post (q r : Value) (c : Int) (w : World) (e : Ending) (w' : World) : Prop := e = .returned (.tuple #[q, r, .int .i64 c]) ∧ Below w.heap.size w w'

set_option maxRecDepth 100000 in
set_option maxHeartbeats 2000000 in
theorem Quo_valid (a b : Bool) (s t : ByteArray) (w : World) (hd : DivOK (bv s) (bv t)) (hv1 : vld a s = true) (hv2 : vld b t = true) (h0 : 0 < bv t) :
    Calls Tryz.prog 53 #[.agg #[.bool a, .string s], .agg #[.bool b, .string t]] w (Q3Post (wd (a != b) (eq1 a (bv s) (bv t))) (wd false (er1 a (bv s) (bv t))) 0 w) := by
  have z1 := vld_size hv1
  have z2 := vld_size hv2
  have HV1 := Valid_any a s
  have HV2 := Valid_any b t
  rw [hv1] at HV1
  rw [hv2] at HV2
  have HA := Lib.hid (fun w => HV1 w (by omega))
  have HB := Lib.hid (fun w => HV2 w (by omega))
  have HR1 := Lib.hid (fun w => read_any a s w (by omega) (vld_can hv1))
  have HR2 := Lib.hid (fun w => read_any b t w (by omega) (vld_can hv2))
  have t1 := bv_lt hv1
  have t2 := bv_lt hv2
  have HP := Lib.hid (fun v1 v2 w h1 h2 => quotient_any a b v1 v2 (bv s) (bv t) w hd h0 h1 h2 (Nat.le_trans (len_top t1) (by decide)) (Nat.le_trans (len_top t2) (by decide)))
  have tq : eq1 a (bv s) (bv t) < Top := Nat.lt_of_le_of_lt (eq1_le h0) t1
  have tr : er1 a (bv s) (bv t) < Top := Nat.lt_trans (er1_lt h0) t2
  have HW1 := Lib.hid (fun v w h => write_any (a != b) v (eq1 a (bv s) (bv t)) w h (Nat.le_trans (len_top tq) (by decide)))
  have HW2 := Lib.hid (fun v w h => write_any false v (er1 a (bv s) (bv t)) w h (Nat.le_trans (len_top tr) (by decide)))
  rw [wres_ok _ tq, werr_ok tq] at HW1
  rw [wres_ok _ tr, werr_ok tr] at HW2
  have ht0 : 0 < t.size := by
    rcases Nat.eq_zero_or_pos t.size with h | h
    · rw [empty_of h] at h0; exact absurd h0 (by decide)
    · exact h
  have he := nonempty_str t ht0
  have he2 : (t.toList == []) = false := by
    cases hd : t.toList with
    | nil => rw [hd] at he; simp at he
    | cons x l => rfl
  obtain ⟨qb, qs, hq⟩ : ∃ x y, wd (a != b) (eq1 a (bv s) (bv t)) = .agg #[.bool x, .string y] := ⟨_, _, rfl⟩
  obtain ⟨rb, rs, hr⟩ : ∃ x y, wd false (er1 a (bv s) (bv t)) = .agg #[.bool x, .string y] := ⟨_, _, rfl⟩
  rw [hq] at HW1 ⊢
  rw [hr] at HW2 ⊢
  clear hq hr HV1 HV2 hv1 hv2 t1 t2 tq tr hd h0 ht0
  generalize eq1 a (bv s) (bv t) = qm at *
  generalize er1 a (bv s) (bv t) = rm at *
  generalize bv s = m at *
  generalize bv t = n at *
  generalize (a != b) = ab at *
  obtain ⟨w0, hw0⟩ : ∃ w0 : World, w0 = (((w.alloc (.cells #[.bool a, .string s] 23)).alloc (.cells #[.bool b, .string t] 23)).alloc (.cells #[.bool false, .string ⟨#[]⟩] 23)).alloc (.cells #[.bool false, .string ⟨#[]⟩] 23) := ⟨_, rfl⟩
  have hb0 : Hid (Below w.heap.size w w0) := by rw [hw0]; exact ((((Below.refl _ _).alloc (Nat.le_refl _) _).alloc (by simp) _).alloc (by simp; omega) _).alloc (by simp; omega) _
  have k0 : w0.cell? ⟨w.heap.size, 0, none⟩ = some (.bool a) := by rw [hw0]; simp [go_sem]
  have k1 : w0.cell? ⟨w.heap.size, 1, none⟩ = some (.string s) := by rw [hw0]; simp [go_sem]
  have k2 : w0.cell? ⟨w.heap.size + 1, 0, none⟩ = some (.bool b) := by rw [hw0]; simp [go_sem]
  have k3 : w0.cell? ⟨w.heap.size + 1, 1, none⟩ = some (.string t) := by rw [hw0]; simp [go_sem]
  have k4 : w0.cell? ⟨w.heap.size + 1 + 1, 0, none⟩ = some (.bool false) := by rw [hw0]; simp [go_sem]
  have k5 : w0.cell? ⟨w.heap.size + 1 + 1, 1, none⟩ = some (.string ⟨#[]⟩) := by rw [hw0]; simp [go_sem]
  have k6 : w0.frozen? ⟨w.heap.size + 1 + 1, 0, none⟩ = false := by rw [hw0]; simp [go_sem]
  have k7 : w0.frozen? ⟨w.heap.size + 1 + 1, 1, none⟩ = false := by rw [hw0]; simp [go_sem]
  have k8 : w0.cell? ⟨w.heap.size + 1 + 1 + 1, 0, none⟩ = some (.bool false) := by rw [hw0]; simp [go_sem]
  have k9 : w0.cell? ⟨w.heap.size + 1 + 1 + 1, 1, none⟩ = some (.string ⟨#[]⟩) := by rw [hw0]; simp [go_sem]
  have k10 : w0.frozen? ⟨w.heap.size + 1 + 1 + 1, 0, none⟩ = false := by rw [hw0]; simp [go_sem]
  have k11 : w0.frozen? ⟨w.heap.size + 1 + 1 + 1, 1, none⟩ = false := by rw [hw0]; simp [go_sem]
  have hsz : w.heap.size + 4 ≤ w0.heap.size := by rw [hw0]; simp
  have KK := Lib.hid (And.intro k0 (And.intro k1 (And.intro k2 k3)))
  have KQ := Lib.hid (And.intro k4 (And.intro k5 (And.intro k6 k7)))
  have KR := Lib.hid (And.intro k8 (And.intro k9 (And.intro k10 k11)))
  have Hsz := Lib.hid hsz
  have Hw0 := Lib.hid hw0
  clear k0 k1 k2 k3 k4 k5 k6 k7 k8 k9 k10 k11 hw0 hsz
  go_enter Tryz.func53, Tryz.ntmps53
  go_wp2_with fail
  rw [← Hw0.out]
  refine (HA.out _).mono ?_
  rintro e wa ⟨rfl, hba⟩
  have q2 := keep1 hba KK.out.2.2.1
  have q3 := keep1 hba KK.out.2.2.2
  have HBa := Lib.hid hba
  clear hba
  go_wp2_with fail
  refine (HB.out _).mono ?_
  rintro e wb ⟨rfl, hbb⟩
  have hbc := chain HBa.out hbb
  have k0 := keep1 hbc KK.out.1
  have k1 := keep1 hbc KK.out.2.1
  have k2 := keep1 hbc KK.out.2.2.1
  have k3 := keep1 hbc KK.out.2.2.2
  have HBc := Lib.hid hbc
  clear q2 q3 hbb hbc
  have HSB : Hid (w.heap.size + 4 ≤ wb.heap.size) := Nat.le_trans Hsz.out HBc.out.size
  go_upto_region 5 with (fail)
  obtain ⟨jba, jbb, jbc, jbd, jbe, jbf, jbg, jbh⟩ := far8 HSB.out
  go_cut [7, 8] (fun s7 s8 wx => ∃ (g7 g8 : Nat) (y1 y2 : Option Addr) (n1 c1 n2 c2 : Nat), s7 = .pointer (some ⟨g7, 0, none⟩) ∧ s8 = .pointer (some ⟨g8, 0, none⟩) ∧ Hid (CutR (.bool ab) (.bool false) (.slice y1 n1 c1) (.slice y2 n2 c2) (Nm.dg W qm) (Nm.dg W rm) wb.heap.size wb wx g7 g8))
  case first =>
    rename_i J0 K0 hRJ hMK
    go_region_held3 (fun W' => W'.cell? ⟨w.heap.size, 0, none⟩ = some (.bool a) ∧ W'.cell? ⟨w.heap.size, 1, none⟩ = some (.string s) ∧ W'.cell? ⟨w.heap.size + 1, 0, none⟩ = some (.bool b) ∧ W'.cell? ⟨w.heap.size + 1, 1, none⟩ = some (.string t)) (go_keep)
      (first
        | (go_at_call 63; (with_reducible refine (HR1.out _).mono ?_); rintro e w1 ⟨v1, rfl, r1, b1⟩; (try (have b1 := undrew b1)); have d1 : Below wb.heap.size wb w1 := chain (by first | exact Below.refl _ _ | exact (Below.refl _ _).drew | exact below_one _ _ | exact below_two _ _ _ | exact ((Below.refl _ _).drew).alloc (Nat.le_refl _) _ | exact (((Below.refl _ _).drew).alloc (Nat.le_refl _) _).alloc (by simp) _) b1; have c1 : Below wb.heap.size wb w1 := d1; have p0 := keep1 c1 k0; have p1 := keep1 c1 k1; have p2 := keep1 c1 k2; have p3 := keep1 c1 k3; obtain ⟨j1a, j1b, j1c, j1d, j1e, j1f, j1g, j1h⟩ := far8 (show w.heap.size + 4 ≤ w1.heap.size from Nat.le_trans HSB.out c1.size); (try (have A0 := Lib.hid (ZC.made (g := wb.heap.size) rfl b1); obtain ⟨A0a, A0b, A0c, A0d⟩ := A0.out)); (try (have A0 := Lib.hid (ZC.made1 (g := wb.heap.size) rfl b1); have B0 := Lib.hid (ZC.made (g := wb.heap.size + 1) (by simp) b1); obtain ⟨A0a, A0b, A0c, A0d⟩ := A0.out; obtain ⟨B0a, B0b, B0c, B0d⟩ := B0.out)); (try (have L01 := Lib.hid (apart_b (g := wb.heap.size) rfl b1); obtain ⟨l01x, l01y, l01z⟩ := L01.out)); (try (have MM := Lib.hid (apart_b2 (g := wb.heap.size) rfl b1); have L01 := Lib.hid MM.out.1; have M01 := Lib.hid MM.out.2; clear MM; obtain ⟨l01x, l01y, l01z⟩ := L01.out; obtain ⟨m01x, m01y, m01z⟩ := M01.out)); have G1 := Lib.hid r1)
        | (go_at_call 63; (with_reducible refine (HR2.out _).mono ?_); rintro e w2 ⟨v2, rfl, r2, b2⟩; have d2 : Below w1.heap.size w1 w2 := chain (by first | exact Below.refl _ _ | exact (Below.refl _ _).drew | exact below_one _ _ | exact below_two _ _ _ | exact ((Below.refl _ _).drew).alloc (Nat.le_refl _) _ | exact (((Below.refl _ _).drew).alloc (Nat.le_refl _) _).alloc (by simp) _) b2; have c2 : Below wb.heap.size wb w2 := chain c1 d2; have p0 := keep1 c2 k0; have p1 := keep1 c2 k1; have p2 := keep1 c2 k2; have p3 := keep1 c2 k3; obtain ⟨j2a, j2b, j2c, j2d, j2e, j2f, j2g, j2h⟩ := far8 (show w.heap.size + 4 ≤ w2.heap.size from Nat.le_trans HSB.out c2.size); (try (have A1 := Lib.hid (ZC.made (g := w1.heap.size) rfl b2); obtain ⟨A1a, A1b, A1c, A1d⟩ := A1.out)); (try (have A1 := Lib.hid (ZC.made1 (g := w1.heap.size) rfl b2); have B1 := Lib.hid (ZC.made (g := w1.heap.size + 1) (by simp) b2); obtain ⟨A1a, A1b, A1c, A1d⟩ := A1.out; obtain ⟨B1a, B1b, B1c, B1d⟩ := B1.out)); (try (have A0 := Lib.hid (A0.out.next d2); obtain ⟨A0a, A0b, A0c, A0d⟩ := A0.out)); (try (have B0 := Lib.hid (B0.out.next d2); obtain ⟨B0a, B0b, B0c, B0d⟩ := B0.out)); (try (have L02 := Lib.hid (apart_t L01.out d2.size); obtain ⟨l02x, l02y, l02z⟩ := L02.out)); (try (have M02 := Lib.hid (apart_t M01.out d2.size); obtain ⟨m02x, m02y, m02z⟩ := M02.out)); (try (have L12 := Lib.hid (apart_b (g := w1.heap.size) rfl b2); obtain ⟨l12x, l12y, l12z⟩ := L12.out)); (try (have MM := Lib.hid (apart_b2 (g := w1.heap.size) rfl b2); have L12 := Lib.hid MM.out.1; have M12 := Lib.hid MM.out.2; clear MM; obtain ⟨l12x, l12y, l12z⟩ := L12.out; obtain ⟨m12x, m12y, m12z⟩ := M12.out)); have G2 := Lib.hid (And.intro (G1.out.below d2 (Nat.le_refl _)) r2))
        | (go_at_call 117; (with_reducible refine (HP.out _ _ _ (by first | exact G2.out.1 | exact G2.out.1.alloc _ | exact (G2.out.1.alloc _).alloc _) (by first | exact G2.out.2 | exact G2.out.2.alloc _ | exact (G2.out.2.alloc _).alloc _)).mono ?_); rintro e w3 ⟨p1x, n1x, c1x, p2x, n2x, c2x, rfl, r3, r4, b3⟩; have d3 : Below w2.heap.size w2 w3 := chain (by first | exact Below.refl _ _ | exact (Below.refl _ _).drew | exact below_one _ _ | exact below_two _ _ _ | exact ((Below.refl _ _).drew).alloc (Nat.le_refl _) _ | exact (((Below.refl _ _).drew).alloc (Nat.le_refl _) _).alloc (by simp) _) b3; have c3 : Below wb.heap.size wb w3 := chain c2 d3; have p0 := keep1 c3 k0; have p1 := keep1 c3 k1; have p2 := keep1 c3 k2; have p3 := keep1 c3 k3; obtain ⟨j3a, j3b, j3c, j3d, j3e, j3f, j3g, j3h⟩ := far8 (show w.heap.size + 4 ≤ w3.heap.size from Nat.le_trans HSB.out c3.size); (try (have A2 := Lib.hid (ZC.made (g := w2.heap.size) rfl b3); obtain ⟨A2a, A2b, A2c, A2d⟩ := A2.out)); (try (have A2 := Lib.hid (ZC.made1 (g := w2.heap.size) rfl b3); have B2 := Lib.hid (ZC.made (g := w2.heap.size + 1) (by simp) b3); obtain ⟨A2a, A2b, A2c, A2d⟩ := A2.out; obtain ⟨B2a, B2b, B2c, B2d⟩ := B2.out)); (try (have A0 := Lib.hid (A0.out.next d3); obtain ⟨A0a, A0b, A0c, A0d⟩ := A0.out)); (try (have B0 := Lib.hid (B0.out.next d3); obtain ⟨B0a, B0b, B0c, B0d⟩ := B0.out)); (try (have A1 := Lib.hid (A1.out.next d3); obtain ⟨A1a, A1b, A1c, A1d⟩ := A1.out)); (try (have B1 := Lib.hid (B1.out.next d3); obtain ⟨B1a, B1b, B1c, B1d⟩ := B1.out)); (try (have L03 := Lib.hid (apart_t L02.out d3.size); obtain ⟨l03x, l03y, l03z⟩ := L03.out)); (try (have M03 := Lib.hid (apart_t M02.out d3.size); obtain ⟨m03x, m03y, m03z⟩ := M03.out)); (try (have L13 := Lib.hid (apart_t L12.out d3.size); obtain ⟨l13x, l13y, l13z⟩ := L13.out)); (try (have M13 := Lib.hid (apart_t M12.out d3.size); obtain ⟨m13x, m13y, m13z⟩ := M13.out)); (try (have L23 := Lib.hid (apart_b (g := w2.heap.size) rfl b3); obtain ⟨l23x, l23y, l23z⟩ := L23.out)); (try (have MM := Lib.hid (apart_b2 (g := w2.heap.size) rfl b3); have L23 := Lib.hid MM.out.1; have M23 := Lib.hid MM.out.2; clear MM; obtain ⟨l23x, l23y, l23z⟩ := L23.out; obtain ⟨m23x, m23y, m23z⟩ := M23.out)); have G3 := Lib.hid (And.intro r3 (And.intro r4 c3)))
        | fail)
    all_goals
      obtain ⟨r1, r2, _⟩ := G3.out
      refine hMK _ _ (Met.intro (hRJ _ _ ?_))
      (repeat apply Exists.intro)
      refine ⟨?_, rfl⟩
      refine ⟨_, _, p1x, p2x, n1x, c1x, n2x, c2x, rfl, rfl, ?_⟩
      show CutR (.bool ab) (.bool false) (.slice p1x n1x c1x) (.slice p2x n2x c2x) (Nm.dg W qm) (Nm.dg W rm) wb.heap.size wb _ _ _
      have sA0 : wb.heap.size ≤ wb.heap.size := Nat.le_refl _
      have sB0 : wb.heap.size ≤ wb.heap.size + 1 := Nat.le_succ _
      have sA1 : wb.heap.size ≤ w1.heap.size := c1.size
      have sB1 : wb.heap.size ≤ w1.heap.size + 1 := Nat.le_succ_of_le sA1
      have sA2 : wb.heap.size ≤ w2.heap.size := c2.size
      have sB2 : wb.heap.size ≤ w2.heap.size + 1 := Nat.le_succ_of_le sA2
      have sA3 : wb.heap.size ≤ w3.heap.size := c3.size
      have n0 : ¬ wb.heap.size = wb.heap.size + 1 := Nat.ne_of_lt (Nat.lt_succ_self _)
      have n1 : ¬ w1.heap.size = w1.heap.size + 1 := Nat.ne_of_lt (Nat.lt_succ_self _)
      have n2 : ¬ w2.heap.size = w2.heap.size + 1 := Nat.ne_of_lt (Nat.lt_succ_self _)
      have m0 : ¬ wb.heap.size + 1 = wb.heap.size := fun e => n0 e.symm
      have m1 : ¬ w1.heap.size + 1 = w1.heap.size := fun e => n1 e.symm
      have m2 : ¬ w2.heap.size + 1 = w2.heap.size := fun e => n2 e.symm
      first
        | with_reducible exact CutR.s1 r1 r2 c3 sA3
        | with_reducible exact CutR.s2 r1 r2 c3 sA3
        | with_reducible exact CutR.s3 A0.out sA0 r1 r2 c3 sA3
        | with_reducible exact CutR.s4 A0.out sA0 r1 r2 c3 sA3
        | with_reducible exact CutR.s3 A1.out sA1 r1 r2 c3 sA3
        | with_reducible exact CutR.s4 A1.out sA1 r1 r2 c3 sA3
        | with_reducible exact CutR.s3 A2.out sA2 r1 r2 c3 sA3
        | with_reducible exact CutR.s4 A2.out sA2 r1 r2 c3 sA3
        | with_reducible exact CutR.s3 B0.out sB0 r1 r2 c3 sA3
        | with_reducible exact CutR.s4 B0.out sB0 r1 r2 c3 sA3
        | with_reducible exact CutR.s3 B1.out sB1 r1 r2 c3 sA3
        | with_reducible exact CutR.s4 B1.out sB1 r1 r2 c3 sA3
        | with_reducible exact CutR.s3 B2.out sB2 r1 r2 c3 sA3
        | with_reducible exact CutR.s4 B2.out sB2 r1 r2 c3 sA3
        | with_reducible exact CutR.s5 A0.out sA0 B0.out sB0 n0 r1 r2 c3
        | with_reducible exact CutR.s5 B0.out sB0 A0.out sA0 m0 r1 r2 c3
        | with_reducible exact CutR.s5 A0.out sA0 A1.out sA1 l01x r1 r2 c3
        | with_reducible exact CutR.s5 A1.out sA1 A0.out sA0 l01y r1 r2 c3
        | with_reducible exact CutR.s5 A0.out sA0 A2.out sA2 l02x r1 r2 c3
        | with_reducible exact CutR.s5 A2.out sA2 A0.out sA0 l02y r1 r2 c3
        | with_reducible exact CutR.s5 A1.out sA1 B1.out sB1 n1 r1 r2 c3
        | with_reducible exact CutR.s5 B1.out sB1 A1.out sA1 m1 r1 r2 c3
        | with_reducible exact CutR.s5 A1.out sA1 A2.out sA2 l12x r1 r2 c3
        | with_reducible exact CutR.s5 A2.out sA2 A1.out sA1 l12y r1 r2 c3
        | with_reducible exact CutR.s5 A2.out sA2 B2.out sB2 n2 r1 r2 c3
        | with_reducible exact CutR.s5 B2.out sB2 A2.out sA2 m2 r1 r2 c3
        | fail
  case rest =>
    obtain ⟨g7, g8, y1, y2, n1, c1, n2, c2, rfl, rfl, hcut⟩ := hcut
    obtain ⟨⟨hg7, hg8⟩, z7, z8, r1, r2, hbx⟩ := hcut.out
    have e1 : ¬ (g8 = w.heap.size + 1 + 1) := by have := HSB.out; omega
    have e2 : ¬ (w.heap.size + 1 + 1 = g8) := fun e => e1 e.symm
    have HR2 := Lib.hid r2
    have Z8 := Lib.hid z8
    have HBX : Hid (Below w0.heap.size w0 wc) := chain HBc.out hbx
    have HR1 := Lib.hid r1
    obtain ⟨a1, a2, a3, a4⟩ := z7
    clear hcut hg7 hg8 z8 r1 r2 hbx jba jbb jbc jbd jbe jbf jbg jbh k0 k1 k2 k3
    go_wp2_with fail
    refine (HW1.out _ _ HR1.out).mono ?_
    rintro e w5 ⟨rfl, b5⟩
    have c5 : Below w0.heap.size w0 w5 := chain HBX.out b5
    have q4 := keep1 c5 KQ.out.1
    have q5 := keep1 c5 KQ.out.2.1
    have q6 := keepf c5 KQ.out.1 KQ.out.2.2.1
    have q7 := keepf c5 KQ.out.2.1 KQ.out.2.2.2
    obtain ⟨d1, d2, d3, d4⟩ := Z8.out.next b5
    have r2 := HR2.out.below b5 (Nat.le_refl _)
    have p1 := keep1 c5 KR.out.1
    have p2 := keep1 c5 KR.out.2.1
    have p3 := keepf c5 KR.out.1 KR.out.2.2.1
    have p4 := keepf c5 KR.out.2.1 KR.out.2.2.2
    obtain ⟨w6, hw6⟩ : ∃ w6 : World, w6 = (w5.setCell ⟨w.heap.size + 1 + 1, 0, none⟩ (.bool qb)).setCell ⟨w.heap.size + 1 + 1, 1, none⟩ (.string qs) := ⟨_, rfl⟩
    have j1 : w6.cell? ⟨g8, 0, none⟩ = some (.bool false) := by rw [hw6]; simp [go_sem, d1, e1, e2]
    have j2 : w6.cell? ⟨g8, 1, none⟩ = some (.slice y2 n2 c2) := by rw [hw6]; simp [go_sem, d2, e1, e2]
    have j3 : w6.cell? ⟨w.heap.size + 1 + 1, 0, none⟩ = some (.bool qb) := by rw [hw6]; simp [go_sem, q4]
    have j4 : w6.cell? ⟨w.heap.size + 1 + 1, 1, none⟩ = some (.string qs) := by rw [hw6]; simp [go_sem, q5]
    have j5 : w6.frozen? ⟨w.heap.size + 1 + 1, 0, none⟩ = false := by rw [hw6]; simp [go_sem, q6]
    have j6 : w6.frozen? ⟨w.heap.size + 1 + 1, 1, none⟩ = false := by rw [hw6]; simp [go_sem, q7]
    have j7 : w6.cell? ⟨w.heap.size + 1 + 1 + 1, 0, none⟩ = some (.bool false) := by rw [hw6]; simp [go_sem, p1]
    have j8 : w6.cell? ⟨w.heap.size + 1 + 1 + 1, 1, none⟩ = some (.string ⟨#[]⟩) := by rw [hw6]; simp [go_sem, p2]
    have j9 : w6.frozen? ⟨w.heap.size + 1 + 1 + 1, 0, none⟩ = false := by rw [hw6]; simp [go_sem, p3]
    have j10 : w6.frozen? ⟨w.heap.size + 1 + 1 + 1, 1, none⟩ = false := by rw [hw6]; simp [go_sem, p4]
    have R6 : Hid (Rd w6 (.slice y2 n2 c2) (Nm.dg W rm)) := by rw [hw6]; exact (r2.set q4 (fun _ => by simp)).set (old := .string ⟨#[]⟩) ((World.cell?_setCell_other w5 ⟨w.heap.size + 1 + 1, 0, none⟩ ⟨w.heap.size + 1 + 1, 1, none⟩ _ (by simp)).trans q5) (fun _ => by simp)
    have L6 : Hid (Below w.heap.size w w6) := by rw [hw6]; exact below_set2 (chain hb0.out c5) (by omega) _ _
    have J6 := Lib.hid (And.intro j3 (And.intro j4 (And.intro j5 (And.intro j6 (And.intro j7 (And.intro j8 (And.intro j9 j10)))))))
    have Hw6 := Lib.hid hw6
    clear b5 c5 r2 p1 p2 p3 p4 hw6 j1 j2 j3 j4 j5 j6 j7 j8 j9 j10 a1 a2 a3 a4
    go_wp2_with fail
    rw [← Hw6.out]
    clear Hw6 q4 q5 q6 q7 e1 e2 d1 d2 d3 d4
    refine (HW2.out _ _ R6.out).mono ?_
    rintro e w7 ⟨rfl, b7⟩
    have q0 := keep1 b7 J6.out.1
    have q1 := keep1 b7 J6.out.2.1
    have q2 := keepf b7 J6.out.1 J6.out.2.2.1
    have q3 := keepf b7 J6.out.2.1 J6.out.2.2.2.1
    have q4 := keep1 b7 J6.out.2.2.2.2.1
    have q5 := keep1 b7 J6.out.2.2.2.2.2.1
    have q6 := keepf b7 J6.out.2.2.2.2.1 J6.out.2.2.2.2.2.2.1
    have q7 := keepf b7 J6.out.2.2.2.2.2.1 J6.out.2.2.2.2.2.2.2
    obtain ⟨w8, hw8⟩ : ∃ w8 : World, w8 = (w7.setCell ⟨w.heap.size + 1 + 1 + 1, 0, none⟩ (.bool rb)).setCell ⟨w.heap.size + 1 + 1 + 1, 1, none⟩ (.string rs) := ⟨_, rfl⟩
    have f0 : w8.cell? ⟨w.heap.size + 1 + 1, 0, none⟩ = some (.bool qb) := by rw [hw8]; simp [go_sem, q0]
    have f1 : w8.cell? ⟨w.heap.size + 1 + 1, 1, none⟩ = some (.string qs) := by rw [hw8]; simp [go_sem, q1]
    have f2 : w8.frozen? ⟨w.heap.size + 1 + 1, 0, none⟩ = false := by rw [hw8]; simp [go_sem, q2]
    have f3 : w8.frozen? ⟨w.heap.size + 1 + 1, 1, none⟩ = false := by rw [hw8]; simp [go_sem, q3]
    have f4 : w8.cell? ⟨w.heap.size + 1 + 1 + 1, 0, none⟩ = some (.bool rb) := by rw [hw8]; simp [go_sem, q4]
    have f5 : w8.cell? ⟨w.heap.size + 1 + 1 + 1, 1, none⟩ = some (.string rs) := by rw [hw8]; simp [go_sem, q5]
    have f6 : w8.frozen? ⟨w.heap.size + 1 + 1 + 1, 0, none⟩ = false := by rw [hw8]; simp [go_sem, q6]
    have f7 : w8.frozen? ⟨w.heap.size + 1 + 1 + 1, 1, none⟩ = false := by rw [hw8]; simp [go_sem, q7]
    have L8 : Hid (Below w.heap.size w w8) := by rw [hw8]; exact below_set2 (chain L6.out b7) (by omega) _ _
    have Hw8 := Lib.hid hw8
    clear b7 hw8
    go_wp2_with fail
    rw [← Hw8.out]
    clear Hw8 q0 q1 q2 q3 q4 q5 q6 q7
    have HZ := Lib.hid ((below_set2 (below_set2 L8.out (g := w.heap.size + 1 + 1) (by omega) (.bool qb) (.string qs)) (g := w.heap.size + 1 + 1 + 1) (by omega) (.bool rb) (.string rs)).drew)
    go_region
    go_wp2
    exact bodyPost_ret (v := .tuple #[.agg #[.bool qb, .string qs], .agg #[.bool rb, .string rs], .int .i64 0]) (by simp [results, Tryz.results53, go_sem, f0, f1, f4, f5]) rfl ⟨rfl, HZ.out⟩
end Go.Proofs.YtlmklhffafcmmaaGreat

/- The reference's From: the integer of a wide integer's bytes. -/
namespace Go.Proofs.YtlmklhffafcmmaaGreat
open Go.RowKit

theorem Ri.drew {w : World} {v : Value} {xs : List Nat} (h : Ri w v xs) : Ri w.drew v xs := h
theorem Ri.allocd {w : World} {v : Value} {xs : List Nat} (h : Ri w v xs) (o : Obj) : Ri (w.alloc o) v xs := h.below (below_one w o) (Nat.le_refl _)
theorem trim_one {x : Nat} (h : x < 256) : Nm.trimL [x] = Nm.dg D9 x := by
  have h1 : Nm.Dig D9 [x] := Nm.dig_cons.2 ⟨by unfold D9; omega, Nm.dig_nil _⟩
  rw [Nm.trimL_dg D92 h1]
  simp [Nm.val]
theorem dg9_256 {m k : Nat} (h : m < 256 ^ k) : (Nm.dg D9 m).length ≤ k := by
  refine Nm.len_le_of_val D92 (Nm.nrm_dg D92 m) ?_
  rw [Nm.val_dg D92]
  exact Nat.lt_of_lt_of_le h (Nat.pow_le_pow_left (by decide) k)
theorem wrap_byte {x : Nat} (h : x < 256) : IntKind.i64.wrap (x : Int) = (x : Int) := by
  unfold IntKind.wrap
  simp [IntKind.bits, IntKind.signed]
  omega
theorem hval_take {s : ByteArray} {k : Nat} (hk : k < s.size) : hval (s.data.toList.take (k + 1)) 0 = hval (s.data.toList.take k) 0 * 256 + s[k].toNat := by
  have h2 : k < s.data.toList.length := hk
  rw [List.take_succ_eq_append_getElem h2, hval_snoc]
  rfl
theorem hval_take_lt {s : ByteArray} {k : Nat} (hk : k ≤ s.size) : hval (s.data.toList.take k) 0 < 256 ^ k := by
  have h := hval_lt (s.data.toList.take k)
  have h2 : (s.data.toList.take k).length = k := by
    have : s.data.toList.length = s.size := rfl
    simp; omega
  rwa [h2] at h
theorem hval_all (s : ByteArray) : hval (s.data.toList.take s.size) 0 = bv s := by
  have h2 : s.data.toList.length = s.size := rfl
  rw [List.take_of_length_le (by omega), hval_eq, Nat.zero_mul, Nat.zero_add]; rfl

set_option maxRecDepth 100000 in
set_option maxHeartbeats 4000000 in
theorem rfrom_any (a : Bool) (s : ByteArray) (w : World) (hs : s.size ≤ 100000) : Calls Tryz.prog 18 #[.agg #[.bool a, .string s]] w (IntPost (sg a (bv s)) w) := by
  have HM := Lib.hid (fun v m w h => (rmade_any a v m w h).mono (made_int (z := sg a m) rfl))
  have HT := Lib.hid (fun v xs w h => rtrim_any v xs w h)
  obtain ⟨w0, hw0⟩ : ∃ w0 : World, w0 = (w.alloc (.cells #[.bool a, .string s] 23)).alloc (.cells #[.bool false, .slice none 0 0] 38) := ⟨_, rfl⟩
  have hb0 : Hid (Below w.heap.size w w0) := by rw [hw0]; exact ((Below.refl _ _).alloc (Nat.le_refl _) _).alloc (by simp) _
  have i1 : ZC (.bool a) (.string s) w0 w.heap.size := by rw [hw0]; exact (ZC.new rfl).alloc _
  have i2 : ZC (.bool false) (.slice none 0 0) w0 (w.heap.size + 1) := by rw [hw0]; exact ZC.new (by simp)
  have I1 := Lib.hid i1
  have I2 := Lib.hid i2
  have Hw0 := Lib.hid hw0
  clear i1 i2 hw0
  go_enter Tryz.func18, Tryz.ntmps18
  go_wp2_with fail
  rw [← Hw0.out]
  clear Hw0
  go_loopw [3, 4] (fun dv iv wr => ∃ (wz : World) (k : Nat), wz = wr ∧ k ≤ s.size ∧ iv = .int .i64 (k : Int) ∧ Hid (Ri wz dv (Nm.dg D9 (hval (s.data.toList.take k) 0))) ∧ Hid (Below w0.heap.size w0 wz))
    (fun _ iv _ => s.size - (intOf iv).toNat)
  case atStart => exact ⟨w0, 0, rfl, Nat.zero_le _, rfl, by rw [List.take_zero]; exact Ri.nil w0, Below.refl _ _⟩
  case round =>
    obtain ⟨wz, k, rfl, hk, rfl, hri, hbl⟩ := hrel
    by_cases hlt : k < s.size
    · have hmx := hval_take_lt (s := s) (k := k) hk
      have HS := Lib.hid (hval_take hlt)
      have hlm := Nat.le_trans (dg9_256 hmx) (by omega : k ≤ 1000000)
      obtain ⟨m, hm⟩ : ∃ m, hval (s.data.toList.take k) 0 = m := ⟨_, rfl⟩
      rw [hm] at hri HS hlm hmx
      obtain ⟨x, hx⟩ : ∃ x : Nat, s[k].toNat = x := ⟨_, rfl⟩
      have hx2 : x < 256 := by rw [← hx]; exact UInt8.toNat_lt _
      rw [hx] at HS
      have hlm2 : (Nm.dg D9 (m * 256)).length ≤ 1000000 := by
        refine Nat.le_trans (dg9_256 (k := k + 1) ?_) (by omega)
        rw [Nat.pow_succ]
        exact Nat.mul_lt_mul_of_pos_right hmx (by decide)
      have HSM : Hid (∀ v w', Ri w' v (Nm.dg D9 m) → Calls Tryz.prog 72 #[v, .int .i64 256] w' (GivesI (m * 256) w')) := fun v w' h => rsmall_any v m 256 w' (by decide) h hlm
      have HP : Hid (∀ v1 v2 w', Ri w' v1 (Nm.dg D9 (m * 256)) → Ri w' v2 (Nm.dg D9 x) → Calls Tryz.prog 71 #[v1, v2] w' (GivesI (m * 256 + x) w')) := fun v1 v2 w' h1 h2 => rplus_any v1 v2 (m * 256) x w' h1 h2 hlm2 (Nat.le_trans (dg9_256 (k := 1) hx2) (by decide))
      have HX := Lib.hid (trim_one hx2)
      have hRi := hri.out
      have hwr := wrap_byte hx2
      obtain ⟨k0, k1, _⟩ := I1.out.next hbl.out
      have k1b := k1
      have hxi : (s[k].toNat : Int) = (x : Int) := by rw [hx]
      have hsz : Hid (w.heap.size < wz.heap.size) := World.block_lt_of_cell? wz _ k0
      have hsz2 := hsz.out
      have hsz3 : ¬ wz.heap.size = w.heap.size := by omega
      have hsz4 : ¬ w.heap.size = wz.heap.size := by omega
      clear hm hmx hlm hlm2 k0
      go_wp2_with fail
      go_region_held3 (fun W' => W'.cell? ⟨w.heap.size, 1, none⟩ = some (.string s)) (go_keep)
        (first
          | (go_at_call 72; (with_reducible refine (HSM.out _ _ (by first | exact hRi | exact hRi.drew | exact hRi.allocd _ | exact (hRi.allocd _).drew | exact hRi.drew.allocd _)).mono ?_); rintro e w1 ⟨v1, rfl, r1, b1⟩; (try (have b1 := undrew b1)); have d1 : Below wz.heap.size wz w1 := chain (by first | exact Below.refl _ _ | exact (Below.refl _ _).drew | exact below_one _ _ | exact ((Below.refl _ _).drew).alloc (Nat.le_refl _) _) b1; have p1 := keep1 d1 k1b; (try (have X1 := Lib.hid ((Ri.one wz x).below b1 (Nat.le_refl _)))); have f1 : w.heap.size < w1.heap.size := Nat.lt_of_lt_of_le hsz.out d1.size; have f2 : ¬ w1.heap.size = w.heap.size := Nat.ne_of_gt f1; have f3 : ¬ w.heap.size = w1.heap.size := Nat.ne_of_lt f1; have G1 := Lib.hid r1)
          | (go_at_call 69; (with_reducible refine (HT.out _ [x] _ (by first | exact X1.out | exact Ri.one w1 x)).mono ?_); rintro e w2 ⟨v2, rfl, r2, rfl⟩; rw [HX.out] at r2; have G2 := Lib.hid r2)
          | (go_at_call 71; (with_reducible refine (HP.out _ _ _ (by first | exact G1.out | exact G1.out.allocd _) G2.out).mono ?_); rintro e w3 ⟨v3, rfl, r3, b3⟩; have d3 : Below wz.heap.size wz w3 := chain d1 (chain (by first | exact Below.refl _ _ | exact below_one _ _) b3); have p1 := keep1 d3 k1b; have G3 := Lib.hid r3; have D3 := Lib.hid d3)
          | fail)
      all_goals
        have C3 := Lib.hid (chain hbl.out D3.out)
        rw [← HS.out] at G3
        go_wp2
        go_roundw
        case rel => exact ⟨_, k + 1, rfl, by omega, by go_num, G3, C3⟩
        case measure => simp [intOf]; omega
    · obtain rfl : k = s.size := by omega
      have hRI := hri
      rw [hval_all] at hRI
      obtain ⟨k0, _⟩ := I1.out.next hbl.out
      clear hri
      go_wp2_with fail
      refine (HM.out _ _ _ hRI.out).mono ?_
      rintro e w4 ⟨v4, rfl, r4, b4⟩
      have c := chain hbl.out b4
      obtain ⟨m0, m1, m2, m3⟩ := I2.out.next c
      have HR := Lib.hid r4
      obtain ⟨p9, q9, o9, c9, rfl, hr9⟩ := r4
      unfold iV
      obtain ⟨zz, hzz⟩ : ∃ zz, decide (sg a (bv s) < 0) = zz := ⟨_, rfl⟩
      rw [hzz]
      have HZZ := Lib.hid hzz
      clear hzz
      have HZ := Lib.hid (below_set2 (chain hb0.out c) (g := w.heap.size + 1) (by omega) (.bool zz) (.slice p9 (Nm.dg D9 (sg a (bv s)).natAbs).length c9))
      have HR2 := Lib.hid (HR.out.set2 (u1 := .bool zz) (u2 := .slice p9 (Nm.dg D9 (sg a (bv s)).natAbs).length c9) m0 m1 (fun _ => by simp))
      clear b4 c hr9
      go_wp2
      exact bodyPost_ret (v := .agg #[.bool zz, .slice p9 (Nm.dg D9 (sg a (bv s)).natAbs).length c9]) (by simp [results, Tryz.results18, go_sem, m0, m1]) rfl ⟨_, by rw [iV, HZZ.out], HR2.out, HZ.out⟩
end Go.Proofs.YtlmklhffafcmmaaGreat

/- The reference's Power. -/
namespace Go.Proofs.YtlmklhffafcmmaaGreat
open Go.RowKit

/-- An integer that is not negative comes back. -/
def PPost (z : Int) (w : World) (e : Ending) (w' : World) : Prop := ∃ v, e = .returned (.agg #[.bool false, v]) ∧ Rz w' v z ∧ Below w.heap.size w w'
theorem iV_pos {z : Int} (h : 0 ≤ z) (v : Value) : iV z v = .agg #[.bool false, v] := by
  rw [iV, decide_eq_false (by omega)]
theorem rnum_pos (z : Int) (h0 : 0 ≤ z) (h2 : z ≤ 9223372036854775807) (w : World) : Calls Tryz.prog 16 #[.int .i64 z] w (PPost z w) :=
  (rnum_any z w (by omega) h2).mono fun _ _ ⟨v, h1, h3, h4⟩ => ⟨v, by rw [← iV_pos h0]; exact h1, h3, h4⟩
theorem rmul_pos (x y : Int) (hx : 0 ≤ x) (hy : 0 ≤ y) (v1 v2 : Value) (w : World) (h1 : Rz w v1 x) (h2 : Rz w v2 y) (l1 : (Nm.dg D9 x.natAbs).length ≤ 1000000) (l2 : (Nm.dg D9 y.natAbs).length ≤ 1000000) :
    Calls Tryz.prog 74 #[.agg #[.bool false, v1], .agg #[.bool false, v2]] w (PPost (x * y) w) := by
  have h := rmul_int x y v1 v2 w h1 h2 l1 l2
  rw [iV_pos hx, iV_pos hy] at h
  exact h.mono fun _ _ ⟨v, g1, g3, g4⟩ => ⟨v, by rw [← iV_pos (Int.mul_nonneg hx hy)]; exact g1, g3, g4⟩
theorem radd_pos (x y : Int) (hx : 0 ≤ x) (hy : 0 ≤ y) (v1 v2 : Value) (w : World) (h1 : Rz w v1 x) (h2 : Rz w v2 y) (l1 : (Nm.dg D9 x.natAbs).length ≤ 1000000) (l2 : (Nm.dg D9 y.natAbs).length ≤ 1000000) :
    Calls Tryz.prog 75 #[.agg #[.bool false, v1], .agg #[.bool false, v2]] w (PPost (x + y) w) := by
  have h := radd_int x y v1 v2 w h1 h2 l1 l2
  rw [iV_pos hx, iV_pos hy] at h
  exact h.mono fun _ _ ⟨v, g1, g3, g4⟩ => ⟨v, by rw [← iV_pos (Int.add_nonneg hx hy)]; exact g1, g3, g4⟩
theorem pow2_len {z : Int} {n k : Nat} (hz : z * 2 ^ k = 2 ^ n) (h0 : 0 < z) (hn : n ≤ 100000) : (Nm.dg D9 z.natAbs).length ≤ 1000000 := by
  have h1 : z ≤ 2 ^ n := by
    have hp : (1 : Int) ≤ 2 ^ k := by
      have : (0 : Int) < 2 ^ k := Int.pow_pos (by decide)
      omega
    have h2 : z * 1 ≤ z * 2 ^ k := Int.mul_le_mul_of_nonneg_left hp (by omega)
    rw [hz] at h2
    omega
  have h3 : z.natAbs ≤ 2 ^ n := by
    have h4 : ((z.natAbs : Nat) : Int) ≤ ((2 ^ n : Nat) : Int) := by
      rw [Int.natAbs_of_nonneg (by omega)]
      push_cast
      exact h1
    exact Int.ofNat_le.1 h4
  refine Nat.le_trans (Nm.len_le_of_val (k := n + 1) D92 (Nm.nrm_dg D92 _) ?_) (by omega)
  rw [Nm.val_dg D92]
  refine Nat.lt_of_le_of_lt h3 (Nat.lt_of_lt_of_le (Nat.pow_lt_pow_right (by decide : 1 < 2) (Nat.lt_succ_self n)) (Nat.pow_le_pow_left (by decide) _))
theorem ZC.lt {x y : Value} {w : World} {g : Nat} (h : ZC x y w g) : g < w.heap.size := World.block_lt_of_cell? w _ h.1

end Go.Proofs.YtlmklhffafcmmaaGreat

/- The reference's Quo: the Euclidean division of integers. -/
namespace Go.Proofs.YtlmklhffafcmmaaGreat
open Go.RowKit

/-- Two integers come back. -/
def QIPost (q r : Int) (w : World) (e : Ending) (w' : World) : Prop := ∃ v1 v2, e = .returned (.tuple #[iV q v1, iV r v2]) ∧ Rz w' v1 q ∧ Rz w' v2 r ∧ Below w.heap.size w w'
/-- The first quotient, before it is made right. -/
def q0 (x y : Int) : Int := if (decide (x < 0) != decide (y < 0)) = true then -((x.natAbs / y.natAbs : Nat) : Int) else ((x.natAbs / y.natAbs : Nat) : Int)
theorem q0_abs (x y : Int) : (q0 x y).natAbs = x.natAbs / y.natAbs := by
  unfold q0
  generalize x.natAbs / y.natAbs = d
  split <;> omega
theorem q0_eq (x y : Int) (hy : y ≠ 0) : x - q0 x y * y = if x < 0 then -((x.natAbs % y.natAbs : Nat) : Int) else ((x.natAbs % y.natAbs : Nat) : Int) := by
  have hd := Nat.div_add_mod x.natAbs y.natAbs
  have h : ((y.natAbs : Nat) : Int) * ((x.natAbs / y.natAbs : Nat) : Int) + ((x.natAbs % y.natAbs : Nat) : Int) = ((x.natAbs : Nat) : Int) := by exact_mod_cast hd
  unfold q0
  generalize ((x.natAbs / y.natAbs : Nat) : Int) = d at *
  generalize ((x.natAbs % y.natAbs : Nat) : Int) = r at *
  by_cases hx : x < 0
  · have ex : ((x.natAbs : Nat) : Int) = -x := by omega
    rw [ex] at h
    by_cases hy0 : y < 0
    · have ey : ((y.natAbs : Nat) : Int) = -y := by omega
      rw [ey] at h
      simp only [hx, hy0, decide_true, bne_self_eq_false, if_true]
      simp only [Bool.false_eq_true, if_false]
      grind
    · have ey : ((y.natAbs : Nat) : Int) = y := by omega
      rw [ey] at h
      simp only [hx, hy0, decide_true, decide_false, if_true]
      simp
      grind
  · have ex : ((x.natAbs : Nat) : Int) = x := by omega
    rw [ex] at h
    by_cases hy0 : y < 0
    · have ey : ((y.natAbs : Nat) : Int) = -y := by omega
      rw [ey] at h
      simp only [hx, hy0, decide_true, decide_false, if_false]
      simp
      grind
    · have ey : ((y.natAbs : Nat) : Int) = y := by omega
      rw [ey] at h
      simp only [hx, hy0, decide_false, if_false]
      simp
      grind
theorem ediv_of {x y q r : Int} (h : x - q * y = r) (h0 : 0 ≤ r) (h1 : r < y.natAbs) (hy : y ≠ 0) : q = x / y ∧ r = x % y := by
  have e1 : x = r + q * y := by omega
  have e2 : x % y = r := by
    rw [e1, Int.add_mul_emod_self_right]
    rcases Int.lt_or_lt_of_ne hy with g | g
    · rw [← Int.emod_neg]
      exact Int.emod_eq_of_lt h0 (by omega)
    · exact Int.emod_eq_of_lt h0 (by omega)
  have e3 := Int.emod_add_mul_ediv x y
  have e4 : y * (x / y) = y * q := by rw [Int.mul_comm y q]; omega
  exact ⟨(Int.eq_of_mul_eq_mul_left hy e4).symm, e2.symm⟩
theorem rem_lt (x y : Int) (hy : y ≠ 0) : ((x.natAbs % y.natAbs : Nat) : Int) < ((y.natAbs : Nat) : Int) := by
  have := Nat.mod_lt x.natAbs (by omega : 0 < y.natAbs)
  omega
theorem quo_pos {x y : Int} (hy : y ≠ 0) (h : 0 ≤ x - q0 x y * y) : q0 x y = x / y ∧ x - q0 x y * y = x % y := by
  refine ediv_of rfl h ?_ hy
  have h1 := q0_eq x y hy
  have h2 := rem_lt x y hy
  rw [h1]
  split <;> omega
theorem quo_neg1 {x y : Int} (hy : 0 < y) (h : x - q0 x y * y < 0) : q0 x y - 1 = x / y ∧ x - (q0 x y - 1) * y = x % y := by
  have h1 := q0_eq x y (by omega)
  have h2 := rem_lt x y (by omega)
  have e : x - (q0 x y - 1) * y = x - q0 x y * y + y := by rw [Int.sub_mul, Int.one_mul]; omega
  refine ediv_of rfl ?_ ?_ (by omega)
  · rw [e]; split at h1 <;> omega
  · rw [e]; omega
theorem quo_neg2 {x y : Int} (hy : y < 0) (h : x - q0 x y * y < 0) : q0 x y + 1 = x / y ∧ x - (q0 x y + 1) * y = x % y := by
  have h1 := q0_eq x y (by omega)
  have h2 := rem_lt x y (by omega)
  have e : x - (q0 x y + 1) * y = x - q0 x y * y - y := by rw [Int.add_mul, Int.one_mul]; omega
  refine ediv_of rfl ?_ ?_ (by omega)
  · rw [e]; split at h1 <;> omega
  · rw [e]; omega
theorem lenD {m k : Nat} (h : m < D9 ^ k) : (Nm.dg D9 m).length ≤ k := by
  refine Nm.len_le_of_val D92 (Nm.nrm_dg D92 _) ?_
  rw [Nm.val_dg D92]
  exact h
theorem q0_le (x y : Int) : (q0 x y).natAbs ≤ x.natAbs := by rw [q0_abs]; exact Nat.div_le_self _ _
theorem q0y_le (x y : Int) : (q0 x y * y).natAbs ≤ x.natAbs := by rw [Int.natAbs_mul, q0_abs]; exact Nat.div_mul_le_self _ _
theorem twice {m k : Nat} (h : m < 2 * D9 ^ k) : m < D9 ^ (k + 1) := by
  rw [Nat.pow_succ]
  have e : D9 = 1000000000 := rfl
  generalize D9 ^ k = p at *
  rw [e]
  omega
end Go.Proofs.YtlmklhffafcmmaaGreat

/- The reference's Quo: the walk. -/
namespace Go.Proofs.YtlmklhffafcmmaaGreat
open Go.RowKit

def CutO (br : Bool) (s : Value) (X : List Nat) (B : Nat) (wb wx : World) (g : Nat) : Prop := B ≤ g ∧ ZC (.bool br) s wx g ∧ Ri wx s X ∧ Below B wb wx
section
variable {br b0 : Bool} {s : Value} {X : List Nat} {B : Nat} {wb w3 : World} {t : TypeId} {p : Option Addr} {n c g : Nat}
theorem CutO.k1 (r1 : Ri w3 s X) (h : Below B wb w3) (hB : B ≤ w3.heap.size) : CutO br s X B wb (w3.alloc (.cells #[.bool br, s] t)) w3.heap.size := ⟨hB, ZC.new rfl, r1.allocd _, h.alloc hB _⟩
theorem Ri.setq {w : World} {v : Value} {xs : List Nat} (h : Ri w v xs) (z : ZC (.bool b0) (.slice p n c) w g) (u u' : Value) : Ri ((w.setCell ⟨g, 0, none⟩ u).setCell ⟨g, 1, none⟩ u') v xs := h.set2 z.1 z.2.1 (fun _ => by simp)
theorem CutO.k2 (q : ZC (.bool b0) (.slice p n c) w3 g) (hg : B ≤ g) (r1 : Ri w3 s X) (h : Below B wb w3) : CutO br s X B wb ((w3.setCell ⟨g, 0, none⟩ (.bool br)).setCell ⟨g, 1, none⟩ s) g := ⟨hg, q.set, r1.setq q _ _, below_set2 h hg _ _⟩
end
theorem far8q {a x : Nat} (h : a + 4 ≤ x) : ¬ x = a ∧ ¬ x = a+1 ∧ ¬ x = a+1+1 ∧ ¬ x = a+1+1+1 ∧ ¬ a = x ∧ ¬ a+1 = x ∧ ¬ a+1+1 = x ∧ ¬ a+1+1+1 = x ∧ a < x ∧ a+1 < x ∧ a+1+1 < x ∧ a+1+1+1 < x := ⟨by omega, by omega, by omega, by omega, by omega, by omega, by omega, by omega, by omega, by omega, by omega, by omega⟩
/-- What the end of the call stores. -/
def QEnd (q r : Int) (w w0 wx : World) (g8 g9 : Nat) (s8 s9 : Value) : Prop := ZC (.bool (decide (q < 0))) s8 wx g8 ∧ ZC (.bool (decide (r < 0))) s9 wx g9 ∧ Rz wx s8 q ∧ Rz wx s9 r ∧ Below w0.heap.size w0 wx

set_option maxRecDepth 100000 in
set_option maxHeartbeats 8000000 in
theorem rquo_pos (x y : Int) (v1 v2 : Value) (w : World) (k : Nat) (hk : k ≤ 90000) (hx : x.natAbs < D9 ^ k) (hy : y.natAbs < D9 ^ k) (h1 : Rz w v1 x) (h2 : Rz w v2 y) (hy0 : y ≠ 0) (hr : 0 ≤ x - q0 x y * y) :
    Calls Tryz.prog 20 #[iV x v1, iV y v2] w (QIPost (q0 x y) (x - q0 x y * y) w) := by
  have lx := lenD hx
  have ly := lenD hy
  have H_over := Lib.hid (fun v1 v2 w g1 g2 => rover_any v1 v2 x.natAbs y.natAbs w (by omega) g1 g2 (by omega) (by omega))
  have H_made := Lib.hid (fun v w g => (rmade_any (decide (x < 0) != decide (y < 0)) v (x.natAbs / y.natAbs) w g).mono (made_int (z := q0 x y) rfl))
  have lq := Nat.le_trans (lenD (Nat.lt_of_le_of_lt (q0_le x y) hx)) (by omega : k ≤ 1000000)
  have lqy := Nat.le_trans (lenD (Nat.lt_of_le_of_lt (q0y_le x y) hx)) (by omega : k ≤ 1000000)
  have H_mul := Lib.hid (fun v1 v2 w g1 g2 => rmul_int (q0 x y) y v1 v2 w g1 g2 lq (by omega))
  have H_sub := Lib.hid (fun v1 v2 w g1 g2 => rsub_int x (q0 x y * y) v1 v2 w g1 g2 (by omega) lqy)
  have H_sgn := Lib.hid (fun v w g => rsign_int (x - q0 x y * y) v w g)
  obtain ⟨sg, hsg⟩ : ∃ sg, (x - q0 x y * y).sign = sg := ⟨_, rfl⟩
  have hsg0 : ¬ sg < 0 := by
    rw [← hsg]
    rcases Int.lt_or_eq_of_le hr with g | g
    · rw [Int.sign_eq_one_of_pos g]; decide
    · rw [← g]; decide
  rw [hsg] at H_sgn
  clear hsg
  obtain ⟨sb, hsb⟩ : ∃ sb, (decide (x < 0) != decide (y < 0)) = sb := ⟨_, rfl⟩
  rw [hsb] at H_made
  have HX := Lib.hid h1
  have HY := Lib.hid h2
  clear lq lqy lx ly hx hy hk hr
  clear hy0
  unfold IntPost iV at H_made H_mul H_sub
  unfold iV at H_sgn
  unfold SignPost at H_sgn
  unfold OverPost at H_over
  unfold QIPost iV
  generalize x.natAbs / y.natAbs = dd at *
  generalize x.natAbs % y.natAbs = de at *
  obtain ⟨bx, hbx⟩ : ∃ b, decide (x < 0) = b := ⟨_, rfl⟩
  obtain ⟨by', hby⟩ : ∃ b, decide (y < 0) = b := ⟨_, rfl⟩
  rw [hbx, hby] at hsb
  have hsb2 : (!(bx == by')) = sb := hsb
  rw [hby] at H_mul
  rw [hbx] at H_sub ⊢
  rw [hby]
  clear hbx hby hsb
  generalize x - q0 x y * y = r at *
  generalize q0 x y * y = qy at *
  generalize q0 x y = q at *
  generalize decide (qy < 0) = bqy at *
  obtain ⟨bq, hbq⟩ : ∃ b, decide (q < 0) = b := ⟨_, rfl⟩
  rw [hbq] at H_made H_mul
  obtain ⟨pa, ba, oa, ca, rfl, hra⟩ := h1
  obtain ⟨pb, bb, ob, cb, rfl, hrb⟩ := h2
  clear hra hrb
  generalize (Nm.dg D9 x.natAbs).length = la at *
  generalize (Nm.dg D9 y.natAbs).length = lb at *
  obtain ⟨w0, hw0⟩ : ∃ w0 : World, w0 = (((w.alloc (.cells #[.bool bx, .slice pa la ca] 38)).alloc (.cells #[.bool by', .slice pb lb cb] 38)).alloc (.cells #[.bool false, .slice none 0 0] 38)).alloc (.cells #[.bool false, .slice none 0 0] 38) := ⟨_, rfl⟩
  have hb0 : Hid (Below w.heap.size w w0) := by rw [hw0]; exact ((((Below.refl _ _).alloc (Nat.le_refl _) _).alloc (by simp) _).alloc (by simp; omega) _).alloc (by simp; omega) _
  have I1 : Hid (ZC (.bool bx) (.slice pa la ca) w0 w.heap.size) := by rw [hw0]; exact (((ZC.new rfl).alloc _).alloc _).alloc _
  have I2 : Hid (ZC (.bool by') (.slice pb lb cb) w0 (w.heap.size + 1)) := by rw [hw0]; exact ((ZC.new (by simp)).alloc _).alloc _
  have I3 : Hid (ZC (.bool false) (.slice none 0 0) w0 (w.heap.size + 1 + 1)) := by rw [hw0]; exact (ZC.new (by simp)).alloc _
  have I4 : Hid (ZC (.bool false) (.slice none 0 0) w0 (w.heap.size + 1 + 1 + 1)) := by rw [hw0]; exact ZC.new (by simp)
  have Hsz : Hid (w.heap.size + 4 ≤ w0.heap.size) := by rw [hw0]; show _ ≤ _; simp
  have RX := Lib.hid (Ri.below HX.out hb0.out (Nat.le_refl _))
  have RY := Lib.hid (Ri.below HY.out hb0.out (Nat.le_refl _))
  have Hw0 := Lib.hid hw0
  clear hw0 HX HY
  go_enter Tryz.func20, Tryz.ntmps20
  go_wp2_with fail
  rw [← Hw0.out]
  clear Hw0
  refine (H_over.out _ _ _ RX.out RY.out).mono ?_
  rintro e y1 ⟨vq, vr, rfl, rq, rr, b1⟩
  have D := Lib.hid b1
  obtain ⟨k0, k1, _⟩ := I1.out.next D.out
  obtain ⟨k2, k3, _⟩ := I2.out.next D.out
  have RQ := Lib.hid rq
  obtain ⟨pq, bq', oq, cq, rfl, hrq⟩ := rq
  clear b1 rr hrq
  go_wp2_with fail
  refine (H_made.out _ _ RQ.out).mono ?_
  rintro e y2 ⟨v8, rfl, r8, b2⟩
  have D := Lib.hid (chain D.out b2)
  obtain ⟨u2, hu2⟩ : ∃ u : World, u = y2.alloc (.cells #[.bool bq, v8] 38) := ⟨_, rfl⟩
  have R8 : Hid (Rz u2 v8 q) := by rw [hu2]; exact Ri.allocd r8 _
  have T8 : Hid (ZC (.bool bq) v8 u2 y2.heap.size) := by rw [hu2]; exact ZC.new rfl
  have hy2 : Hid (w.heap.size + 4 ≤ y2.heap.size) := Nat.le_trans Hsz.out D.out.size
  have D : Hid (Below w0.heap.size w0 u2) := by rw [hu2]; exact D.out.alloc D.out.size _
  obtain ⟨p8, bb8, o8, c8, rfl, rr8⟩ := r8
  clear rr8
  generalize (Nm.dg D9 q.natAbs).length = l8 at *
  obtain ⟨k0, k1, _⟩ := I1.out.next D.out
  obtain ⟨k2, k3, _⟩ := I2.out.next D.out
  obtain ⟨k4, k5, _⟩ := T8.out
  have HSB : Hid (w.heap.size + 4 ≤ u2.heap.size) := Nat.le_trans Hsz.out D.out.size
  have hu2g : Hid (y2.heap.size < u2.heap.size) := T8.out.lt
  have Hu2 := Lib.hid hu2
  clear b2 hu2 RQ
  have RXu := Lib.hid (Ri.below RX.out D.out (Nat.le_refl _))
  have RYu := Lib.hid (Ri.below RY.out D.out (Nat.le_refl _))
  go_upto_region 3 with (fail)
  rw [← Hu2.out]
  clear Hu2
  obtain ⟨ja, jb, jc, jd, je, jf, jg, jh, ji, jj, jk, jl⟩ := far8q HSB.out
  have jm := hu2g.out
  have jn : ¬ y2.heap.size = u2.heap.size := Nat.ne_of_lt jm
  have jo : ¬ u2.heap.size = y2.heap.size := Nat.ne_of_gt jm
  go_cut [9] (fun s9 wx => ∃ (g9 : Nat) (p9 : Option Addr) (n9 c9 : Nat), s9 = .pointer (some ⟨g9, 0, none⟩) ∧ Hid (CutO (decide (r < 0)) (.slice p9 n9 c9) (Nm.dg D9 r.natAbs) u2.heap.size u2 wx g9))
  case first =>
    rename_i J0 K0 hRJ hMK
    go_region_held3 (fun W' => W'.cell? ⟨w.heap.size, 0, none⟩ = some (.bool bx) ∧ W'.cell? ⟨w.heap.size, 1, none⟩ = some (.slice pa la ca) ∧ W'.cell? ⟨w.heap.size + 1, 0, none⟩ = some (.bool by') ∧ W'.cell? ⟨w.heap.size + 1, 1, none⟩ = some (.slice pb lb cb) ∧ W'.cell? ⟨y2.heap.size, 0, none⟩ = some (.bool bq) ∧ W'.cell? ⟨y2.heap.size, 1, none⟩ = some (.slice p8 l8 c8)) (go_keep)
      (first
        | (go_at_call 74; (with_reducible refine (H_mul.out _ _ _ (by first | exact Ri.drew R8.out | exact Ri.allocd (Ri.drew R8.out) _ | exact Ri.drew (Ri.allocd R8.out _)) (by first | exact Ri.drew RYu.out | exact Ri.allocd (Ri.drew RYu.out) _ | exact Ri.drew (Ri.allocd RYu.out _))).mono ?_); rintro e w1 ⟨vm, rfl, rz1, bz1⟩; (try (have bz1 := undrew bz1)); have d1 : Below u2.heap.size u2 w1 := chain (by first | exact Below.refl _ _ | exact (Below.refl _ _).drew | exact below_one _ _ | exact ((Below.refl _ _).drew).alloc (Nat.le_refl _) _) bz1; have e1 : Below u2.heap.size u2 w1 := d1; have p0 := keep1 e1 k0; have p1 := keep1 e1 k1; have p2 := keep1 e1 k2; have p3 := keep1 e1 k3; have p4 := keep1 e1 k4; have p5 := keep1 e1 k5; obtain ⟨j1a, j1b, j1c, j1d, j1e, j1f, j1g, j1h, j1i, j1j, j1k, j1l⟩ := far8q (Nat.le_trans HSB.out e1.size); have j1m := Nat.lt_of_lt_of_le hu2g.out e1.size; have j1n : ¬ y2.heap.size = w1.heap.size := Nat.ne_of_lt j1m; have j1o : ¬ w1.heap.size = y2.heap.size := Nat.ne_of_gt j1m; (try (have A0 := Lib.hid (ZC.made (g := u2.heap.size) rfl bz1); obtain ⟨A0a, A0b, A0c, A0d⟩ := A0.out)); (try (have L01 := Lib.hid (apart_b (g := u2.heap.size) rfl bz1); obtain ⟨l01x, l01y, l01z⟩ := L01.out)); have G1 := Lib.hid rz1; obtain ⟨pr1, br1, or1, cr1, rfl, rr1⟩ := rz1; clear rr1)
        | (go_at_call 70; (with_reducible refine (H_sub.out _ _ _ (by first | exact Ri.below RXu.out e1 (Nat.le_refl _) | exact Ri.allocd (Ri.below RXu.out e1 (Nat.le_refl _)) _) (by first | exact G1.out | exact Ri.allocd G1.out _)).mono ?_); rintro e w2 ⟨vs, rfl, rz2, bz2⟩; (try (have bz2 := undrew bz2)); have d2 : Below w1.heap.size w1 w2 := chain (by first | exact Below.refl _ _ | exact (Below.refl _ _).drew | exact below_one _ _ | exact ((Below.refl _ _).drew).alloc (Nat.le_refl _) _) bz2; have e2 : Below u2.heap.size u2 w2 := chain e1 d2; have p0 := keep1 e2 k0; have p1 := keep1 e2 k1; have p2 := keep1 e2 k2; have p3 := keep1 e2 k3; have p4 := keep1 e2 k4; have p5 := keep1 e2 k5; obtain ⟨j2a, j2b, j2c, j2d, j2e, j2f, j2g, j2h, j2i, j2j, j2k, j2l⟩ := far8q (Nat.le_trans HSB.out e2.size); have j2m := Nat.lt_of_lt_of_le hu2g.out e2.size; have j2n : ¬ y2.heap.size = w2.heap.size := Nat.ne_of_lt j2m; have j2o : ¬ w2.heap.size = y2.heap.size := Nat.ne_of_gt j2m; (try (have A1 := Lib.hid (ZC.made (g := w1.heap.size) rfl bz2); obtain ⟨A1a, A1b, A1c, A1d⟩ := A1.out)); (try (have A0 := Lib.hid (A0.out.next d2); obtain ⟨A0a, A0b, A0c, A0d⟩ := A0.out)); (try (have L02 := Lib.hid (apart_t L01.out d2.size); obtain ⟨l02x, l02y, l02z⟩ := L02.out)); (try (have L12 := Lib.hid (apart_b (g := w1.heap.size) rfl bz2); obtain ⟨l12x, l12y, l12z⟩ := L12.out)); have G2 := Lib.hid rz2; obtain ⟨pr2, br2, or2, cr2, rfl, rr2⟩ := rz2; clear rr2)
        | fail)
    all_goals
      refine hMK _ _ (Met.intro (hRJ _ _ ?_))
      (repeat apply Exists.intro)
      refine ⟨?_, rfl⟩
      refine ⟨_, pr2, (Nm.dg D9 r.natAbs).length, cr2, rfl, ?_⟩
      show CutO _ (.slice pr2 _ cr2) _ u2.heap.size u2 _ _
      have sA0 : u2.heap.size ≤ u2.heap.size := Nat.le_refl _
      have sA1 : u2.heap.size ≤ w1.heap.size := e1.size
      have sA2 : u2.heap.size ≤ w2.heap.size := e2.size
      first
        | with_reducible exact CutO.k1 G2.out e2 sA2
        | with_reducible exact CutO.k2 A0.out sA0 G2.out e2
        | with_reducible exact CutO.k2 A1.out sA1 G2.out e2
        | fail
  obtain ⟨g9, p9, n9, c9, rfl, hcut⟩ := hcut
  obtain ⟨hg9, t9, r9, b9⟩ := hcut.out
  have D := Lib.hid (chain D.out b9)
  have T8 := Lib.hid (T8.out.next b9)
  have R8 := Lib.hid (Ri.below R8.out b9 (Nat.le_refl _))
  have T9 := Lib.hid t9
  have R9 := Lib.hid r9
  have hg9' : Hid (w.heap.size + 4 ≤ g9) := Nat.le_trans HSB.out hg9
  have hg89 : Hid (y2.heap.size < g9) := Nat.lt_of_lt_of_le hu2g.out hg9
  obtain ⟨k0, k1, _⟩ := T9.out
  clear hcut hg9 t9 r9 b9 ja jb jc jd je jf jg jh ji jj jk jl jm jn jo k2 k3 k4 k5
  obtain ⟨br, hbr⟩ : ∃ b, decide (r < 0) = b := ⟨_, rfl⟩
  rw [hbr] at T9 k0 H_sgn
  go_wp2_with fail
  refine (H_sgn.out _ _ R9.out).mono ?_
  rintro e y3 ⟨rfl, b3⟩
  have D := Lib.hid (chain D.out b3)
  have T8 := Lib.hid (T8.out.next b3)
  have R8 := Lib.hid (Ri.below R8.out b3 (Nat.le_refl _))
  have T9 := Lib.hid (T9.out.next b3)
  have R9 := Lib.hid (Ri.below R9.out b3 (Nat.le_refl _))
  clear b3 k0 k1
  have HQQ := Lib.hid hbq
  have HRR := Lib.hid hbr
  clear hbq hbr
  obtain ⟨f0, f1, f2, f3⟩ := T8.out
  obtain ⟨f4, f5, f6, f7⟩ := T9.out
  obtain ⟨m0, m1, m2, m3⟩ := I3.out.next D.out
  obtain ⟨n0, n1, n2, n3⟩ := I4.out.next D.out
  obtain ⟨ja, jb, jc, jd, je, jf, jg, jh, _⟩ := far8q hy2.out
  obtain ⟨qa, qb, qc, qd, qe, qf, qg, qh, _⟩ := far8q hg9'.out
  have i5 := (I4.out.next D.out).other (g2 := w.heap.size + 1 + 1) (u := .bool bq) (v := (.slice p8 l8 c8)) (by omega)
  have HZ := Lib.hid ((below_set2 (below_set2 (chain hb0.out D.out) (g := w.heap.size + 1 + 1) (by omega) (.bool bq) (.slice p8 l8 c8)) (g := w.heap.size + 1 + 1 + 1) (by omega) (.bool br) (.slice p9 n9 c9)).drew)
  have RQf := Lib.hid (Ri.drew ((R8.out.setq (I3.out.next D.out) (.bool bq) (.slice p8 l8 c8)).setq i5 (.bool br) (.slice p9 n9 c9)))
  have RRf := Lib.hid (Ri.drew ((R9.out.setq (I3.out.next D.out) (.bool bq) (.slice p8 l8 c8)).setq i5 (.bool br) (.slice p9 n9 c9)))
  clear i5
  go_wp2_with fail
  go_region
  go_wp2
  exact bodyPost_ret (v := .tuple #[.agg #[.bool bq, (.slice p8 l8 c8)], .agg #[.bool br, (.slice p9 n9 c9)]]) (by simp [results, Tryz.results20, go_sem, m0, m1, n0, n1]) rfl ⟨_, _, by rw [HQQ.out, HRR.out], RQf.out, RRf.out, HZ.out⟩
end Go.Proofs.YtlmklhffafcmmaaGreat

/- The reference's Quo: the walk where the first rest is negative. -/
namespace Go.Proofs.YtlmklhffafcmmaaGreat
open Go.RowKit

set_option maxRecDepth 100000 in
set_option maxHeartbeats 8000000 in
theorem rquo_neg1 (x y : Int) (v1 v2 : Value) (w : World) (k : Nat) (hk : k ≤ 90000) (hx : x.natAbs < D9 ^ k) (hy : y.natAbs < D9 ^ k) (h1 : Rz w v1 x) (h2 : Rz w v2 y) (hs : 0 < y) (hr : x - q0 x y * y < 0) :
    Calls Tryz.prog 20 #[iV x v1, iV y v2] w (QIPost (q0 x y - 1) (x - (q0 x y - 1) * y) w) := by
  have lx := lenD hx
  have ly := lenD hy
  have H_over := Lib.hid (fun v1 v2 w g1 g2 => rover_any v1 v2 x.natAbs y.natAbs w (by omega) g1 g2 (by omega) (by omega))
  have H_made := Lib.hid (fun v w g => (rmade_any (decide (x < 0) != decide (y < 0)) v (x.natAbs / y.natAbs) w g).mono (made_int (z := q0 x y) rfl))
  have lq := Nat.le_trans (lenD (Nat.lt_of_le_of_lt (q0_le x y) hx)) (by omega : k ≤ 1000000)
  have lqy := Nat.le_trans (lenD (Nat.lt_of_le_of_lt (q0y_le x y) hx)) (by omega : k ≤ 1000000)
  have H_mul := Lib.hid (fun v1 v2 w g1 g2 => rmul_int (q0 x y) y v1 v2 w g1 g2 lq (by omega))
  have H_sub := Lib.hid (fun v1 v2 w g1 g2 => rsub_int x (q0 x y * y) v1 v2 w g1 g2 (by omega) lqy)
  have H_sgn := Lib.hid (fun v w g => rsign_int (x - q0 x y * y) v w g)
  have H_sgy := Lib.hid (fun v w g => rsign_int y v w g)
  rw [Int.sign_eq_one_of_pos hs] at H_sgy
  rw [Int.sign_eq_neg_one_of_neg hr] at H_sgn
  obtain ⟨zi, hzi⟩ : ∃ z : Int, z = 1 := ⟨_, rfl⟩
  have H_n1 : Hid (∀ w, Calls Tryz.prog 16 #[.int .i64 1] w (IntPost zi w)) := by rw [hzi]; exact fun w => rnum_any 1 w (by decide) (by decide)
  have H_adj0 : ∀ z : Int, z = 1 → ∀ v1 v2 w, Rz w v1 (q0 x y) → Rz w v2 z → Calls Tryz.prog 70 #[iV (q0 x y) v1, iV z v2] w (IntPost (q0 x y - 1) w) := by
    intro z hz v1 v2 w g1 g2
    subst hz
    exact rsub_int (q0 x y) 1 v1 v2 w g1 g2 lq (Nat.le_trans (lenD (k := 3) (by decide)) (by decide))
  have H_adj := Lib.hid (H_adj0 zi hzi)
  clear H_adj0
  have lq1 : (Nm.dg D9 (q0 x y - 1).natAbs).length ≤ 1000000 := by
    have a1 := q0_le x y
    refine Nat.le_trans (lenD (k := k + 1) (twice ?_)) (by omega)
    have : 0 < D9 ^ k := Nat.pow_pos D90
    omega
  have lqy1 : (Nm.dg D9 ((q0 x y - 1) * y).natAbs).length ≤ 1000000 := by
    have a1 := q0y_le x y
    rw [Int.sub_mul, Int.one_mul]
    refine Nat.le_trans (lenD (k := k + 1) (twice ?_)) (by omega)
    omega
  have H_mul2 := Lib.hid (fun v1 v2 w g1 g2 => rmul_int (q0 x y - 1) y v1 v2 w g1 g2 lq1 (by omega))
  have H_sub2 := Lib.hid (fun v1 v2 w g1 g2 => rsub_int x ((q0 x y - 1) * y) v1 v2 w g1 g2 (by omega) lqy1)
  clear hzi lq1 lqy1
  obtain ⟨sb, hsb⟩ : ∃ sb, (decide (x < 0) != decide (y < 0)) = sb := ⟨_, rfl⟩
  rw [hsb] at H_made
  have HX := Lib.hid h1
  have HY := Lib.hid h2
  clear lq lqy lx ly hx hy hk hr
  clear hs
  unfold IntPost iV at H_made H_mul H_sub H_adj H_mul2 H_sub2
  unfold IntPost at H_n1
  unfold iV at H_n1
  unfold iV at H_sgn
  unfold iV at H_sgy
  unfold SignPost at H_sgn H_sgy
  unfold OverPost at H_over
  unfold QIPost iV
  generalize x.natAbs / y.natAbs = dd at *
  generalize x.natAbs % y.natAbs = de at *
  obtain ⟨bx, hbx⟩ : ∃ b, decide (x < 0) = b := ⟨_, rfl⟩
  obtain ⟨by', hby⟩ : ∃ b, decide (y < 0) = b := ⟨_, rfl⟩
  rw [hbx, hby] at hsb
  have hsb2 : (!(bx == by')) = sb := hsb
  rw [hby] at H_mul H_mul2 H_sgy
  rw [hbx] at H_sub H_sub2 ⊢
  rw [hby]
  clear hbx hby hsb
  generalize hr1 : x - (q0 x y - 1) * y = r1 at *
  generalize (q0 x y - 1) * y = q1y at *
  generalize hq1 : q0 x y - 1 = q1 at *
  clear hr1 hq1
  generalize x - q0 x y * y = r at *
  generalize q0 x y * y = qy at *
  generalize q0 x y = q at *
  generalize decide (qy < 0) = bqy at *
  generalize decide (q1y < 0) = bq1y at *
  generalize decide (zi < 0) = bzi at *
  obtain ⟨bq1, hbq1⟩ : ∃ b, decide (q1 < 0) = b := ⟨_, rfl⟩
  obtain ⟨br1, hbr1⟩ : ∃ b, decide (r1 < 0) = b := ⟨_, rfl⟩
  rw [hbq1] at H_adj H_mul2
  rw [hbr1] at H_sub2
  have HQQ := Lib.hid hbq1
  have HRR := Lib.hid hbr1
  clear hbq1 hbr1
  obtain ⟨bq, hbq⟩ : ∃ b, decide (q < 0) = b := ⟨_, rfl⟩
  rw [hbq] at H_made H_mul H_adj
  obtain ⟨pa, ba, oa, ca, rfl, hra⟩ := h1
  obtain ⟨pb, bb, ob, cb, rfl, hrb⟩ := h2
  clear hra hrb
  generalize (Nm.dg D9 x.natAbs).length = la at *
  generalize (Nm.dg D9 y.natAbs).length = lb at *
  obtain ⟨w0, hw0⟩ : ∃ w0 : World, w0 = (((w.alloc (.cells #[.bool bx, .slice pa la ca] 38)).alloc (.cells #[.bool by', .slice pb lb cb] 38)).alloc (.cells #[.bool false, .slice none 0 0] 38)).alloc (.cells #[.bool false, .slice none 0 0] 38) := ⟨_, rfl⟩
  have hb0 : Hid (Below w.heap.size w w0) := by rw [hw0]; exact ((((Below.refl _ _).alloc (Nat.le_refl _) _).alloc (by simp) _).alloc (by simp; omega) _).alloc (by simp; omega) _
  have I1 : Hid (ZC (.bool bx) (.slice pa la ca) w0 w.heap.size) := by rw [hw0]; exact (((ZC.new rfl).alloc _).alloc _).alloc _
  have I2 : Hid (ZC (.bool by') (.slice pb lb cb) w0 (w.heap.size + 1)) := by rw [hw0]; exact ((ZC.new (by simp)).alloc _).alloc _
  have I3 : Hid (ZC (.bool false) (.slice none 0 0) w0 (w.heap.size + 1 + 1)) := by rw [hw0]; exact (ZC.new (by simp)).alloc _
  have I4 : Hid (ZC (.bool false) (.slice none 0 0) w0 (w.heap.size + 1 + 1 + 1)) := by rw [hw0]; exact ZC.new (by simp)
  have Hsz : Hid (w.heap.size + 4 ≤ w0.heap.size) := by rw [hw0]; show _ ≤ _; simp
  have RX := Lib.hid (Ri.below HX.out hb0.out (Nat.le_refl _))
  have RY := Lib.hid (Ri.below HY.out hb0.out (Nat.le_refl _))
  have Hw0 := Lib.hid hw0
  clear hw0 HX HY
  go_enter Tryz.func20, Tryz.ntmps20
  go_wp2_with fail
  rw [← Hw0.out]
  clear Hw0
  refine (H_over.out _ _ _ RX.out RY.out).mono ?_
  rintro e y1 ⟨vq, vr, rfl, rq, rr, b1⟩
  have D := Lib.hid b1
  obtain ⟨k0, k1, _⟩ := I1.out.next D.out
  obtain ⟨k2, k3, _⟩ := I2.out.next D.out
  have RQ := Lib.hid rq
  obtain ⟨pq, bq', oq, cq, rfl, hrq⟩ := rq
  clear b1 rr hrq
  go_wp2_with fail
  refine (H_made.out _ _ RQ.out).mono ?_
  rintro e y2 ⟨v8, rfl, r8, b2⟩
  have D := Lib.hid (chain D.out b2)
  obtain ⟨u2, hu2⟩ : ∃ u : World, u = y2.alloc (.cells #[.bool bq, v8] 38) := ⟨_, rfl⟩
  have R8 : Hid (Rz u2 v8 q) := by rw [hu2]; exact Ri.allocd r8 _
  have T8 : Hid (ZC (.bool bq) v8 u2 y2.heap.size) := by rw [hu2]; exact ZC.new rfl
  have hw8 : Hid (w0.heap.size ≤ y2.heap.size) := D.out.size
  have hy2 : Hid (w.heap.size + 4 ≤ y2.heap.size) := Nat.le_trans Hsz.out D.out.size
  have D : Hid (Below w0.heap.size w0 u2) := by rw [hu2]; exact D.out.alloc D.out.size _
  obtain ⟨p8, bb8, o8, c8, rfl, rr8⟩ := r8
  clear rr8
  generalize (Nm.dg D9 q.natAbs).length = l8 at *
  obtain ⟨k0, k1, _⟩ := I1.out.next D.out
  obtain ⟨k2, k3, _⟩ := I2.out.next D.out
  obtain ⟨k4, k5, _⟩ := T8.out
  have HSB : Hid (w.heap.size + 4 ≤ u2.heap.size) := Nat.le_trans Hsz.out D.out.size
  have hu2g : Hid (y2.heap.size < u2.heap.size) := T8.out.lt
  have Hu2 := Lib.hid hu2
  clear b2 hu2 RQ
  have RXu := Lib.hid (Ri.below RX.out D.out (Nat.le_refl _))
  have RYu := Lib.hid (Ri.below RY.out D.out (Nat.le_refl _))
  go_upto_region 3 with (fail)
  rw [← Hu2.out]
  clear Hu2
  obtain ⟨ja, jb, jc, jd, je, jf, jg, jh, ji, jj, jk, jl⟩ := far8q HSB.out
  have jm := hu2g.out
  have jn : ¬ y2.heap.size = u2.heap.size := Nat.ne_of_lt jm
  have jo : ¬ u2.heap.size = y2.heap.size := Nat.ne_of_gt jm
  go_cut [9] (fun s9 wx => ∃ (g9 : Nat) (p9 : Option Addr) (n9 c9 : Nat), s9 = .pointer (some ⟨g9, 0, none⟩) ∧ Hid (CutO (decide (r < 0)) (.slice p9 n9 c9) (Nm.dg D9 r.natAbs) u2.heap.size u2 wx g9))
  case first =>
    rename_i J0 K0 hRJ hMK
    go_region_held3 (fun W' => W'.cell? ⟨w.heap.size, 0, none⟩ = some (.bool bx) ∧ W'.cell? ⟨w.heap.size, 1, none⟩ = some (.slice pa la ca) ∧ W'.cell? ⟨w.heap.size + 1, 0, none⟩ = some (.bool by') ∧ W'.cell? ⟨w.heap.size + 1, 1, none⟩ = some (.slice pb lb cb) ∧ W'.cell? ⟨y2.heap.size, 0, none⟩ = some (.bool bq) ∧ W'.cell? ⟨y2.heap.size, 1, none⟩ = some (.slice p8 l8 c8)) (go_keep)
      (first
        | (go_at_call 74; (with_reducible refine (H_mul.out _ _ _ (by first | exact Ri.drew R8.out | exact Ri.allocd (Ri.drew R8.out) _ | exact Ri.drew (Ri.allocd R8.out _)) (by first | exact Ri.drew RYu.out | exact Ri.allocd (Ri.drew RYu.out) _ | exact Ri.drew (Ri.allocd RYu.out _))).mono ?_); rintro e w1 ⟨vm, rfl, rz1, bz1⟩; (try (have bz1 := undrew bz1)); have d1 : Below u2.heap.size u2 w1 := chain (by first | exact Below.refl _ _ | exact (Below.refl _ _).drew | exact below_one _ _ | exact ((Below.refl _ _).drew).alloc (Nat.le_refl _) _) bz1; have e1 : Below u2.heap.size u2 w1 := d1; have p0 := keep1 e1 k0; have p1 := keep1 e1 k1; have p2 := keep1 e1 k2; have p3 := keep1 e1 k3; have p4 := keep1 e1 k4; have p5 := keep1 e1 k5; obtain ⟨j1a, j1b, j1c, j1d, j1e, j1f, j1g, j1h, j1i, j1j, j1k, j1l⟩ := far8q (Nat.le_trans HSB.out e1.size); have j1m := Nat.lt_of_lt_of_le hu2g.out e1.size; have j1n : ¬ y2.heap.size = w1.heap.size := Nat.ne_of_lt j1m; have j1o : ¬ w1.heap.size = y2.heap.size := Nat.ne_of_gt j1m; (try (have A0 := Lib.hid (ZC.made (g := u2.heap.size) rfl bz1); obtain ⟨A0a, A0b, A0c, A0d⟩ := A0.out)); (try (have L01 := Lib.hid (apart_b (g := u2.heap.size) rfl bz1); obtain ⟨l01x, l01y, l01z⟩ := L01.out)); have G1 := Lib.hid rz1; obtain ⟨pr1, br1, or1, cr1, rfl, rr1⟩ := rz1; clear rr1)
        | (go_at_call 70; (with_reducible refine (H_sub.out _ _ _ (by first | exact Ri.below RXu.out e1 (Nat.le_refl _) | exact Ri.allocd (Ri.below RXu.out e1 (Nat.le_refl _)) _) (by first | exact G1.out | exact Ri.allocd G1.out _)).mono ?_); rintro e w2 ⟨vs, rfl, rz2, bz2⟩; (try (have bz2 := undrew bz2)); have d2 : Below w1.heap.size w1 w2 := chain (by first | exact Below.refl _ _ | exact (Below.refl _ _).drew | exact below_one _ _ | exact ((Below.refl _ _).drew).alloc (Nat.le_refl _) _) bz2; have e2 : Below u2.heap.size u2 w2 := chain e1 d2; have p0 := keep1 e2 k0; have p1 := keep1 e2 k1; have p2 := keep1 e2 k2; have p3 := keep1 e2 k3; have p4 := keep1 e2 k4; have p5 := keep1 e2 k5; obtain ⟨j2a, j2b, j2c, j2d, j2e, j2f, j2g, j2h, j2i, j2j, j2k, j2l⟩ := far8q (Nat.le_trans HSB.out e2.size); have j2m := Nat.lt_of_lt_of_le hu2g.out e2.size; have j2n : ¬ y2.heap.size = w2.heap.size := Nat.ne_of_lt j2m; have j2o : ¬ w2.heap.size = y2.heap.size := Nat.ne_of_gt j2m; (try (have A1 := Lib.hid (ZC.made (g := w1.heap.size) rfl bz2); obtain ⟨A1a, A1b, A1c, A1d⟩ := A1.out)); (try (have A0 := Lib.hid (A0.out.next d2); obtain ⟨A0a, A0b, A0c, A0d⟩ := A0.out)); (try (have L02 := Lib.hid (apart_t L01.out d2.size); obtain ⟨l02x, l02y, l02z⟩ := L02.out)); (try (have L12 := Lib.hid (apart_b (g := w1.heap.size) rfl bz2); obtain ⟨l12x, l12y, l12z⟩ := L12.out)); have G2 := Lib.hid rz2; obtain ⟨pr2, br2, or2, cr2, rfl, rr2⟩ := rz2; clear rr2)
        | fail)
    all_goals
      refine hMK _ _ (Met.intro (hRJ _ _ ?_))
      (repeat apply Exists.intro)
      refine ⟨?_, rfl⟩
      refine ⟨_, pr2, (Nm.dg D9 r.natAbs).length, cr2, rfl, ?_⟩
      show CutO _ (.slice pr2 _ cr2) _ u2.heap.size u2 _ _
      have sA0 : u2.heap.size ≤ u2.heap.size := Nat.le_refl _
      have sA1 : u2.heap.size ≤ w1.heap.size := e1.size
      have sA2 : u2.heap.size ≤ w2.heap.size := e2.size
      first
        | with_reducible exact CutO.k1 G2.out e2 sA2
        | with_reducible exact CutO.k2 A0.out sA0 G2.out e2
        | with_reducible exact CutO.k2 A1.out sA1 G2.out e2
        | fail
  obtain ⟨g9, p9, n9, c9, rfl, hcut⟩ := hcut
  obtain ⟨hg9, t9, r9, b9⟩ := hcut.out
  have D := Lib.hid (chain D.out b9)
  have T8 := Lib.hid (T8.out.next b9)
  have R8 := Lib.hid (Ri.below R8.out b9 (Nat.le_refl _))
  have T9 := Lib.hid t9
  have R9 := Lib.hid r9
  have hg9' : Hid (w.heap.size + 4 ≤ g9) := Nat.le_trans HSB.out hg9
  have hg9w : Hid (w0.heap.size ≤ g9) := Nat.le_trans hw8.out (Nat.le_of_lt (Nat.lt_of_lt_of_le hu2g.out hg9))
  have hg89 : Hid (y2.heap.size < g9) := Nat.lt_of_lt_of_le hu2g.out hg9
  obtain ⟨k0, k1, _⟩ := T9.out
  clear hcut hg9 t9 r9 b9 ja jb jc jd je jf jg jh ji jj jk jl jm jn jo k2 k3 k4 k5
  obtain ⟨br, hbr⟩ : ∃ b, decide (r < 0) = b := ⟨_, rfl⟩
  rw [hbr] at T9 k0 H_sgn
  go_wp2_with fail
  refine (H_sgn.out _ _ R9.out).mono ?_
  rintro e y3 ⟨rfl, b3⟩
  have D := Lib.hid (chain D.out b3)
  have T8 := Lib.hid (T8.out.next b3)
  have R8 := Lib.hid (Ri.below R8.out b3 (Nat.le_refl _))
  have T9 := Lib.hid (T9.out.next b3)
  have R9 := Lib.hid (Ri.below R9.out b3 (Nat.le_refl _))
  clear b3 k0 k1
  obtain ⟨k2, k3, _⟩ := I2.out.next D.out
  have HRRn := Lib.hid hbr
  clear hbr hbq
  go_wp2_with fail
  refine (H_sgy.out _ _ (Ri.below RY.out D.out (Nat.le_refl _))).mono ?_
  rintro e y4 ⟨rfl, b4⟩
  have D := Lib.hid (chain D.out b4)
  have T8 := Lib.hid (T8.out.next b4)
  have R8 := Lib.hid (Ri.below R8.out b4 (Nat.le_refl _))
  have T9 := Lib.hid (T9.out.next b4)
  clear b4 k2 k3 R9
  obtain ⟨k4, k5, k6, k7⟩ := T8.out
  have R8d := Lib.hid (Ri.drew R8.out)
  go_upto_region 6 with (fail)
  go_cut [38] (fun _ wx => ∃ (p : Option Addr) (n c : Nat), Hid (ZC (.bool bq1) (.slice p n c) wx y2.heap.size) ∧ Hid (Rz wx (.slice p n c) q1) ∧ Hid (ZC (.bool br) (.slice p9 n9 c9) wx g9) ∧ Hid (Below w0.heap.size w0 wx))
  case first =>
    rename_i J0 K0 hRJ hMK
    go_region_with
      (first
        | (go_at_call 16; (with_reducible refine (H_n1.out _).mono ?_); rintro e z1 ⟨v1, rfl, r1, b1⟩; have d1 := chain ((Below.refl y4.heap.size y4).drew) b1; have p4 := keep1 d1 k4; have p5 := keep1 d1 k5; have G1 := Lib.hid (And.intro (Ri.below R8d.out b1 (Nat.le_refl _)) r1); have D1 := Lib.hid d1; obtain ⟨pq1, bb1, oo1, cc1, rfl, rr1⟩ := r1; clear rr1 b1)
        | (go_at_call 70; (with_reducible refine (H_adj.out _ _ _ G1.out.1 G1.out.2).mono ?_); rintro e z2 ⟨v2, rfl, r2, b2⟩; have d2 := chain D1.out b2; have p4 := keep1 d2 k4; have p5 := keep1 d2 k5; have p6 := keepf d2 k4 k6; have p7 := keepf d2 k5 k7; have G2 := Lib.hid r2; have D2 := Lib.hid d2; obtain ⟨pq2, bb2, oo2, cq2, rfl, rr2⟩ := r2; clear rr2 b2)
        | fail)
    all_goals
      have ZZ := Lib.hid (T8.out.next D2.out)
      refine hMK _ _ (Met.intro (hRJ _ _ ?_))
      (repeat apply Exists.intro)
      refine ⟨?_, rfl⟩
      exact ⟨pq2, _, cq2, ZZ.out.set, G2.out.setq ZZ.out _ _, (T9.out.next D2.out).other (Nat.ne_of_gt hg89.out), below_set2 (chain D.out D2.out) (by have := hy2.out; have := Hsz.out; have := hw8.out; omega) _ _⟩
  obtain ⟨p8', n8', c8', T8, R8, T9, D⟩ := hcut
  clear k4 k5 k6 k7 R8d
  have R8d := Lib.hid (Ri.drew R8.out)
  have RXu := Lib.hid (Ri.below RX.out D.out (Nat.le_refl _))
  have RYd := Lib.hid (Ri.drew (Ri.below RY.out D.out (Nat.le_refl _)))
  obtain ⟨k0, k1, _⟩ := I1.out.next D.out
  obtain ⟨k2, k3, _⟩ := I2.out.next D.out
  obtain ⟨k4, k5, _⟩ := T8.out
  obtain ⟨k6, k7, k8, k9⟩ := T9.out
  obtain ⟨y5, hy5⟩ : ∃ y5 : World, y5 = wc := ⟨_, rfl⟩
  subst hy5
  go_upto_region 8 with (fail)
  go_cut [46] (fun _ wx => ∃ (p : Option Addr) (n c : Nat), Hid (ZC (.bool br1) (.slice p n c) wx g9) ∧ Hid (Rz wx (.slice p n c) r1) ∧ Hid (ZC (.bool bq1) (.slice p8' n8' c8') wx y2.heap.size) ∧ Hid (Rz wx (.slice p8' n8' c8') q1) ∧ Hid (Below w0.heap.size w0 wx))
  case first =>
    rename_i J0 K0 hRJ hMK
    go_region_with
      (first
        | (go_at_call 74; (with_reducible refine (H_mul2.out _ _ _ R8d.out RYd.out).mono ?_); rintro e z1 ⟨v1, rfl, rz1, b1⟩; have d1 := chain ((Below.refl y5.heap.size y5).drew) b1; have q0 := keep1 d1 k0; have q1 := keep1 d1 k1; have q2 := keep1 d1 k2; have q3 := keep1 d1 k3; have q4 := keep1 d1 k4; have q5 := keep1 d1 k5; have q6 := keep1 d1 k6; have q7 := keep1 d1 k7; have G1 := Lib.hid (And.intro (Ri.below RXu.out d1 (Nat.le_refl _)) rz1); have D1 := Lib.hid d1; obtain ⟨pq1, bb1, oo1, cc1, rfl, rr1⟩ := rz1; clear rr1 b1)
        | (go_at_call 70; (with_reducible refine (H_sub2.out _ _ _ G1.out.1 G1.out.2).mono ?_); rintro e z2 ⟨v2, rfl, rz2, b2⟩; have d2 := chain D1.out b2; have q0 := keep1 d2 k0; have q1 := keep1 d2 k1; have q2 := keep1 d2 k2; have q3 := keep1 d2 k3; have q4 := keep1 d2 k4; have q5 := keep1 d2 k5; have q6 := keep1 d2 k6; have q7 := keep1 d2 k7; have p8 := keepf d2 k6 k8; have p9' := keepf d2 k7 k9; have G2 := Lib.hid rz2; have D2 := Lib.hid d2; obtain ⟨pq2, bb2, oo2, cq2, rfl, rr2⟩ := rz2; clear rr2 b2)
        | fail)
    all_goals
      have ZZ := Lib.hid (T9.out.next D2.out)
      refine hMK _ _ (Met.intro (hRJ _ _ ?_))
      (repeat apply Exists.intro)
      refine ⟨?_, rfl⟩
      exact ⟨pq2, _, cq2, ZZ.out.set, G2.out.setq ZZ.out _ _, (T8.out.next D2.out).other (Nat.ne_of_lt hg89.out), (Ri.below R8.out D2.out (Nat.le_refl _)).setq ZZ.out _ _, below_set2 (chain D.out D2.out) (by have := hg9w.out; omega) _ _⟩
  obtain ⟨p9', n9', c9', T9, R9, T8, R8, D⟩ := hcut
  clear k0 k1 k2 k3 k4 k5 k6 k7 k8 k9 R8d RXu RYd
  obtain ⟨f0, f1, f2, f3⟩ := T8.out
  obtain ⟨f4, f5, f6, f7⟩ := T9.out
  obtain ⟨m0, m1, m2, m3⟩ := I3.out.next D.out
  obtain ⟨n0, n1, n2, n3⟩ := I4.out.next D.out
  obtain ⟨ja, jb, jc, jd, je, jf, jg, jh, _⟩ := far8q hy2.out
  obtain ⟨qa, qb, qc, qd, qe, qf, qg, qh, _⟩ := far8q hg9'.out
  have i5 := (I4.out.next D.out).other (g2 := w.heap.size + 1 + 1) (u := .bool bq1) (v := (.slice p8' n8' c8')) (by omega)
  have HZ := Lib.hid ((below_set2 (below_set2 (chain hb0.out D.out) (g := w.heap.size + 1 + 1) (by omega) (.bool bq1) (.slice p8' n8' c8')) (g := w.heap.size + 1 + 1 + 1) (by omega) (.bool br1) (.slice p9' n9' c9')).drew)
  have RQf := Lib.hid (Ri.drew ((R8.out.setq (I3.out.next D.out) (.bool bq1) (.slice p8' n8' c8')).setq i5 (.bool br1) (.slice p9' n9' c9')))
  have RRf := Lib.hid (Ri.drew ((R9.out.setq (I3.out.next D.out) (.bool bq1) (.slice p8' n8' c8')).setq i5 (.bool br1) (.slice p9' n9' c9')))
  clear i5
  go_wp2_with fail
  go_region
  go_wp2
  exact bodyPost_ret (v := .tuple #[.agg #[.bool bq1, (.slice p8' n8' c8')], .agg #[.bool br1, (.slice p9' n9' c9')]]) (by simp [results, Tryz.results20, go_sem, m0, m1, n0, n1]) rfl ⟨_, _, by rw [HQQ.out, HRR.out], RQf.out, RRf.out, HZ.out⟩
end Go.Proofs.YtlmklhffafcmmaaGreat

/- The reference's Quo: the walk where the first rest and the divisor are negative. -/
namespace Go.Proofs.YtlmklhffafcmmaaGreat
open Go.RowKit

set_option maxRecDepth 100000 in
set_option maxHeartbeats 8000000 in
theorem rquo_neg2 (x y : Int) (v1 v2 : Value) (w : World) (k : Nat) (hk : k ≤ 90000) (hx : x.natAbs < D9 ^ k) (hy : y.natAbs < D9 ^ k) (h1 : Rz w v1 x) (h2 : Rz w v2 y) (hs : y < 0) (hr : x - q0 x y * y < 0) :
    Calls Tryz.prog 20 #[iV x v1, iV y v2] w (QIPost (q0 x y + 1) (x - (q0 x y + 1) * y) w) := by
  have lx := lenD hx
  have ly := lenD hy
  have H_over := Lib.hid (fun v1 v2 w g1 g2 => rover_any v1 v2 x.natAbs y.natAbs w (by omega) g1 g2 (by omega) (by omega))
  have H_made := Lib.hid (fun v w g => (rmade_any (decide (x < 0) != decide (y < 0)) v (x.natAbs / y.natAbs) w g).mono (made_int (z := q0 x y) rfl))
  have lq := Nat.le_trans (lenD (Nat.lt_of_le_of_lt (q0_le x y) hx)) (by omega : k ≤ 1000000)
  have lqy := Nat.le_trans (lenD (Nat.lt_of_le_of_lt (q0y_le x y) hx)) (by omega : k ≤ 1000000)
  have H_mul := Lib.hid (fun v1 v2 w g1 g2 => rmul_int (q0 x y) y v1 v2 w g1 g2 lq (by omega))
  have H_sub := Lib.hid (fun v1 v2 w g1 g2 => rsub_int x (q0 x y * y) v1 v2 w g1 g2 (by omega) lqy)
  have H_sgn := Lib.hid (fun v w g => rsign_int (x - q0 x y * y) v w g)
  have H_sgy := Lib.hid (fun v w g => rsign_int y v w g)
  rw [Int.sign_eq_neg_one_of_neg hs] at H_sgy
  rw [Int.sign_eq_neg_one_of_neg hr] at H_sgn
  obtain ⟨zi, hzi⟩ : ∃ z : Int, z = 1 := ⟨_, rfl⟩
  have H_n1 : Hid (∀ w, Calls Tryz.prog 16 #[.int .i64 1] w (IntPost zi w)) := by rw [hzi]; exact fun w => rnum_any 1 w (by decide) (by decide)
  have H_adj0 : ∀ z : Int, z = 1 → ∀ v1 v2 w, Rz w v1 (q0 x y) → Rz w v2 z → Calls Tryz.prog 75 #[iV (q0 x y) v1, iV z v2] w (IntPost (q0 x y + 1) w) := by
    intro z hz v1 v2 w g1 g2
    subst hz
    exact radd_int (q0 x y) 1 v1 v2 w g1 g2 lq (Nat.le_trans (lenD (k := 3) (by decide)) (by decide))
  have H_adj := Lib.hid (H_adj0 zi hzi)
  clear H_adj0
  have lq1 : (Nm.dg D9 (q0 x y + 1).natAbs).length ≤ 1000000 := by
    have a1 := q0_le x y
    refine Nat.le_trans (lenD (k := k + 1) (twice ?_)) (by omega)
    have : 0 < D9 ^ k := Nat.pow_pos D90
    omega
  have lqy1 : (Nm.dg D9 ((q0 x y + 1) * y).natAbs).length ≤ 1000000 := by
    have a1 := q0y_le x y
    rw [Int.add_mul, Int.one_mul]
    refine Nat.le_trans (lenD (k := k + 1) (twice ?_)) (by omega)
    omega
  have H_mul2 := Lib.hid (fun v1 v2 w g1 g2 => rmul_int (q0 x y + 1) y v1 v2 w g1 g2 lq1 (by omega))
  have H_sub2 := Lib.hid (fun v1 v2 w g1 g2 => rsub_int x ((q0 x y + 1) * y) v1 v2 w g1 g2 (by omega) lqy1)
  clear hzi lq1 lqy1
  obtain ⟨sb, hsb⟩ : ∃ sb, (decide (x < 0) != decide (y < 0)) = sb := ⟨_, rfl⟩
  rw [hsb] at H_made
  have HX := Lib.hid h1
  have HY := Lib.hid h2
  clear lq lqy lx ly hx hy hk hr
  clear hs
  unfold IntPost iV at H_made H_mul H_sub H_adj H_mul2 H_sub2
  unfold IntPost at H_n1
  unfold iV at H_n1
  unfold iV at H_sgn
  unfold iV at H_sgy
  unfold SignPost at H_sgn H_sgy
  unfold OverPost at H_over
  unfold QIPost iV
  generalize x.natAbs / y.natAbs = dd at *
  generalize x.natAbs % y.natAbs = de at *
  obtain ⟨bx, hbx⟩ : ∃ b, decide (x < 0) = b := ⟨_, rfl⟩
  obtain ⟨by', hby⟩ : ∃ b, decide (y < 0) = b := ⟨_, rfl⟩
  rw [hbx, hby] at hsb
  have hsb2 : (!(bx == by')) = sb := hsb
  rw [hby] at H_mul H_mul2 H_sgy
  rw [hbx] at H_sub H_sub2 ⊢
  rw [hby]
  clear hbx hby hsb
  generalize hr1 : x - (q0 x y + 1) * y = r1 at *
  generalize (q0 x y + 1) * y = q1y at *
  generalize hq1 : q0 x y + 1 = q1 at *
  clear hr1 hq1
  generalize x - q0 x y * y = r at *
  generalize q0 x y * y = qy at *
  generalize q0 x y = q at *
  generalize decide (qy < 0) = bqy at *
  generalize decide (q1y < 0) = bq1y at *
  generalize decide (zi < 0) = bzi at *
  obtain ⟨bq1, hbq1⟩ : ∃ b, decide (q1 < 0) = b := ⟨_, rfl⟩
  obtain ⟨br1, hbr1⟩ : ∃ b, decide (r1 < 0) = b := ⟨_, rfl⟩
  rw [hbq1] at H_adj H_mul2
  rw [hbr1] at H_sub2
  have HQQ := Lib.hid hbq1
  have HRR := Lib.hid hbr1
  clear hbq1 hbr1
  obtain ⟨bq, hbq⟩ : ∃ b, decide (q < 0) = b := ⟨_, rfl⟩
  rw [hbq] at H_made H_mul H_adj
  obtain ⟨pa, ba, oa, ca, rfl, hra⟩ := h1
  obtain ⟨pb, bb, ob, cb, rfl, hrb⟩ := h2
  clear hra hrb
  generalize (Nm.dg D9 x.natAbs).length = la at *
  generalize (Nm.dg D9 y.natAbs).length = lb at *
  obtain ⟨w0, hw0⟩ : ∃ w0 : World, w0 = (((w.alloc (.cells #[.bool bx, .slice pa la ca] 38)).alloc (.cells #[.bool by', .slice pb lb cb] 38)).alloc (.cells #[.bool false, .slice none 0 0] 38)).alloc (.cells #[.bool false, .slice none 0 0] 38) := ⟨_, rfl⟩
  have hb0 : Hid (Below w.heap.size w w0) := by rw [hw0]; exact ((((Below.refl _ _).alloc (Nat.le_refl _) _).alloc (by simp) _).alloc (by simp; omega) _).alloc (by simp; omega) _
  have I1 : Hid (ZC (.bool bx) (.slice pa la ca) w0 w.heap.size) := by rw [hw0]; exact (((ZC.new rfl).alloc _).alloc _).alloc _
  have I2 : Hid (ZC (.bool by') (.slice pb lb cb) w0 (w.heap.size + 1)) := by rw [hw0]; exact ((ZC.new (by simp)).alloc _).alloc _
  have I3 : Hid (ZC (.bool false) (.slice none 0 0) w0 (w.heap.size + 1 + 1)) := by rw [hw0]; exact (ZC.new (by simp)).alloc _
  have I4 : Hid (ZC (.bool false) (.slice none 0 0) w0 (w.heap.size + 1 + 1 + 1)) := by rw [hw0]; exact ZC.new (by simp)
  have Hsz : Hid (w.heap.size + 4 ≤ w0.heap.size) := by rw [hw0]; show _ ≤ _; simp
  have RX := Lib.hid (Ri.below HX.out hb0.out (Nat.le_refl _))
  have RY := Lib.hid (Ri.below HY.out hb0.out (Nat.le_refl _))
  have Hw0 := Lib.hid hw0
  clear hw0 HX HY
  go_enter Tryz.func20, Tryz.ntmps20
  go_wp2_with fail
  rw [← Hw0.out]
  clear Hw0
  refine (H_over.out _ _ _ RX.out RY.out).mono ?_
  rintro e y1 ⟨vq, vr, rfl, rq, rr, b1⟩
  have D := Lib.hid b1
  obtain ⟨k0, k1, _⟩ := I1.out.next D.out
  obtain ⟨k2, k3, _⟩ := I2.out.next D.out
  have RQ := Lib.hid rq
  obtain ⟨pq, bq', oq, cq, rfl, hrq⟩ := rq
  clear b1 rr hrq
  go_wp2_with fail
  refine (H_made.out _ _ RQ.out).mono ?_
  rintro e y2 ⟨v8, rfl, r8, b2⟩
  have D := Lib.hid (chain D.out b2)
  obtain ⟨u2, hu2⟩ : ∃ u : World, u = y2.alloc (.cells #[.bool bq, v8] 38) := ⟨_, rfl⟩
  have R8 : Hid (Rz u2 v8 q) := by rw [hu2]; exact Ri.allocd r8 _
  have T8 : Hid (ZC (.bool bq) v8 u2 y2.heap.size) := by rw [hu2]; exact ZC.new rfl
  have hw8 : Hid (w0.heap.size ≤ y2.heap.size) := D.out.size
  have hy2 : Hid (w.heap.size + 4 ≤ y2.heap.size) := Nat.le_trans Hsz.out D.out.size
  have D : Hid (Below w0.heap.size w0 u2) := by rw [hu2]; exact D.out.alloc D.out.size _
  obtain ⟨p8, bb8, o8, c8, rfl, rr8⟩ := r8
  clear rr8
  generalize (Nm.dg D9 q.natAbs).length = l8 at *
  obtain ⟨k0, k1, _⟩ := I1.out.next D.out
  obtain ⟨k2, k3, _⟩ := I2.out.next D.out
  obtain ⟨k4, k5, _⟩ := T8.out
  have HSB : Hid (w.heap.size + 4 ≤ u2.heap.size) := Nat.le_trans Hsz.out D.out.size
  have hu2g : Hid (y2.heap.size < u2.heap.size) := T8.out.lt
  have Hu2 := Lib.hid hu2
  clear b2 hu2 RQ
  have RXu := Lib.hid (Ri.below RX.out D.out (Nat.le_refl _))
  have RYu := Lib.hid (Ri.below RY.out D.out (Nat.le_refl _))
  go_upto_region 3 with (fail)
  rw [← Hu2.out]
  clear Hu2
  obtain ⟨ja, jb, jc, jd, je, jf, jg, jh, ji, jj, jk, jl⟩ := far8q HSB.out
  have jm := hu2g.out
  have jn : ¬ y2.heap.size = u2.heap.size := Nat.ne_of_lt jm
  have jo : ¬ u2.heap.size = y2.heap.size := Nat.ne_of_gt jm
  go_cut [9] (fun s9 wx => ∃ (g9 : Nat) (p9 : Option Addr) (n9 c9 : Nat), s9 = .pointer (some ⟨g9, 0, none⟩) ∧ Hid (CutO (decide (r < 0)) (.slice p9 n9 c9) (Nm.dg D9 r.natAbs) u2.heap.size u2 wx g9))
  case first =>
    rename_i J0 K0 hRJ hMK
    go_region_held3 (fun W' => W'.cell? ⟨w.heap.size, 0, none⟩ = some (.bool bx) ∧ W'.cell? ⟨w.heap.size, 1, none⟩ = some (.slice pa la ca) ∧ W'.cell? ⟨w.heap.size + 1, 0, none⟩ = some (.bool by') ∧ W'.cell? ⟨w.heap.size + 1, 1, none⟩ = some (.slice pb lb cb) ∧ W'.cell? ⟨y2.heap.size, 0, none⟩ = some (.bool bq) ∧ W'.cell? ⟨y2.heap.size, 1, none⟩ = some (.slice p8 l8 c8)) (go_keep)
      (first
        | (go_at_call 74; (with_reducible refine (H_mul.out _ _ _ (by first | exact Ri.drew R8.out | exact Ri.allocd (Ri.drew R8.out) _ | exact Ri.drew (Ri.allocd R8.out _)) (by first | exact Ri.drew RYu.out | exact Ri.allocd (Ri.drew RYu.out) _ | exact Ri.drew (Ri.allocd RYu.out _))).mono ?_); rintro e w1 ⟨vm, rfl, rz1, bz1⟩; (try (have bz1 := undrew bz1)); have d1 : Below u2.heap.size u2 w1 := chain (by first | exact Below.refl _ _ | exact (Below.refl _ _).drew | exact below_one _ _ | exact ((Below.refl _ _).drew).alloc (Nat.le_refl _) _) bz1; have e1 : Below u2.heap.size u2 w1 := d1; have p0 := keep1 e1 k0; have p1 := keep1 e1 k1; have p2 := keep1 e1 k2; have p3 := keep1 e1 k3; have p4 := keep1 e1 k4; have p5 := keep1 e1 k5; obtain ⟨j1a, j1b, j1c, j1d, j1e, j1f, j1g, j1h, j1i, j1j, j1k, j1l⟩ := far8q (Nat.le_trans HSB.out e1.size); have j1m := Nat.lt_of_lt_of_le hu2g.out e1.size; have j1n : ¬ y2.heap.size = w1.heap.size := Nat.ne_of_lt j1m; have j1o : ¬ w1.heap.size = y2.heap.size := Nat.ne_of_gt j1m; (try (have A0 := Lib.hid (ZC.made (g := u2.heap.size) rfl bz1); obtain ⟨A0a, A0b, A0c, A0d⟩ := A0.out)); (try (have L01 := Lib.hid (apart_b (g := u2.heap.size) rfl bz1); obtain ⟨l01x, l01y, l01z⟩ := L01.out)); have G1 := Lib.hid rz1; obtain ⟨pr1, br1, or1, cr1, rfl, rr1⟩ := rz1; clear rr1)
        | (go_at_call 70; (with_reducible refine (H_sub.out _ _ _ (by first | exact Ri.below RXu.out e1 (Nat.le_refl _) | exact Ri.allocd (Ri.below RXu.out e1 (Nat.le_refl _)) _) (by first | exact G1.out | exact Ri.allocd G1.out _)).mono ?_); rintro e w2 ⟨vs, rfl, rz2, bz2⟩; (try (have bz2 := undrew bz2)); have d2 : Below w1.heap.size w1 w2 := chain (by first | exact Below.refl _ _ | exact (Below.refl _ _).drew | exact below_one _ _ | exact ((Below.refl _ _).drew).alloc (Nat.le_refl _) _) bz2; have e2 : Below u2.heap.size u2 w2 := chain e1 d2; have p0 := keep1 e2 k0; have p1 := keep1 e2 k1; have p2 := keep1 e2 k2; have p3 := keep1 e2 k3; have p4 := keep1 e2 k4; have p5 := keep1 e2 k5; obtain ⟨j2a, j2b, j2c, j2d, j2e, j2f, j2g, j2h, j2i, j2j, j2k, j2l⟩ := far8q (Nat.le_trans HSB.out e2.size); have j2m := Nat.lt_of_lt_of_le hu2g.out e2.size; have j2n : ¬ y2.heap.size = w2.heap.size := Nat.ne_of_lt j2m; have j2o : ¬ w2.heap.size = y2.heap.size := Nat.ne_of_gt j2m; (try (have A1 := Lib.hid (ZC.made (g := w1.heap.size) rfl bz2); obtain ⟨A1a, A1b, A1c, A1d⟩ := A1.out)); (try (have A0 := Lib.hid (A0.out.next d2); obtain ⟨A0a, A0b, A0c, A0d⟩ := A0.out)); (try (have L02 := Lib.hid (apart_t L01.out d2.size); obtain ⟨l02x, l02y, l02z⟩ := L02.out)); (try (have L12 := Lib.hid (apart_b (g := w1.heap.size) rfl bz2); obtain ⟨l12x, l12y, l12z⟩ := L12.out)); have G2 := Lib.hid rz2; obtain ⟨pr2, br2, or2, cr2, rfl, rr2⟩ := rz2; clear rr2)
        | fail)
    all_goals
      refine hMK _ _ (Met.intro (hRJ _ _ ?_))
      (repeat apply Exists.intro)
      refine ⟨?_, rfl⟩
      refine ⟨_, pr2, (Nm.dg D9 r.natAbs).length, cr2, rfl, ?_⟩
      show CutO _ (.slice pr2 _ cr2) _ u2.heap.size u2 _ _
      have sA0 : u2.heap.size ≤ u2.heap.size := Nat.le_refl _
      have sA1 : u2.heap.size ≤ w1.heap.size := e1.size
      have sA2 : u2.heap.size ≤ w2.heap.size := e2.size
      first
        | with_reducible exact CutO.k1 G2.out e2 sA2
        | with_reducible exact CutO.k2 A0.out sA0 G2.out e2
        | with_reducible exact CutO.k2 A1.out sA1 G2.out e2
        | fail
  obtain ⟨g9, p9, n9, c9, rfl, hcut⟩ := hcut
  obtain ⟨hg9, t9, r9, b9⟩ := hcut.out
  have D := Lib.hid (chain D.out b9)
  have T8 := Lib.hid (T8.out.next b9)
  have R8 := Lib.hid (Ri.below R8.out b9 (Nat.le_refl _))
  have T9 := Lib.hid t9
  have R9 := Lib.hid r9
  have hg9' : Hid (w.heap.size + 4 ≤ g9) := Nat.le_trans HSB.out hg9
  have hg9w : Hid (w0.heap.size ≤ g9) := Nat.le_trans hw8.out (Nat.le_of_lt (Nat.lt_of_lt_of_le hu2g.out hg9))
  have hg89 : Hid (y2.heap.size < g9) := Nat.lt_of_lt_of_le hu2g.out hg9
  obtain ⟨k0, k1, _⟩ := T9.out
  clear hcut hg9 t9 r9 b9 ja jb jc jd je jf jg jh ji jj jk jl jm jn jo k2 k3 k4 k5
  obtain ⟨br, hbr⟩ : ∃ b, decide (r < 0) = b := ⟨_, rfl⟩
  rw [hbr] at T9 k0 H_sgn
  go_wp2_with fail
  refine (H_sgn.out _ _ R9.out).mono ?_
  rintro e y3 ⟨rfl, b3⟩
  have D := Lib.hid (chain D.out b3)
  have T8 := Lib.hid (T8.out.next b3)
  have R8 := Lib.hid (Ri.below R8.out b3 (Nat.le_refl _))
  have T9 := Lib.hid (T9.out.next b3)
  have R9 := Lib.hid (Ri.below R9.out b3 (Nat.le_refl _))
  clear b3 k0 k1
  obtain ⟨k2, k3, _⟩ := I2.out.next D.out
  have HRRn := Lib.hid hbr
  clear hbr hbq
  go_wp2_with fail
  refine (H_sgy.out _ _ (Ri.below RY.out D.out (Nat.le_refl _))).mono ?_
  rintro e y4 ⟨rfl, b4⟩
  have D := Lib.hid (chain D.out b4)
  have T8 := Lib.hid (T8.out.next b4)
  have R8 := Lib.hid (Ri.below R8.out b4 (Nat.le_refl _))
  have T9 := Lib.hid (T9.out.next b4)
  clear b4 k2 k3 R9
  obtain ⟨k4, k5, k6, k7⟩ := T8.out
  have R8d := Lib.hid (Ri.drew R8.out)
  go_upto_region 7 with (fail)
  go_cut [41] (fun _ wx => ∃ (p : Option Addr) (n c : Nat), Hid (ZC (.bool bq1) (.slice p n c) wx y2.heap.size) ∧ Hid (Rz wx (.slice p n c) q1) ∧ Hid (ZC (.bool br) (.slice p9 n9 c9) wx g9) ∧ Hid (Below w0.heap.size w0 wx))
  case first =>
    rename_i J0 K0 hRJ hMK
    go_region_with
      (first
        | (go_at_call 16; (with_reducible refine (H_n1.out _).mono ?_); rintro e z1 ⟨v1, rfl, r1, b1⟩; have d1 := chain ((Below.refl y4.heap.size y4).drew) b1; have p4 := keep1 d1 k4; have p5 := keep1 d1 k5; have G1 := Lib.hid (And.intro (Ri.below R8d.out b1 (Nat.le_refl _)) r1); have D1 := Lib.hid d1; obtain ⟨pq1, bb1, oo1, cc1, rfl, rr1⟩ := r1; clear rr1 b1)
        | (go_at_call 75; (with_reducible refine (H_adj.out _ _ _ G1.out.1 G1.out.2).mono ?_); rintro e z2 ⟨v2, rfl, r2, b2⟩; have d2 := chain D1.out b2; have p4 := keep1 d2 k4; have p5 := keep1 d2 k5; have p6 := keepf d2 k4 k6; have p7 := keepf d2 k5 k7; have G2 := Lib.hid r2; have D2 := Lib.hid d2; obtain ⟨pq2, bb2, oo2, cq2, rfl, rr2⟩ := r2; clear rr2 b2)
        | fail)
    all_goals
      have ZZ := Lib.hid (T8.out.next D2.out)
      refine hMK _ _ (Met.intro (hRJ _ _ ?_))
      (repeat apply Exists.intro)
      refine ⟨?_, rfl⟩
      exact ⟨pq2, _, cq2, ZZ.out.set, G2.out.setq ZZ.out _ _, (T9.out.next D2.out).other (Nat.ne_of_gt hg89.out), below_set2 (chain D.out D2.out) (by have := hy2.out; have := Hsz.out; have := hw8.out; omega) _ _⟩
  obtain ⟨p8', n8', c8', T8, R8, T9, D⟩ := hcut
  clear k4 k5 k6 k7 R8d
  have R8d := Lib.hid (Ri.drew R8.out)
  have RXu := Lib.hid (Ri.below RX.out D.out (Nat.le_refl _))
  have RYd := Lib.hid (Ri.drew (Ri.below RY.out D.out (Nat.le_refl _)))
  obtain ⟨k0, k1, _⟩ := I1.out.next D.out
  obtain ⟨k2, k3, _⟩ := I2.out.next D.out
  obtain ⟨k4, k5, _⟩ := T8.out
  obtain ⟨k6, k7, k8, k9⟩ := T9.out
  obtain ⟨y5, hy5⟩ : ∃ y5 : World, y5 = wc := ⟨_, rfl⟩
  subst hy5
  go_upto_region 8 with (fail)
  go_cut [46] (fun _ wx => ∃ (p : Option Addr) (n c : Nat), Hid (ZC (.bool br1) (.slice p n c) wx g9) ∧ Hid (Rz wx (.slice p n c) r1) ∧ Hid (ZC (.bool bq1) (.slice p8' n8' c8') wx y2.heap.size) ∧ Hid (Rz wx (.slice p8' n8' c8') q1) ∧ Hid (Below w0.heap.size w0 wx))
  case first =>
    rename_i J0 K0 hRJ hMK
    go_region_with
      (first
        | (go_at_call 74; (with_reducible refine (H_mul2.out _ _ _ R8d.out RYd.out).mono ?_); rintro e z1 ⟨v1, rfl, rz1, b1⟩; have d1 := chain ((Below.refl y5.heap.size y5).drew) b1; have q0 := keep1 d1 k0; have q1 := keep1 d1 k1; have q2 := keep1 d1 k2; have q3 := keep1 d1 k3; have q4 := keep1 d1 k4; have q5 := keep1 d1 k5; have q6 := keep1 d1 k6; have q7 := keep1 d1 k7; have G1 := Lib.hid (And.intro (Ri.below RXu.out d1 (Nat.le_refl _)) rz1); have D1 := Lib.hid d1; obtain ⟨pq1, bb1, oo1, cc1, rfl, rr1⟩ := rz1; clear rr1 b1)
        | (go_at_call 70; (with_reducible refine (H_sub2.out _ _ _ G1.out.1 G1.out.2).mono ?_); rintro e z2 ⟨v2, rfl, rz2, b2⟩; have d2 := chain D1.out b2; have q0 := keep1 d2 k0; have q1 := keep1 d2 k1; have q2 := keep1 d2 k2; have q3 := keep1 d2 k3; have q4 := keep1 d2 k4; have q5 := keep1 d2 k5; have q6 := keep1 d2 k6; have q7 := keep1 d2 k7; have p8 := keepf d2 k6 k8; have p9' := keepf d2 k7 k9; have G2 := Lib.hid rz2; have D2 := Lib.hid d2; obtain ⟨pq2, bb2, oo2, cq2, rfl, rr2⟩ := rz2; clear rr2 b2)
        | fail)
    all_goals
      have ZZ := Lib.hid (T9.out.next D2.out)
      refine hMK _ _ (Met.intro (hRJ _ _ ?_))
      (repeat apply Exists.intro)
      refine ⟨?_, rfl⟩
      exact ⟨pq2, _, cq2, ZZ.out.set, G2.out.setq ZZ.out _ _, (T8.out.next D2.out).other (Nat.ne_of_lt hg89.out), (Ri.below R8.out D2.out (Nat.le_refl _)).setq ZZ.out _ _, below_set2 (chain D.out D2.out) (by have := hg9w.out; omega) _ _⟩
  obtain ⟨p9', n9', c9', T9, R9, T8, R8, D⟩ := hcut
  clear k0 k1 k2 k3 k4 k5 k6 k7 k8 k9 R8d RXu RYd
  obtain ⟨f0, f1, f2, f3⟩ := T8.out
  obtain ⟨f4, f5, f6, f7⟩ := T9.out
  obtain ⟨m0, m1, m2, m3⟩ := I3.out.next D.out
  obtain ⟨n0, n1, n2, n3⟩ := I4.out.next D.out
  obtain ⟨ja, jb, jc, jd, je, jf, jg, jh, _⟩ := far8q hy2.out
  obtain ⟨qa, qb, qc, qd, qe, qf, qg, qh, _⟩ := far8q hg9'.out
  have i5 := (I4.out.next D.out).other (g2 := w.heap.size + 1 + 1) (u := .bool bq1) (v := (.slice p8' n8' c8')) (by omega)
  have HZ := Lib.hid ((below_set2 (below_set2 (chain hb0.out D.out) (g := w.heap.size + 1 + 1) (by omega) (.bool bq1) (.slice p8' n8' c8')) (g := w.heap.size + 1 + 1 + 1) (by omega) (.bool br1) (.slice p9' n9' c9')).drew)
  have RQf := Lib.hid (Ri.drew ((R8.out.setq (I3.out.next D.out) (.bool bq1) (.slice p8' n8' c8')).setq i5 (.bool br1) (.slice p9' n9' c9')))
  have RRf := Lib.hid (Ri.drew ((R9.out.setq (I3.out.next D.out) (.bool bq1) (.slice p8' n8' c8')).setq i5 (.bool br1) (.slice p9' n9' c9')))
  clear i5
  go_wp2_with fail
  go_region
  go_wp2
  exact bodyPost_ret (v := .tuple #[.agg #[.bool bq1, (.slice p8' n8' c8')], .agg #[.bool br1, (.slice p9' n9' c9')]]) (by simp [results, Tryz.results20, go_sem, m0, m1, n0, n1]) rfl ⟨_, _, by rw [HQQ.out, HRR.out], RQf.out, RRf.out, HZ.out⟩
end Go.Proofs.YtlmklhffafcmmaaGreat

/- The reference's Quo: the Euclidean division of integers. -/
namespace Go.Proofs.YtlmklhffafcmmaaGreat
open Go.RowKit

theorem rquo_int (x y : Int) (v1 v2 : Value) (w : World) (k : Nat) (hk : k ≤ 90000) (hx : x.natAbs < D9 ^ k) (hy : y.natAbs < D9 ^ k) (h1 : Rz w v1 x) (h2 : Rz w v2 y) (hy0 : y ≠ 0) :
    Calls Tryz.prog 20 #[iV x v1, iV y v2] w (QIPost (x / y) (x % y) w) := by
  rcases Int.lt_or_le (x - q0 x y * y) 0 with hr | hr
  · rcases Int.lt_or_gt_of_ne hy0 with hs | hs
    · have h := rquo_neg2 x y v1 v2 w k hk hx hy h1 h2 hs hr
      obtain ⟨e1, e2⟩ := quo_neg2 hs hr
      rwa [e2, e1] at h
    · have h := rquo_neg1 x y v1 v2 w k hk hx hy h1 h2 hs hr
      obtain ⟨e1, e2⟩ := quo_neg1 hs hr
      rwa [e2, e1] at h
  · have h := rquo_pos x y v1 v2 w k hk hx hy h1 h2 hy0 hr
    obtain ⟨e1, e2⟩ := quo_pos hy0 hr
    rwa [e2, e1] at h
end Go.Proofs.YtlmklhffafcmmaaGreat
