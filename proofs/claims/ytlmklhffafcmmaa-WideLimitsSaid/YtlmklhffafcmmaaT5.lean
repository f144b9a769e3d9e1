/- What the theorem leans on, part 5: Comb, CmpR, Floor, Bs, RatOf, Dec, RefValid, RefDef. -/
import Derived.Test.YtlmklhffafcmmaaT4
import Derived.Test.YtlmklhffafcmmaaT3
import Derived.Test.YtlmklhffafcmmaaT2

/- The function wide.combine where nothing fails, with the function literals of wide.AddRatio and wide.MulRatio; these two functions. -/
namespace Go.Proofs.Ytlmklhffafcmmaa
open Go.RowKit

def ZC4 (x y z u : Value) (w : World) (g : Nat) : Prop := (w.cell? ⟨g, 0, none⟩ = some x ∧ w.cell? ⟨g, 1, none⟩ = some y ∧ w.cell? ⟨g, 2, none⟩ = some z ∧ w.cell? ⟨g, 3, none⟩ = some u) ∧ w.frozen? ⟨g, 0, none⟩ = false ∧ w.frozen? ⟨g, 1, none⟩ = false ∧ w.frozen? ⟨g, 2, none⟩ = false ∧ w.frozen? ⟨g, 3, none⟩ = false
section
variable {x y z u x' y' z' u' : Value} {w w2 w3 : World} {t : TypeId} {g : Nat}
theorem ZC4.next (h : ZC4 x y z u w2 g) (b : Below w2.heap.size w2 w3) : ZC4 x y z u w3 g :=
  ⟨⟨keep1 b h.1.1, keep1 b h.1.2.1, keep1 b h.1.2.2.1, keep1 b h.1.2.2.2⟩, keepf b h.1.1 h.2.1, keepf b h.1.2.1 h.2.2.1, keepf b h.1.2.2.1 h.2.2.2.1, keepf b h.1.2.2.2 h.2.2.2.2⟩
theorem ZC4.made0 (w2 : World) : ZC4 x y z u (w2.alloc (.cells #[x, y, z, u] t)) w2.heap.size := by
  refine ⟨⟨?_, ?_, ?_, ?_⟩, ?_, ?_, ?_, ?_⟩ <;> simp [go_sem]
theorem ZC4.made (hg : w2.heap.size = g) (b3 : Below (w2.alloc (.cells #[x, y, z, u] t)).heap.size (w2.alloc (.cells #[x, y, z, u] t)) w3) : ZC4 x y z u w3 g := by
  subst hg
  exact (ZC4.made0 w2).next b3
theorem ZC4.set (h : ZC4 x' y' z' u' w g) : ZC4 x y z u ((((w.setCell ⟨g, 0, none⟩ x).setCell ⟨g, 1, none⟩ y).setCell ⟨g, 2, none⟩ z).setCell ⟨g, 3, none⟩ u) g := by
  obtain ⟨⟨h1, h2, h3, h4⟩, h5, h6, h7, h8⟩ := h
  refine ⟨⟨?_, ?_, ?_, ?_⟩, ?_, ?_, ?_, ?_⟩ <;> simp [go_sem, h1, h2, h3, h4, h5, h6, h7, h8]
theorem Rd.set4 {v : Value} {xs : List Nat} {b0 b1 : Bool} {p p' : Option Addr} {n c n' c' : Nat} (h : Rd w v xs) (q : ZC4 (.bool b0) (.slice p n c) (.bool b1) (.slice p' n' c') w g) (x y z u : Value) : Rd ((((w.setCell ⟨g, 0, none⟩ x).setCell ⟨g, 1, none⟩ y).setCell ⟨g, 2, none⟩ z).setCell ⟨g, 3, none⟩ u) v xs := by
  obtain ⟨⟨h1, h2, h3, h4⟩, _⟩ := q
  refine (((h.set h1 (fun _ => by simp)).set (old := .slice p n c) ?_ (fun _ => by simp)).set (old := .bool b1) ?_ (fun _ => by simp)).set (old := .slice p' n' c') ?_ (fun _ => by simp) <;> simp [go_sem, h1, h2, h3, h4]
end
theorem far6 {a x : Nat} (h : a + 3 ≤ x) : ¬(x = a) ∧ ¬(x = a+1) ∧ ¬(x = a+1+1) ∧ ¬(a = x) ∧ ¬(a+1 = x) ∧ ¬(a+1+1 = x) ∧ a < x ∧ a+1 < x ∧ a+1+1 < x := ⟨by omega, by omega, by omega, by omega, by omega, by omega, by omega, by omega, by omega⟩
/-- A fraction lies in a block that is new. -/
def CutF (a b : Bool) (s1 s2 : Value) (X1 X2 : List Nat) (B : Nat) (wb wx : World) (g : Nat) : Prop := B ≤ g ∧ ZC4 (.bool a) s1 (.bool b) s2 wx g ∧ Rd wx s1 X1 ∧ Rd wx s2 X2 ∧ Below B wb wx ∧ g < wx.heap.size
section
variable {a b : Bool} {s1 s2 : Value} {X1 X2 : List Nat} {B : Nat} {wb w3 : World} {t : TypeId} {b0 b1 : Bool} {p p' : Option Addr} {n c n' c' g : Nat}
theorem CutF.k1 (r1 : Rd w3 s1 X1) (r2 : Rd w3 s2 X2) (h : Below B wb w3) (hB : B ≤ w3.heap.size) : CutF a b s1 s2 X1 X2 B wb (w3.alloc (.cells #[.bool a, s1, .bool b, s2] t)) w3.heap.size :=
  ⟨hB, ZC4.made0 w3, r1.alloc _, r2.alloc _, h.alloc hB _, by simp⟩
theorem CutF.k2 (q : ZC4 (.bool b0) (.slice p n c) (.bool b1) (.slice p' n' c') w3 g) (hg : B ≤ g) (r1 : Rd w3 s1 X1) (r2 : Rd w3 s2 X2) (h : Below B wb w3) :
    CutF a b s1 s2 X1 X2 B wb ((((w3.setCell ⟨g, 0, none⟩ (.bool a)).setCell ⟨g, 1, none⟩ s1).setCell ⟨g, 2, none⟩ (.bool b)).setCell ⟨g, 3, none⟩ s2) g :=
  ⟨hg, q.set, r1.set4 q _ _ _ _, r2.set4 q _ _ _ _, below_set4 h hg _ _ _ _, by
    have := World.block_lt_of_cell? w3 _ q.1.1
    simpa using this⟩
theorem CutF.drew {wx : World} (h : CutF a b s1 s2 X1 X2 B wb wx g) : CutF a b s1 s2 X1 X2 B wb wx.drew g := ⟨h.1, h.2.1, h.2.2.1, h.2.2.2.1, h.2.2.2.2.1.drew, h.2.2.2.2.2⟩
end

set_option maxRecDepth 100000 in
set_option maxHeartbeats 4000000 in
theorem combine_add (na1 nb1 na2 nb2 : Bool) (s1 t1 s2 t2 : ByteArray) (sg : Bool) (k A B : Nat) (w : World) (hf : FracOK 85 na1 nb1 na2 nb2 (bv s1) (bv t1) (bv s2) (bv t2) sg k) (hl : LowOK k (bv t1 * bv t2) A B)
    (v1 : vld na1 s1 = true) (v2 : vld nb1 t1 = true) (v3 : vld na2 s2 = true) (v4 : vld nb2 t2 = true) (g1 : 0 < sgV nb1 t1) (g2 : 0 < sgV nb2 t2) :
    Calls Try.prog 81 #[rat na1 s1 nb1 t1, rat na2 s2 nb2 t2, .func (Fn.func 85) #[] #[]] w (RPost ((sg != (nb1 != nb2)) && decide (A ≠ 0)) (bs A) false (bs B) 0 w) := by
  have z1 := vld_size v1
  have z2 := vld_size v2
  have z3 := vld_size v3
  have z4 := vld_size v4
  have HV1 := ValidRatio_any na1 nb1 s1 t1
  have HV2 := ValidRatio_any na2 nb2 s2 t2
  have hvr1 : vldR na1 s1 nb1 t1 = true := by unfold vldR; rw [v1, decide_eq_true g1]; rfl
  have hvr2 : vldR na2 s2 nb2 t2 = true := by unfold vldR; rw [v3, decide_eq_true g2]; rfl
  rw [hvr1] at HV1
  rw [hvr2] at HV2
  have HA := Lib.hid (fun w => HV1 w (by omega) (by omega))
  have HB := Lib.hid (fun w => HV2 w (by omega) (by omega))
  have HR1 := Lib.hid (fun w => read_any na1 s1 w (by omega) (vld_can v1))
  have HR2 := Lib.hid (fun w => read_any nb1 t1 w (by omega) (vld_can v2))
  have HR3 := Lib.hid (fun w => read_any na2 s2 w (by omega) (vld_can v3))
  have HR4 := Lib.hid (fun w => read_any nb2 t2 w (by omega) (vld_can v4))
  have HT := Lib.hid (fun y1 y2 w h1 h2 => times_any nb1 nb2 y1 y2 (bv t1) (bv t2) w h1 h2 (Nat.le_trans (len_top (bv_lt v2)) (by decide)) (Nat.le_trans (len_top (bv_lt v4)) (by decide)))
  have HF := Lib.hid hf
  have HL := Lib.hid (lowest_of hl sg (nb1 != nb2))
  clear HV1 HV2 hvr1 hvr2 v1 v2 v3 v4 g1 g2 hf hl
  unfold FracOK at HF
  generalize ((sg != (nb1 != nb2)) && decide (A ≠ 0)) = xb at *
  generalize (nb1 != nb2) = bb at *
  generalize bs A = xs at *
  generalize bs B = ys at *
  generalize bv t1 * bv t2 = nn at *
  generalize bv s1 = M1 at *
  generalize bv t1 = N1 at *
  generalize bv s2 = M2 at *
  generalize bv t2 = N2 at *
  unfold rat
  obtain ⟨w0, hw0⟩ : ∃ w0 : World, w0 = ((w.alloc (.cells #[.bool na1, .string s1, .bool nb1, .string t1] 64)).alloc (.cells #[.bool na2, .string s2, .bool nb2, .string t2] 64)).alloc (.cells #[.bool false, .string ⟨#[]⟩, .bool false, .string ⟨#[]⟩] 64) := ⟨_, rfl⟩
  have hb0 : Hid (Below w.heap.size w w0) := by rw [hw0]; exact (((Below.refl _ _).alloc (Nat.le_refl _) _).alloc (by simp) _).alloc (by simp; omega) _
  have i1 : ZC4 (.bool na1) (.string s1) (.bool nb1) (.string t1) w0 w.heap.size := by
    rw [hw0]; refine ⟨⟨?_, ?_, ?_, ?_⟩, ?_, ?_, ?_, ?_⟩ <;> simp [go_sem]
  have i2 : ZC4 (.bool na2) (.string s2) (.bool nb2) (.string t2) w0 (w.heap.size + 1) := by
    rw [hw0]; refine ⟨⟨?_, ?_, ?_, ?_⟩, ?_, ?_, ?_, ?_⟩ <;> simp [go_sem]
  have i3 : ZC4 (.bool false) (.string ⟨#[]⟩) (.bool false) (.string ⟨#[]⟩) w0 (w.heap.size + 1 + 1) := by
    rw [hw0]; refine ⟨⟨?_, ?_, ?_, ?_⟩, ?_, ?_, ?_, ?_⟩ <;> simp [go_sem]
  have hsz : w.heap.size + 3 ≤ w0.heap.size := by rw [hw0]; simp
  have I1 := Lib.hid i1
  have I2 := Lib.hid i2
  have I3 := Lib.hid i3
  have Hsz := Lib.hid hsz
  have Hw0 := Lib.hid hw0
  clear i1 i2 i3 hw0 hsz
  go_enter Try.func81, Try.ntmps81
  go_wp2_with fail
  rw [← Hw0.out]
  refine (HA.out _).mono ?_
  rintro e wa ⟨rfl, ba⟩
  obtain ⟨⟨q0, q1, q2, q3⟩, _⟩ := I2.out.next ba
  have BA := Lib.hid ba
  clear ba
  go_wp2_with fail
  refine (HB.out _).mono ?_
  rintro e wb ⟨rfl, hbb⟩
  have BB := Lib.hid (chain BA.out hbb)
  clear q0 q1 q2 q3 hbb
  obtain ⟨⟨k0, k1, k2, k3⟩, _⟩ := I1.out.next BB.out
  have HSB : Hid (w.heap.size + 3 ≤ wb.heap.size) := Nat.le_trans Hsz.out BB.out.size
  go_upto_region 3 with (fail)
  obtain ⟨jba, jbb, jbc, jbd, jbe, jbf, jbg, jbh, jbi⟩ := far6 HSB.out
  go_cut [8] (fun s8 wx => ∃ (g8 : Nat) (y1 y2 : Option Addr) (l1 c1 l2 c2 : Nat), s8 = .pointer (some ⟨g8, 0, none⟩) ∧ Hid (CutF na1 nb1 (.slice y1 l1 c1) (.slice y2 l2 c2) (Nm.dg W M1) (Nm.dg W N1) wb.heap.size wb wx g8))
  case first =>
    rename_i J0 K0 hRJ hMK
    go_region_held3 (fun W' => W'.cell? ⟨w.heap.size, 0, none⟩ = some (.bool na1) ∧ W'.cell? ⟨w.heap.size, 1, none⟩ = some (.string s1) ∧ W'.cell? ⟨w.heap.size, 2, none⟩ = some (.bool nb1) ∧ W'.cell? ⟨w.heap.size, 3, none⟩ = some (.string t1)) (go_keep)
      (first
        | (go_at_call 63; (with_reducible refine (HR1.out _).mono ?_); rintro e w1 ⟨v1, rfl, r1, b1⟩; (try (have b1 := undrew b1)); have d1 : Below wb.heap.size wb w1 := chain (by first | exact Below.refl _ _ | exact (Below.refl _ _).drew | exact below_one _ _ | exact ((Below.refl _ _).drew).alloc (Nat.le_refl _) _) b1; have c1 : Below wb.heap.size wb w1 := d1; have p0 := keep1 c1 k0; have p1 := keep1 c1 k1; have p2 := keep1 c1 k2; have p3 := keep1 c1 k3; obtain ⟨j1a, j1b, j1c, j1d, j1e, j1f, j1g, j1h, j1i⟩ := far6 (show w.heap.size + 3 ≤ w1.heap.size from Nat.le_trans HSB.out c1.size); (try (have A0 := Lib.hid (ZC4.made (g := wb.heap.size) rfl b1); obtain ⟨⟨A0a, A0b, A0c, A0d⟩, A0e, A0f, A0g, A0h⟩ := A0.out)); (try (have L01 := Lib.hid (apart_b (g := wb.heap.size) rfl b1); obtain ⟨l01x, l01y, l01z⟩ := L01.out)); have G1 := Lib.hid r1; obtain ⟨pp1, bb1, oo1, cc1, rfl, rr1⟩ := r1; clear rr1)
        | (go_at_call 63; (with_reducible refine (HR2.out _).mono ?_); rintro e w2 ⟨v2, rfl, r2, b2⟩; (try (have b2 := undrew b2)); have d2 : Below w1.heap.size w1 w2 := chain (by first | exact Below.refl _ _ | exact (Below.refl _ _).drew | exact below_one _ _ | exact ((Below.refl _ _).drew).alloc (Nat.le_refl _) _) b2; have c2 : Below wb.heap.size wb w2 := chain c1 d2; have p0 := keep1 c2 k0; have p1 := keep1 c2 k1; have p2 := keep1 c2 k2; have p3 := keep1 c2 k3; obtain ⟨j2a, j2b, j2c, j2d, j2e, j2f, j2g, j2h, j2i⟩ := far6 (show w.heap.size + 3 ≤ w2.heap.size from Nat.le_trans HSB.out c2.size); (try (have A1 := Lib.hid (ZC4.made (g := w1.heap.size) rfl b2); obtain ⟨⟨A1a, A1b, A1c, A1d⟩, A1e, A1f, A1g, A1h⟩ := A1.out)); (try (have A0 := Lib.hid (A0.out.next d2); obtain ⟨⟨A0a, A0b, A0c, A0d⟩, A0e, A0f, A0g, A0h⟩ := A0.out)); (try (have L02 := Lib.hid (apart_t L01.out d2.size); obtain ⟨l02x, l02y, l02z⟩ := L02.out)); (try (have L12 := Lib.hid (apart_b (g := w1.heap.size) rfl b2); obtain ⟨l12x, l12y, l12z⟩ := L12.out)); have G2 := Lib.hid (And.intro (G1.out.below d2 (Nat.le_refl _)) r2); obtain ⟨pp2, bb2, oo2, cc2, rfl, rr2⟩ := r2; clear rr2)
        | fail)
    all_goals
      obtain ⟨r1, r2⟩ := G2.out
      refine hMK _ _ (Met.intro (hRJ _ _ ?_))
      (repeat apply Exists.intro)
      refine ⟨?_, rfl⟩
      refine ⟨_, pp1, pp2, (Nm.dg W M1).length, cc1, (Nm.dg W N1).length, cc2, rfl, ?_⟩
      show CutF na1 nb1 (.slice pp1 _ cc1) (.slice pp2 _ cc2) (Nm.dg W M1) (Nm.dg W N1) wb.heap.size wb _ _
      have sA0 : wb.heap.size ≤ wb.heap.size := Nat.le_refl _
      have sA1 : wb.heap.size ≤ w1.heap.size := c1.size
      have sA2 : wb.heap.size ≤ w2.heap.size := c2.size
      first
        | with_reducible exact (CutF.k1 r1 r2 c2 sA2)
        | with_reducible exact (CutF.k2 A0.out sA0 r1 r2 c2)
        | with_reducible exact (CutF.k2 A1.out sA1 r1 r2 c2)
        | with_reducible exact (CutF.k1 r1 r2 c2 sA2).drew
        | with_reducible exact (CutF.k2 A0.out sA0 r1 r2 c2).drew
        | with_reducible exact (CutF.k2 A1.out sA1 r1 r2 c2).drew
        | fail
  case rest =>
    obtain ⟨g8, y1, y2, l1, c1, l2, c2, rfl, hcut⟩ := hcut
    obtain ⟨hg8, z8, r1, r2, bx, lg8⟩ := hcut.out
    have Z8 := Lib.hid z8
    have RR1 := Lib.hid r1
    have RR2 := Lib.hid r2
    have BX := Lib.hid (chain BB.out bx)
    have LG8 : Hid (w.heap.size + 3 ≤ g8) := Nat.le_trans HSB.out hg8
    have hsb2 : w.heap.size + 3 ≤ wc.heap.size := Nat.le_trans HSB.out bx.size
    clear HSB jba jbb jbc jbd jbe jbf jbg jbh jbi k0 k1 k2 k3 hcut hg8 z8 r1 r2 bx lg8
    have HSB := Lib.hid hsb2
    clear hsb2
    obtain ⟨⟨k0, k1, k2, k3⟩, _⟩ := I2.out.next BX.out
    go_upto_region 4 with (fail)
    obtain ⟨jba, jbb, jbc, jbd, jbe, jbf, jbg, jbh, jbi⟩ := far6 HSB.out
    go_cut [9] (fun s8 wx => ∃ (g8 : Nat) (y1 y2 : Option Addr) (l1 c1 l2 c2 : Nat), s8 = .pointer (some ⟨g8, 0, none⟩) ∧ Hid (CutF na2 nb2 (.slice y1 l1 c1) (.slice y2 l2 c2) (Nm.dg W M2) (Nm.dg W N2) wc.heap.size wc wx g8))
    case first =>
      rename_i J0 K0 hRJ hMK
      go_region_held3 (fun W' => W'.cell? ⟨w.heap.size + 1, 0, none⟩ = some (.bool na2) ∧ W'.cell? ⟨w.heap.size + 1, 1, none⟩ = some (.string s2) ∧ W'.cell? ⟨w.heap.size + 1, 2, none⟩ = some (.bool nb2) ∧ W'.cell? ⟨w.heap.size + 1, 3, none⟩ = some (.string t2)) (go_keep)
        (first
          | (go_at_call 63; (with_reducible refine (HR3.out _).mono ?_); rintro e w1 ⟨v1, rfl, r1, b1⟩; (try (have b1 := undrew b1)); have d1 : Below wc.heap.size wc w1 := chain (by first | exact Below.refl _ _ | exact (Below.refl _ _).drew | exact below_one _ _ | exact ((Below.refl _ _).drew).alloc (Nat.le_refl _) _) b1; have c1 : Below wc.heap.size wc w1 := d1; have p0 := keep1 c1 k0; have p1 := keep1 c1 k1; have p2 := keep1 c1 k2; have p3 := keep1 c1 k3; obtain ⟨j1a, j1b, j1c, j1d, j1e, j1f, j1g, j1h, j1i⟩ := far6 (show w.heap.size + 3 ≤ w1.heap.size from Nat.le_trans HSB.out c1.size); (try (have A0 := Lib.hid (ZC4.made (g := wc.heap.size) rfl b1); obtain ⟨⟨A0a, A0b, A0c, A0d⟩, A0e, A0f, A0g, A0h⟩ := A0.out)); (try (have L01 := Lib.hid (apart_b (g := wc.heap.size) rfl b1); obtain ⟨l01x, l01y, l01z⟩ := L01.out)); have G1 := Lib.hid r1; obtain ⟨pp1, bb1, oo1, cc1, rfl, rr1⟩ := r1; clear rr1)
          | (go_at_call 63; (with_reducible refine (HR4.out _).mono ?_); rintro e w2 ⟨v2, rfl, r2, b2⟩; (try (have b2 := undrew b2)); have d2 : Below w1.heap.size w1 w2 := chain (by first | exact Below.refl _ _ | exact (Below.refl _ _).drew | exact below_one _ _ | exact ((Below.refl _ _).drew).alloc (Nat.le_refl _) _) b2; have c2 : Below wc.heap.size wc w2 := chain c1 d2; have p0 := keep1 c2 k0; have p1 := keep1 c2 k1; have p2 := keep1 c2 k2; have p3 := keep1 c2 k3; obtain ⟨j2a, j2b, j2c, j2d, j2e, j2f, j2g, j2h, j2i⟩ := far6 (show w.heap.size + 3 ≤ w2.heap.size from Nat.le_trans HSB.out c2.size); (try (have A1 := Lib.hid (ZC4.made (g := w1.heap.size) rfl b2); obtain ⟨⟨A1a, A1b, A1c, A1d⟩, A1e, A1f, A1g, A1h⟩ := A1.out)); (try (have A0 := Lib.hid (A0.out.next d2); obtain ⟨⟨A0a, A0b, A0c, A0d⟩, A0e, A0f, A0g, A0h⟩ := A0.out)); (try (have L02 := Lib.hid (apart_t L01.out d2.size); obtain ⟨l02x, l02y, l02z⟩ := L02.out)); (try (have L12 := Lib.hid (apart_b (g := w1.heap.size) rfl b2); obtain ⟨l12x, l12y, l12z⟩ := L12.out)); have G2 := Lib.hid (And.intro (G1.out.below d2 (Nat.le_refl _)) r2); obtain ⟨pp2, bb2, oo2, cc2, rfl, rr2⟩ := r2; clear rr2)
          | fail)
      all_goals
        obtain ⟨r1, r2⟩ := G2.out
        refine hMK _ _ (Met.intro (hRJ _ _ ?_))
        (repeat apply Exists.intro)
        refine ⟨?_, rfl⟩
        refine ⟨_, pp1, pp2, (Nm.dg W M2).length, cc1, (Nm.dg W N2).length, cc2, rfl, ?_⟩
        show CutF na2 nb2 (.slice pp1 _ cc1) (.slice pp2 _ cc2) (Nm.dg W M2) (Nm.dg W N2) wc.heap.size wc _ _
        have sA0 : wc.heap.size ≤ wc.heap.size := Nat.le_refl _
        have sA1 : wc.heap.size ≤ w1.heap.size := c1.size
        have sA2 : wc.heap.size ≤ w2.heap.size := c2.size
        first
          | with_reducible exact (CutF.k1 r1 r2 c2 sA2)
          | with_reducible exact (CutF.k2 A0.out sA0 r1 r2 c2)
          | with_reducible exact (CutF.k2 A1.out sA1 r1 r2 c2)
          | with_reducible exact (CutF.k1 r1 r2 c2 sA2).drew
          | with_reducible exact (CutF.k2 A0.out sA0 r1 r2 c2).drew
          | with_reducible exact (CutF.k2 A1.out sA1 r1 r2 c2).drew
          | fail
    case rest =>
      obtain ⟨g9, y3, y4, l3, c3, l4, c4, rfl, hcut⟩ := hcut
      obtain ⟨hg9, z9, r3, r4, bx, lg9⟩ := hcut.out
      have RR3 : Hid (Rd wc.drew (.slice y3 l3 c3) (Nm.dg W M2)) := r3
      have RR4 : Hid (Rd wc.drew (.slice y4 l4 c4) (Nm.dg W N2)) := r4
      have SS1 : Hid (Rd wc.drew (.slice y1 l1 c1) (Nm.dg W M1)) := RR1.out.below bx.drew (Nat.le_refl _)
      have SS2 : Hid (Rd wc.drew (.slice y2 l2 c2) (Nm.dg W N1)) := RR2.out.below bx.drew (Nat.le_refl _)
      have BY := Lib.hid (chain BX.out bx)
      have LG9 : Hid (w.heap.size + 3 ≤ g9) := Nat.le_trans HSB.out hg9
      have z8b := Z8.out.next bx
      obtain ⟨⟨b0, b1, b2, b3⟩, _⟩ := z8b
      obtain ⟨⟨b4, b5, b6, b7⟩, _⟩ := z9
      clear HSB jba jbb jbc jbd jbe jbf jbg jbh jbi k0 k1 k2 k3 hcut hg9 r3 r4 bx lg9 RR1 RR2 Z8
      have k0 := b0
      have k1 := b1
      have k2 := b2
      have k3 := b3
      have k4 := b4
      have k5 := b5
      have k6 := b6
      have k7 := b7
      clear b0 b1 b2 b3 b4 b5 b6 b7
      have e1 : ¬ g8 = w.heap.size + 1 + 1 := by have := LG8.out; omega
      have e2 : ¬ w.heap.size + 1 + 1 = g8 := fun e => e1 e.symm
      have e3 : ¬ g9 = w.heap.size + 1 + 1 := by have := LG9.out; omega
      have e4 : ¬ w.heap.size + 1 + 1 = g9 := fun e => e3 e.symm
      go_wp2_with fail
      go_region_held3 (fun W' => W'.cell? ⟨g8, 0, none⟩ = some (.bool na1) ∧ W'.cell? ⟨g8, 1, none⟩ = some (.slice y1 l1 c1) ∧ W'.cell? ⟨g8, 2, none⟩ = some (.bool nb1) ∧ W'.cell? ⟨g8, 3, none⟩ = some (.slice y2 l2 c2) ∧ W'.cell? ⟨g9, 0, none⟩ = some (.bool na2) ∧ W'.cell? ⟨g9, 1, none⟩ = some (.slice y3 l3 c3) ∧ W'.cell? ⟨g9, 2, none⟩ = some (.bool nb2) ∧ W'.cell? ⟨g9, 3, none⟩ = some (.slice y4 l4 c4)) (go_keep)
        (first
          | (go_at_call 85; (with_reducible refine (HF.out _ _ _ _ _ SS1.out SS2.out RR3.out RR4.out).mono ?_); rintro e w1 ⟨v5, rfl, r5, b5⟩; have d1 := chain ((Below.refl _ _).drew) b5; have p0 := keep1 d1 k0; have p1 := keep1 d1 k1; have p2 := keep1 d1 k2; have p3 := keep1 d1 k3; have p4 := keep1 d1 k4; have p5 := keep1 d1 k5; have p6 := keep1 d1 k6; have p7 := keep1 d1 k7; have G1 := Lib.hid (And.intro r5 d1); have T2 := Lib.hid (SS2.out.below b5 (Nat.le_refl _)); have T4 := Lib.hid (RR4.out.below b5 (Nat.le_refl _)); obtain ⟨p5, q5, o5, c5, rfl, hr5⟩ := r5; clear hr5 b5)
          | (go_at_call 68; (with_reducible refine (HT.out _ _ _ T2.out T4.out).mono ?_); rintro e w2 ⟨v6, rfl, r6, b6⟩; have d2 := chain G1.out.2 b6; have p0 := keep1 d2 k0; have p1 := keep1 d2 k1; have p2 := keep1 d2 k2; have p3 := keep1 d2 k3; have p4 := keep1 d2 k4; have p5 := keep1 d2 k5; have p6 := keep1 d2 k6; have p7 := keep1 d2 k7; have G2 := Lib.hid (And.intro (G1.out.1.below b6 (Nat.le_refl _)) (And.intro r6 d2)); obtain ⟨p6, q6, o6, c6, rfl, hr6⟩ := r6; clear hr6 b6)
          | (go_at_call 106; (with_reducible refine (HL.out _ _ _ G2.out.1 G2.out.2.1).mono ?_); rintro e w3 ⟨rfl, b7⟩; have d3 := chain G2.out.2.2 b7; have p0 := keep1 d3 k0; have p1 := keep1 d3 k1; have p2 := keep1 d3 k2; have p3 := keep1 d3 k3; have p4 := keep1 d3 k4; have p5 := keep1 d3 k5; have p6 := keep1 d3 k6; have p7 := keep1 d3 k7; obtain ⟨⟨x0, x1, x2, x3⟩, x4, x5, x6, x7⟩ := I3.out.next (chain BY.out d3); have G3 := Lib.hid d3; unfold rat at *; clear b7)
          | fail)
      have HZ := Lib.hid (below_set4 (chain hb0.out (chain BY.out G3.out)) (g := w.heap.size + 1 + 1) (by omega) (.bool xb) (.string xs) (.bool false) (.string ys))
      go_wp2
      exact bodyPost_ret (v := .tuple #[.agg #[.bool xb, .string xs, .bool false, .string ys], .int .i64 0]) (by simp [results, Try.results81, go_sem, x0, x1, x2, x3]) rfl ⟨rfl, HZ.out⟩

set_option maxRecDepth 100000 in
set_option maxHeartbeats 4000000 in
theorem combine_mul (na1 nb1 na2 nb2 : Bool) (s1 t1 s2 t2 : ByteArray) (sg : Bool) (k A B : Nat) (w : World) (hf : FracOK 82 na1 nb1 na2 nb2 (bv s1) (bv t1) (bv s2) (bv t2) sg k) (hl : LowOK k (bv t1 * bv t2) A B)
    (v1 : vld na1 s1 = true) (v2 : vld nb1 t1 = true) (v3 : vld na2 s2 = true) (v4 : vld nb2 t2 = true) (g1 : 0 < sgV nb1 t1) (g2 : 0 < sgV nb2 t2) :
    Calls Try.prog 81 #[rat na1 s1 nb1 t1, rat na2 s2 nb2 t2, .func (Fn.func 82) #[] #[]] w (RPost ((sg != (nb1 != nb2)) && decide (A ≠ 0)) (bs A) false (bs B) 0 w) := by
  have z1 := vld_size v1
  have z2 := vld_size v2
  have z3 := vld_size v3
  have z4 := vld_size v4
  have HV1 := ValidRatio_any na1 nb1 s1 t1
  have HV2 := ValidRatio_any na2 nb2 s2 t2
  have hvr1 : vldR na1 s1 nb1 t1 = true := by unfold vldR; rw [v1, decide_eq_true g1]; rfl
  have hvr2 : vldR na2 s2 nb2 t2 = true := by unfold vldR; rw [v3, decide_eq_true g2]; rfl
  rw [hvr1] at HV1
  rw [hvr2] at HV2
  have HA := Lib.hid (fun w => HV1 w (by omega) (by omega))
  have HB := Lib.hid (fun w => HV2 w (by omega) (by omega))
  have HR1 := Lib.hid (fun w => read_any na1 s1 w (by omega) (vld_can v1))
  have HR2 := Lib.hid (fun w => read_any nb1 t1 w (by omega) (vld_can v2))
  have HR3 := Lib.hid (fun w => read_any na2 s2 w (by omega) (vld_can v3))
  have HR4 := Lib.hid (fun w => read_any nb2 t2 w (by omega) (vld_can v4))
  have HT := Lib.hid (fun y1 y2 w h1 h2 => times_any nb1 nb2 y1 y2 (bv t1) (bv t2) w h1 h2 (Nat.le_trans (len_top (bv_lt v2)) (by decide)) (Nat.le_trans (len_top (bv_lt v4)) (by decide)))
  have HF := Lib.hid hf
  have HL := Lib.hid (lowest_of hl sg (nb1 != nb2))
  clear HV1 HV2 hvr1 hvr2 v1 v2 v3 v4 g1 g2 hf hl
  unfold FracOK at HF
  generalize ((sg != (nb1 != nb2)) && decide (A ≠ 0)) = xb at *
  generalize (nb1 != nb2) = bb at *
  generalize bs A = xs at *
  generalize bs B = ys at *
  generalize bv t1 * bv t2 = nn at *
  generalize bv s1 = M1 at *
  generalize bv t1 = N1 at *
  generalize bv s2 = M2 at *
  generalize bv t2 = N2 at *
  unfold rat
  obtain ⟨w0, hw0⟩ : ∃ w0 : World, w0 = ((w.alloc (.cells #[.bool na1, .string s1, .bool nb1, .string t1] 64)).alloc (.cells #[.bool na2, .string s2, .bool nb2, .string t2] 64)).alloc (.cells #[.bool false, .string ⟨#[]⟩, .bool false, .string ⟨#[]⟩] 64) := ⟨_, rfl⟩
  have hb0 : Hid (Below w.heap.size w w0) := by rw [hw0]; exact (((Below.refl _ _).alloc (Nat.le_refl _) _).alloc (by simp) _).alloc (by simp; omega) _
  have i1 : ZC4 (.bool na1) (.string s1) (.bool nb1) (.string t1) w0 w.heap.size := by
    rw [hw0]; refine ⟨⟨?_, ?_, ?_, ?_⟩, ?_, ?_, ?_, ?_⟩ <;> simp [go_sem]
  have i2 : ZC4 (.bool na2) (.string s2) (.bool nb2) (.string t2) w0 (w.heap.size + 1) := by
    rw [hw0]; refine ⟨⟨?_, ?_, ?_, ?_⟩, ?_, ?_, ?_, ?_⟩ <;> simp [go_sem]
  have i3 : ZC4 (.bool false) (.string ⟨#[]⟩) (.bool false) (.string ⟨#[]⟩) w0 (w.heap.size + 1 + 1) := by
    rw [hw0]; refine ⟨⟨?_, ?_, ?_, ?_⟩, ?_, ?_, ?_, ?_⟩ <;> simp [go_sem]
  have hsz : w.heap.size + 3 ≤ w0.heap.size := by rw [hw0]; simp
  have I1 := Lib.hid i1
  have I2 := Lib.hid i2
  have I3 := Lib.hid i3
  have Hsz := Lib.hid hsz
  have Hw0 := Lib.hid hw0
  clear i1 i2 i3 hw0 hsz
  go_enter Try.func81, Try.ntmps81
  go_wp2_with fail
  rw [← Hw0.out]
  refine (HA.out _).mono ?_
  rintro e wa ⟨rfl, ba⟩
  obtain ⟨⟨q0, q1, q2, q3⟩, _⟩ := I2.out.next ba
  have BA := Lib.hid ba
  clear ba
  go_wp2_with fail
  refine (HB.out _).mono ?_
  rintro e wb ⟨rfl, hbb⟩
  have BB := Lib.hid (chain BA.out hbb)
  clear q0 q1 q2 q3 hbb
  obtain ⟨⟨k0, k1, k2, k3⟩, _⟩ := I1.out.next BB.out
  have HSB : Hid (w.heap.size + 3 ≤ wb.heap.size) := Nat.le_trans Hsz.out BB.out.size
  go_upto_region 3 with (fail)
  obtain ⟨jba, jbb, jbc, jbd, jbe, jbf, jbg, jbh, jbi⟩ := far6 HSB.out
  go_cut [8] (fun s8 wx => ∃ (g8 : Nat) (y1 y2 : Option Addr) (l1 c1 l2 c2 : Nat), s8 = .pointer (some ⟨g8, 0, none⟩) ∧ Hid (CutF na1 nb1 (.slice y1 l1 c1) (.slice y2 l2 c2) (Nm.dg W M1) (Nm.dg W N1) wb.heap.size wb wx g8))
  case first =>
    rename_i J0 K0 hRJ hMK
    go_region_held3 (fun W' => W'.cell? ⟨w.heap.size, 0, none⟩ = some (.bool na1) ∧ W'.cell? ⟨w.heap.size, 1, none⟩ = some (.string s1) ∧ W'.cell? ⟨w.heap.size, 2, none⟩ = some (.bool nb1) ∧ W'.cell? ⟨w.heap.size, 3, none⟩ = some (.string t1)) (go_keep)
      (first
        | (go_at_call 63; (with_reducible refine (HR1.out _).mono ?_); rintro e w1 ⟨v1, rfl, r1, b1⟩; (try (have b1 := undrew b1)); have d1 : Below wb.heap.size wb w1 := chain (by first | exact Below.refl _ _ | exact (Below.refl _ _).drew | exact below_one _ _ | exact ((Below.refl _ _).drew).alloc (Nat.le_refl _) _) b1; have c1 : Below wb.heap.size wb w1 := d1; have p0 := keep1 c1 k0; have p1 := keep1 c1 k1; have p2 := keep1 c1 k2; have p3 := keep1 c1 k3; obtain ⟨j1a, j1b, j1c, j1d, j1e, j1f, j1g, j1h, j1i⟩ := far6 (show w.heap.size + 3 ≤ w1.heap.size from Nat.le_trans HSB.out c1.size); (try (have A0 := Lib.hid (ZC4.made (g := wb.heap.size) rfl b1); obtain ⟨⟨A0a, A0b, A0c, A0d⟩, A0e, A0f, A0g, A0h⟩ := A0.out)); (try (have L01 := Lib.hid (apart_b (g := wb.heap.size) rfl b1); obtain ⟨l01x, l01y, l01z⟩ := L01.out)); have G1 := Lib.hid r1; obtain ⟨pp1, bb1, oo1, cc1, rfl, rr1⟩ := r1; clear rr1)
        | (go_at_call 63; (with_reducible refine (HR2.out _).mono ?_); rintro e w2 ⟨v2, rfl, r2, b2⟩; (try (have b2 := undrew b2)); have d2 : Below w1.heap.size w1 w2 := chain (by first | exact Below.refl _ _ | exact (Below.refl _ _).drew | exact below_one _ _ | exact ((Below.refl _ _).drew).alloc (Nat.le_refl _) _) b2; have c2 : Below wb.heap.size wb w2 := chain c1 d2; have p0 := keep1 c2 k0; have p1 := keep1 c2 k1; have p2 := keep1 c2 k2; have p3 := keep1 c2 k3; obtain ⟨j2a, j2b, j2c, j2d, j2e, j2f, j2g, j2h, j2i⟩ := far6 (show w.heap.size + 3 ≤ w2.heap.size from Nat.le_trans HSB.out c2.size); (try (have A1 := Lib.hid (ZC4.made (g := w1.heap.size) rfl b2); obtain ⟨⟨A1a, A1b, A1c, A1d⟩, A1e, A1f, A1g, A1h⟩ := A1.out)); (try (have A0 := Lib.hid (A0.out.next d2); obtain ⟨⟨A0a, A0b, A0c, A0d⟩, A0e, A0f, A0g, A0h⟩ := A0.out)); (try (have L02 := Lib.hid (apart_t L01.out d2.size); obtain ⟨l02x, l02y, l02z⟩ := L02.out)); (try (have L12 := Lib.hid (apart_b (g := w1.heap.size) rfl b2); obtain ⟨l12x, l12y, l12z⟩ := L12.out)); have G2 := Lib.hid (And.intro (G1.out.below d2 (Nat.le_refl _)) r2); obtain ⟨pp2, bb2, oo2, cc2, rfl, rr2⟩ := r2; clear rr2)
        | fail)
    all_goals
      obtain ⟨r1, r2⟩ := G2.out
      refine hMK _ _ (Met.intro (hRJ _ _ ?_))
      (repeat apply Exists.intro)
      refine ⟨?_, rfl⟩
      refine ⟨_, pp1, pp2, (Nm.dg W M1).length, cc1, (Nm.dg W N1).length, cc2, rfl, ?_⟩
      show CutF na1 nb1 (.slice pp1 _ cc1) (.slice pp2 _ cc2) (Nm.dg W M1) (Nm.dg W N1) wb.heap.size wb _ _
      have sA0 : wb.heap.size ≤ wb.heap.size := Nat.le_refl _
      have sA1 : wb.heap.size ≤ w1.heap.size := c1.size
      have sA2 : wb.heap.size ≤ w2.heap.size := c2.size
      first
        | with_reducible exact (CutF.k1 r1 r2 c2 sA2)
        | with_reducible exact (CutF.k2 A0.out sA0 r1 r2 c2)
        | with_reducible exact (CutF.k2 A1.out sA1 r1 r2 c2)
        | with_reducible exact (CutF.k1 r1 r2 c2 sA2).drew
        | with_reducible exact (CutF.k2 A0.out sA0 r1 r2 c2).drew
        | with_reducible exact (CutF.k2 A1.out sA1 r1 r2 c2).drew
        | fail
  case rest =>
    obtain ⟨g8, y1, y2, l1, c1, l2, c2, rfl, hcut⟩ := hcut
    obtain ⟨hg8, z8, r1, r2, bx, lg8⟩ := hcut.out
    have Z8 := Lib.hid z8
    have RR1 := Lib.hid r1
    have RR2 := Lib.hid r2
    have BX := Lib.hid (chain BB.out bx)
    have LG8 : Hid (w.heap.size + 3 ≤ g8) := Nat.le_trans HSB.out hg8
    have hsb2 : w.heap.size + 3 ≤ wc.heap.size := Nat.le_trans HSB.out bx.size
    clear HSB jba jbb jbc jbd jbe jbf jbg jbh jbi k0 k1 k2 k3 hcut hg8 z8 r1 r2 bx lg8
    have HSB := Lib.hid hsb2
    clear hsb2
    obtain ⟨⟨k0, k1, k2, k3⟩, _⟩ := I2.out.next BX.out
    go_upto_region 4 with (fail)
    obtain ⟨jba, jbb, jbc, jbd, jbe, jbf, jbg, jbh, jbi⟩ := far6 HSB.out
    go_cut [9] (fun s8 wx => ∃ (g8 : Nat) (y1 y2 : Option Addr) (l1 c1 l2 c2 : Nat), s8 = .pointer (some ⟨g8, 0, none⟩) ∧ Hid (CutF na2 nb2 (.slice y1 l1 c1) (.slice y2 l2 c2) (Nm.dg W M2) (Nm.dg W N2) wc.heap.size wc wx g8))
    case first =>
      rename_i J0 K0 hRJ hMK
      go_region_held3 (fun W' => W'.cell? ⟨w.heap.size + 1, 0, none⟩ = some (.bool na2) ∧ W'.cell? ⟨w.heap.size + 1, 1, none⟩ = some (.string s2) ∧ W'.cell? ⟨w.heap.size + 1, 2, none⟩ = some (.bool nb2) ∧ W'.cell? ⟨w.heap.size + 1, 3, none⟩ = some (.string t2)) (go_keep)
        (first
          | (go_at_call 63; (with_reducible refine (HR3.out _).mono ?_); rintro e w1 ⟨v1, rfl, r1, b1⟩; (try (have b1 := undrew b1)); have d1 : Below wc.heap.size wc w1 := chain (by first | exact Below.refl _ _ | exact (Below.refl _ _).drew | exact below_one _ _ | exact ((Below.refl _ _).drew).alloc (Nat.le_refl _) _) b1; have c1 : Below wc.heap.size wc w1 := d1; have p0 := keep1 c1 k0; have p1 := keep1 c1 k1; have p2 := keep1 c1 k2; have p3 := keep1 c1 k3; obtain ⟨j1a, j1b, j1c, j1d, j1e, j1f, j1g, j1h, j1i⟩ := far6 (show w.heap.size + 3 ≤ w1.heap.size from Nat.le_trans HSB.out c1.size); (try (have A0 := Lib.hid (ZC4.made (g := wc.heap.size) rfl b1); obtain ⟨⟨A0a, A0b, A0c, A0d⟩, A0e, A0f, A0g, A0h⟩ := A0.out)); (try (have L01 := Lib.hid (apart_b (g := wc.heap.size) rfl b1); obtain ⟨l01x, l01y, l01z⟩ := L01.out)); have G1 := Lib.hid r1; obtain ⟨pp1, bb1, oo1, cc1, rfl, rr1⟩ := r1; clear rr1)
          | (go_at_call 63; (with_reducible refine (HR4.out _).mono ?_); rintro e w2 ⟨v2, rfl, r2, b2⟩; (try (have b2 := undrew b2)); have d2 : Below w1.heap.size w1 w2 := chain (by first | exact Below.refl _ _ | exact (Below.refl _ _).drew | exact below_one _ _ | exact ((Below.refl _ _).drew).alloc (Nat.le_refl _) _) b2; have c2 : Below wc.heap.size wc w2 := chain c1 d2; have p0 := keep1 c2 k0; have p1 := keep1 c2 k1; have p2 := keep1 c2 k2; have p3 := keep1 c2 k3; obtain ⟨j2a, j2b, j2c, j2d, j2e, j2f, j2g, j2h, j2i⟩ := far6 (show w.heap.size + 3 ≤ w2.heap.size from Nat.le_trans HSB.out c2.size); (try (have A1 := Lib.hid (ZC4.made (g := w1.heap.size) rfl b2); obtain ⟨⟨A1a, A1b, A1c, A1d⟩, A1e, A1f, A1g, A1h⟩ := A1.out)); (try (have A0 := Lib.hid (A0.out.next d2); obtain ⟨⟨A0a, A0b, A0c, A0d⟩, A0e, A0f, A0g, A0h⟩ := A0.out)); (try (have L02 := Lib.hid (apart_t L01.out d2.size); obtain ⟨l02x, l02y, l02z⟩ := L02.out)); (try (have L12 := Lib.hid (apart_b (g := w1.heap.size) rfl b2); obtain ⟨l12x, l12y, l12z⟩ := L12.out)); have G2 := Lib.hid (And.intro (G1.out.below d2 (Nat.le_refl _)) r2); obtain ⟨pp2, bb2, oo2, cc2, rfl, rr2⟩ := r2; clear rr2)
          | fail)
      all_goals
        obtain ⟨r1, r2⟩ := G2.out
        refine hMK _ _ (Met.intro (hRJ _ _ ?_))
        (repeat apply Exists.intro)
        refine ⟨?_, rfl⟩
        refine ⟨_, pp1, pp2, (Nm.dg W M2).length, cc1, (Nm.dg W N2).length, cc2, rfl, ?_⟩
        show CutF na2 nb2 (.slice pp1 _ cc1) (.slice pp2 _ cc2) (Nm.dg W M2) (Nm.dg W N2) wc.heap.size wc _ _
        have sA0 : wc.heap.size ≤ wc.heap.size := Nat.le_refl _
        have sA1 : wc.heap.size ≤ w1.heap.size := c1.size
        have sA2 : wc.heap.size ≤ w2.heap.size := c2.size
        first
          | with_reducible exact (CutF.k1 r1 r2 c2 sA2)
          | with_reducible exact (CutF.k2 A0.out sA0 r1 r2 c2)
          | with_reducible exact (CutF.k2 A1.out sA1 r1 r2 c2)
          | with_reducible exact (CutF.k1 r1 r2 c2 sA2).drew
          | with_reducible exact (CutF.k2 A0.out sA0 r1 r2 c2).drew
          | with_reducible exact (CutF.k2 A1.out sA1 r1 r2 c2).drew
          | fail
    case rest =>
      obtain ⟨g9, y3, y4, l3, c3, l4, c4, rfl, hcut⟩ := hcut
      obtain ⟨hg9, z9, r3, r4, bx, lg9⟩ := hcut.out
      have RR3 : Hid (Rd wc.drew (.slice y3 l3 c3) (Nm.dg W M2)) := r3
      have RR4 : Hid (Rd wc.drew (.slice y4 l4 c4) (Nm.dg W N2)) := r4
      have SS1 : Hid (Rd wc.drew (.slice y1 l1 c1) (Nm.dg W M1)) := RR1.out.below bx.drew (Nat.le_refl _)
      have SS2 : Hid (Rd wc.drew (.slice y2 l2 c2) (Nm.dg W N1)) := RR2.out.below bx.drew (Nat.le_refl _)
      have BY := Lib.hid (chain BX.out bx)
      have LG9 : Hid (w.heap.size + 3 ≤ g9) := Nat.le_trans HSB.out hg9
      have z8b := Z8.out.next bx
      obtain ⟨⟨b0, b1, b2, b3⟩, _⟩ := z8b
      obtain ⟨⟨b4, b5, b6, b7⟩, _⟩ := z9
      clear HSB jba jbb jbc jbd jbe jbf jbg jbh jbi k0 k1 k2 k3 hcut hg9 r3 r4 bx lg9 RR1 RR2 Z8
      have k0 := b0
      have k1 := b1
      have k2 := b2
      have k3 := b3
      have k4 := b4
      have k5 := b5
      have k6 := b6
      have k7 := b7
      clear b0 b1 b2 b3 b4 b5 b6 b7
      have e1 : ¬ g8 = w.heap.size + 1 + 1 := by have := LG8.out; omega
      have e2 : ¬ w.heap.size + 1 + 1 = g8 := fun e => e1 e.symm
      have e3 : ¬ g9 = w.heap.size + 1 + 1 := by have := LG9.out; omega
      have e4 : ¬ w.heap.size + 1 + 1 = g9 := fun e => e3 e.symm
      go_wp2_with fail
      go_region_held3 (fun W' => W'.cell? ⟨g8, 0, none⟩ = some (.bool na1) ∧ W'.cell? ⟨g8, 1, none⟩ = some (.slice y1 l1 c1) ∧ W'.cell? ⟨g8, 2, none⟩ = some (.bool nb1) ∧ W'.cell? ⟨g8, 3, none⟩ = some (.slice y2 l2 c2) ∧ W'.cell? ⟨g9, 0, none⟩ = some (.bool na2) ∧ W'.cell? ⟨g9, 1, none⟩ = some (.slice y3 l3 c3) ∧ W'.cell? ⟨g9, 2, none⟩ = some (.bool nb2) ∧ W'.cell? ⟨g9, 3, none⟩ = some (.slice y4 l4 c4)) (go_keep)
        (first
          | (go_at_call 82; (with_reducible refine (HF.out _ _ _ _ _ SS1.out SS2.out RR3.out RR4.out).mono ?_); rintro e w1 ⟨v5, rfl, r5, b5⟩; have d1 := chain ((Below.refl _ _).drew) b5; have p0 := keep1 d1 k0; have p1 := keep1 d1 k1; have p2 := keep1 d1 k2; have p3 := keep1 d1 k3; have p4 := keep1 d1 k4; have p5 := keep1 d1 k5; have p6 := keep1 d1 k6; have p7 := keep1 d1 k7; have G1 := Lib.hid (And.intro r5 d1); have T2 := Lib.hid (SS2.out.below b5 (Nat.le_refl _)); have T4 := Lib.hid (RR4.out.below b5 (Nat.le_refl _)); obtain ⟨p5, q5, o5, c5, rfl, hr5⟩ := r5; clear hr5 b5)
          | (go_at_call 68; (with_reducible refine (HT.out _ _ _ T2.out T4.out).mono ?_); rintro e w2 ⟨v6, rfl, r6, b6⟩; have d2 := chain G1.out.2 b6; have p0 := keep1 d2 k0; have p1 := keep1 d2 k1; have p2 := keep1 d2 k2; have p3 := keep1 d2 k3; have p4 := keep1 d2 k4; have p5 := keep1 d2 k5; have p6 := keep1 d2 k6; have p7 := keep1 d2 k7; have G2 := Lib.hid (And.intro (G1.out.1.below b6 (Nat.le_refl _)) (And.intro r6 d2)); obtain ⟨p6, q6, o6, c6, rfl, hr6⟩ := r6; clear hr6 b6)
          | (go_at_call 106; (with_reducible refine (HL.out _ _ _ G2.out.1 G2.out.2.1).mono ?_); rintro e w3 ⟨rfl, b7⟩; have d3 := chain G2.out.2.2 b7; have p0 := keep1 d3 k0; have p1 := keep1 d3 k1; have p2 := keep1 d3 k2; have p3 := keep1 d3 k3; have p4 := keep1 d3 k4; have p5 := keep1 d3 k5; have p6 := keep1 d3 k6; have p7 := keep1 d3 k7; obtain ⟨⟨x0, x1, x2, x3⟩, x4, x5, x6, x7⟩ := I3.out.next (chain BY.out d3); have G3 := Lib.hid d3; unfold rat at *; clear b7)
          | fail)
      have HZ := Lib.hid (below_set4 (chain hb0.out (chain BY.out G3.out)) (g := w.heap.size + 1 + 1) (by omega) (.bool xb) (.string xs) (.bool false) (.string ys))
      go_wp2
      exact bodyPost_ret (v := .tuple #[.agg #[.bool xb, .string xs, .bool false, .string ys], .int .i64 0]) (by simp [results, Try.results81, go_sem, x0, x1, x2, x3]) rfl ⟨rfl, HZ.out⟩

set_option maxRecDepth 100000 in
set_option maxHeartbeats 2000000 in
theorem AddRatio_ok (na1 nb1 na2 nb2 : Bool) (s1 t1 s2 t2 : ByteArray) (sg : Bool) (k A B : Nat) (w : World) (hf : FracOK 85 na1 nb1 na2 nb2 (bv s1) (bv t1) (bv s2) (bv t2) sg k) (hl : LowOK k (bv t1 * bv t2) A B)
    (v1 : vld na1 s1 = true) (v2 : vld nb1 t1 = true) (v3 : vld na2 s2 = true) (v4 : vld nb2 t2 = true) (g1 : 0 < sgV nb1 t1) (g2 : 0 < sgV nb2 t2) :
    Calls Try.prog 51 #[rat na1 s1 nb1 t1, rat na2 s2 nb2 t2] w (RPost ((sg != (nb1 != nb2)) && decide (A ≠ 0)) (bs A) false (bs B) 0 w) := by
  have HC := Lib.hid (fun w => combine_add na1 nb1 na2 nb2 s1 t1 s2 t2 sg k A B w hf hl v1 v2 v3 v4 g1 g2)
  clear hf hl v1 v2 v3 v4 g1 g2
  generalize ((sg != (nb1 != nb2)) && decide (A ≠ 0)) = xb at *
  generalize bs A = xs at *
  generalize bs B = ys at *
  unfold rat at HC ⊢
  obtain ⟨w0, hw0⟩ : ∃ w0 : World, w0 = ((w.alloc (.cells #[.bool na1, .string s1, .bool nb1, .string t1] 64)).alloc (.cells #[.bool na2, .string s2, .bool nb2, .string t2] 64)).alloc (.cells #[.bool false, .string ⟨#[]⟩, .bool false, .string ⟨#[]⟩] 64) := ⟨_, rfl⟩
  have hb0 : Hid (Below w.heap.size w w0) := by rw [hw0]; exact (((Below.refl _ _).alloc (Nat.le_refl _) _).alloc (by simp) _).alloc (by simp; omega) _
  have i3 : ZC4 (.bool false) (.string ⟨#[]⟩) (.bool false) (.string ⟨#[]⟩) w0 (w.heap.size + 1 + 1) := by
    rw [hw0]; refine ⟨⟨?_, ?_, ?_, ?_⟩, ?_, ?_, ?_, ?_⟩ <;> simp [go_sem]
  have I3 := Lib.hid i3
  have Hw0 := Lib.hid hw0
  clear i3 hw0
  go_enter Try.func51, Try.ntmps51
  go_wp2_with fail
  rw [← Hw0.out]
  refine (HC.out _).mono ?_
  rintro e wc ⟨rfl, bc⟩
  obtain ⟨⟨x0, x1, x2, x3⟩, x4, x5, x6, x7⟩ := I3.out.next bc
  have HZ := Lib.hid (below_set4 (chain hb0.out bc) (g := w.heap.size + 1 + 1) (by omega) (.bool xb) (.string xs) (.bool false) (.string ys))
  unfold rat at *
  clear bc
  go_wp2
  exact bodyPost_ret (v := .tuple #[.agg #[.bool xb, .string xs, .bool false, .string ys], .int .i64 0]) (by simp [results, Try.results51, go_sem, x0, x1, x2, x3]) rfl ⟨rfl, HZ.out⟩

set_option maxRecDepth 100000 in
set_option maxHeartbeats 2000000 in
theorem MulRatio_ok (na1 nb1 na2 nb2 : Bool) (s1 t1 s2 t2 : ByteArray) (sg : Bool) (k A B : Nat) (w : World) (hf : FracOK 82 na1 nb1 na2 nb2 (bv s1) (bv t1) (bv s2) (bv t2) sg k) (hl : LowOK k (bv t1 * bv t2) A B)
    (v1 : vld na1 s1 = true) (v2 : vld nb1 t1 = true) (v3 : vld na2 s2 = true) (v4 : vld nb2 t2 = true) (g1 : 0 < sgV nb1 t1) (g2 : 0 < sgV nb2 t2) :
    Calls Try.prog 47 #[rat na1 s1 nb1 t1, rat na2 s2 nb2 t2] w (RPost ((sg != (nb1 != nb2)) && decide (A ≠ 0)) (bs A) false (bs B) 0 w) := by
  have HC := Lib.hid (fun w => combine_mul na1 nb1 na2 nb2 s1 t1 s2 t2 sg k A B w hf hl v1 v2 v3 v4 g1 g2)
  clear hf hl v1 v2 v3 v4 g1 g2
  generalize ((sg != (nb1 != nb2)) && decide (A ≠ 0)) = xb at *
  generalize bs A = xs at *
  generalize bs B = ys at *
  unfold rat at HC ⊢
  obtain ⟨w0, hw0⟩ : ∃ w0 : World, w0 = ((w.alloc (.cells #[.bool na1, .string s1, .bool nb1, .string t1] 64)).alloc (.cells #[.bool na2, .string s2, .bool nb2, .string t2] 64)).alloc (.cells #[.bool false, .string ⟨#[]⟩, .bool false, .string ⟨#[]⟩] 64) := ⟨_, rfl⟩
  have hb0 : Hid (Below w.heap.size w w0) := by rw [hw0]; exact (((Below.refl _ _).alloc (Nat.le_refl _) _).alloc (by simp) _).alloc (by simp; omega) _
  have i3 : ZC4 (.bool false) (.string ⟨#[]⟩) (.bool false) (.string ⟨#[]⟩) w0 (w.heap.size + 1 + 1) := by
    rw [hw0]; refine ⟨⟨?_, ?_, ?_, ?_⟩, ?_, ?_, ?_, ?_⟩ <;> simp [go_sem]
  have I3 := Lib.hid i3
  have Hw0 := Lib.hid hw0
  clear i3 hw0
  go_enter Try.func47, Try.ntmps47
  go_wp2_with fail
  rw [← Hw0.out]
  refine (HC.out _).mono ?_
  rintro e wc ⟨rfl, bc⟩
  obtain ⟨⟨x0, x1, x2, x3⟩, x4, x5, x6, x7⟩ := I3.out.next bc
  have HZ := Lib.hid (below_set4 (chain hb0.out bc) (g := w.heap.size + 1 + 1) (by omega) (.bool xb) (.string xs) (.bool false) (.string ys))
  unfold rat at *
  clear bc
  go_wp2
  exact bodyPost_ret (v := .tuple #[.agg #[.bool xb, .string xs, .bool false, .string ys], .int .i64 0]) (by simp [results, Try.results47, go_sem, x0, x1, x2, x3]) rfl ⟨rfl, HZ.out⟩

end Go.Proofs.Ytlmklhffafcmmaa

/- The function wide.CompareRatio of two valid ratios that are not negative and have the same sign. -/
namespace Go.Proofs.Ytlmklhffafcmmaa
open Go.RowKit

def CRPost (c : Int) (w : World) (e : Ending) (w' : World) : Prop := e = .returned (.tuple #[.int .i64 c, .int .i64 0]) ∧ Below w.heap.size w w'

set_option maxRecDepth 100000 in
set_option maxHeartbeats 4000000 in
theorem CompareRatio_pos (na1 nb1 na2 nb2 : Bool) (s1 t1 s2 t2 : ByteArray) (w : World)
    (v1 : vld na1 s1 = true) (v2 : vld nb1 t1 = true) (v3 : vld na2 s2 = true) (v4 : vld nb2 t2 = true) (g1 : 0 < sgV nb1 t1) (g2 : 0 < sgV nb2 t2) (hs : sgV na1 s1 = sgV na2 s2) (hn : na1 = false) :
    Calls Try.prog 52 #[rat na1 s1 nb1 t1, rat na2 s2 nb2 t2] w (CRPost (cmpN (bv s1 * bv t2) (bv s2 * bv t1)) w) := by
  subst hn
  have z1 := vld_size v1
  have z2 := vld_size v2
  have z3 := vld_size v3
  have z4 := vld_size v4
  have HV1 := ValidRatio_any false nb1 s1 t1
  have HV2 := ValidRatio_any na2 nb2 s2 t2
  have hvr1 : vldR false s1 nb1 t1 = true := by unfold vldR; rw [v1, decide_eq_true g1]; rfl
  have hvr2 : vldR na2 s2 nb2 t2 = true := by unfold vldR; rw [v3, decide_eq_true g2]; rfl
  rw [hvr1] at HV1
  rw [hvr2] at HV2
  have HA := Lib.hid (fun w => HV1 w (by omega) (by omega))
  have HB := Lib.hid (fun w => HV2 w (by omega) (by omega))
  have HR1 := Lib.hid (fun w => read_any false s1 w (by omega) (vld_can v1))
  have HR2 := Lib.hid (fun w => read_any nb1 t1 w (by omega) (vld_can v2))
  have HR3 := Lib.hid (fun w => read_any na2 s2 w (by omega) (vld_can v3))
  have HR4 := Lib.hid (fun w => read_any nb2 t2 w (by omega) (vld_can v4))
  have HS1 := Lib.hid (fun w => Sign_any false s1 w (by omega))
  have HS2 := Lib.hid (fun w => Sign_any na2 s2 w (by omega))
  rw [hs] at HS1
  have l1 := Nat.le_trans (len_top (bv_lt v1)) (by decide : 1024 ≤ 1000000000)
  have l2 := Nat.le_trans (len_top (bv_lt v2)) (by decide : 1024 ≤ 1000000000)
  have l3 := Nat.le_trans (len_top (bv_lt v3)) (by decide : 1024 ≤ 1000000000)
  have l4 := Nat.le_trans (len_top (bv_lt v4)) (by decide : 1024 ≤ 1000000000)
  have HM1 : Hid (∀ x1 x2 w, Rd w x1 (Nm.dg W (bv s1)) → Rd w x2 (Nm.dg W (bv t2)) → Calls Try.prog 87 #[x1, x2] w (Gives (bv s1 * bv t2) w)) := by
    intro x1 x2 w h1 h2
    have h := mulLimbs_any x1 x2 _ _ w h1 h2 l1 l4 (Nm.dig_dg W2 _) (Nm.dig_dg W2 _)
    rwa [Nm.val_dg W2, Nm.val_dg W2] at h
  have HM2 : Hid (∀ x1 x2 w, Rd w x1 (Nm.dg W (bv s2)) → Rd w x2 (Nm.dg W (bv t1)) → Calls Try.prog 87 #[x1, x2] w (Gives (bv s2 * bv t1) w)) := by
    intro x1 x2 w h1 h2
    have h := mulLimbs_any x1 x2 _ _ w h1 h2 l3 l2 (Nm.dig_dg W2 _) (Nm.dig_dg W2 _)
    rwa [Nm.val_dg W2, Nm.val_dg W2] at h
  have lm1 : (Nm.dg W (bv s1 * bv t2)).length ≤ 1000000000 := Nat.le_trans (len_top3 (bv_lt v1) (bv_lt v4)) (by decide)
  have lm2 : (Nm.dg W (bv s2 * bv t1)).length ≤ 1000000000 := Nat.le_trans (len_top3 (bv_lt v3) (bv_lt v2)) (by decide)
  have HC : Hid (∀ x1 x2 w, Rd w x1 (Nm.dg W (bv s1 * bv t2)) → Rd w x2 (Nm.dg W (bv s2 * bv t1)) → Calls Try.prog 88 #[x1, x2] w (CmpPost (cmpN (bv s1 * bv t2) (bv s2 * bv t1)) w)) := by
    intro x1 x2 w h1 h2
    have h := compareLimbs_any x1 x2 _ _ w h1 h2 lm1 lm2 (Nm.dig_dg W2 _) (Nm.dig_dg W2 _) (Nm.nrm_dg W2 _) (Nm.nrm_dg W2 _)
    rwa [Nm.val_dg W2, Nm.val_dg W2] at h
  clear HV1 HV2 hvr1 hvr2 v1 v2 v3 v4 g1 g2 hs l1 l2 l3 l4 lm1 lm2
  generalize cmpN (bv s1 * bv t2) (bv s2 * bv t1) = cc at *
  generalize bv s1 * bv t2 = K1 at *
  generalize bv s2 * bv t1 = K2 at *
  generalize bv s1 = M1 at *
  generalize bv t1 = N1 at *
  generalize bv s2 = M2 at *
  generalize bv t2 = N2 at *
  generalize sgV na2 s2 = sg at *
  unfold rat
  obtain ⟨w0, hw0⟩ : ∃ w0 : World, w0 = (w.alloc (.cells #[.bool false, .string s1, .bool nb1, .string t1] 64)).alloc (.cells #[.bool na2, .string s2, .bool nb2, .string t2] 64) := ⟨_, rfl⟩
  have hb0 : Hid (Below w.heap.size w w0) := by rw [hw0]; exact ((Below.refl _ _).alloc (Nat.le_refl _) _).alloc (by simp) _
  have i1 : ZC4 (.bool false) (.string s1) (.bool nb1) (.string t1) w0 w.heap.size := by
    rw [hw0]; refine ⟨⟨?_, ?_, ?_, ?_⟩, ?_, ?_, ?_, ?_⟩ <;> simp [go_sem]
  have i2 : ZC4 (.bool na2) (.string s2) (.bool nb2) (.string t2) w0 (w.heap.size + 1) := by
    rw [hw0]; refine ⟨⟨?_, ?_, ?_, ?_⟩, ?_, ?_, ?_, ?_⟩ <;> simp [go_sem]
  have I1 := Lib.hid i1
  have I2 := Lib.hid i2
  have Hw0 := Lib.hid hw0
  clear i1 i2 hw0
  go_enter Try.func52, Try.ntmps52
  go_wp2_with fail
  rw [← Hw0.out]
  refine (HA.out _).mono ?_
  rintro e wa ⟨rfl, ba⟩
  obtain ⟨⟨q0, q1, q2, q3⟩, _⟩ := I2.out.next ba
  have BA := Lib.hid ba
  clear ba
  go_wp2_with fail
  refine (HB.out _).mono ?_
  rintro e wb ⟨rfl, hbb⟩
  have BB := Lib.hid (chain BA.out hbb)
  clear q0 q1 q2 q3 hbb
  obtain ⟨⟨k0, k1, k2, k3⟩, _⟩ := I1.out.next BB.out
  obtain ⟨⟨k4, k5, k6, k7⟩, _⟩ := I2.out.next BB.out
  go_wp2_with fail
  go_region_held3 (fun W' => W'.cell? ⟨w.heap.size, 0, none⟩ = some (.bool false) ∧ W'.cell? ⟨w.heap.size, 1, none⟩ = some (.string s1) ∧ W'.cell? ⟨w.heap.size + 1, 0, none⟩ = some (.bool na2) ∧ W'.cell? ⟨w.heap.size + 1, 1, none⟩ = some (.string s2)) (go_keep)
    (first
      | (go_at_call 16; (with_reducible refine (HS1.out _).mono ?_); rintro e w1 ⟨rfl, b1⟩; have d1 := chain ((Below.refl _ _).drew) b1; have p0 := keep1 d1 k0; have p1 := keep1 d1 k1; have p4 := keep1 d1 k4; have p5 := keep1 d1 k5; have G1 := Lib.hid d1; clear b1)
      | (go_at_call 16; (with_reducible refine (HS2.out _).mono ?_); rintro e w2 ⟨rfl, b2⟩; have d2 := chain G1.out b2; have p0 := keep1 d2 k0; have p1 := keep1 d2 k1; have p4 := keep1 d2 k4; have p5 := keep1 d2 k5; have G2 := Lib.hid d2; clear b2)
      | fail)
  have C2 := Lib.hid (chain BB.out G2.out)
  clear k0 k1 k2 k3 k4 k5 k6 k7 p0 p1 p4 p5 G1 G2 d1 d2
  obtain ⟨⟨m0, m1, k2, k3⟩, _⟩ := I1.out.next C2.out
  obtain ⟨⟨k4, k5, m2, m3⟩, _⟩ := I2.out.next C2.out
  have hfl := field_limbs
  go_wp2_with fail
  go_region_held3 (fun W' => W'.cell? ⟨w.heap.size, 0, none⟩ = some (.bool false) ∧ W'.cell? ⟨w.heap.size, 1, none⟩ = some (.string s1) ∧ W'.cell? ⟨w.heap.size + 1, 2, none⟩ = some (.bool nb2) ∧ W'.cell? ⟨w.heap.size + 1, 3, none⟩ = some (.string t2)) (go_keep)
    (first
      | (go_at_call 63; (with_reducible refine (HR1.out _).mono ?_); rintro e wa1 ⟨v1, rfl, r1, b1⟩; have d1 := chain ((Below.refl w2.heap.size w2).drew) b1; have p0 := keep1 d1 m0; have p1 := keep1 d1 m1; have p2 := keep1 d1 m2; have p3 := keep1 d1 m3; have waG1 := Lib.hid (And.intro r1 d1); obtain ⟨x1, x2, x3, x4, rfl, x5⟩ := r1; clear x5 b1)
      | (go_at_call 63; (with_reducible refine (HR4.out _).mono ?_); rintro e wa2 ⟨v2, rfl, r2, b2⟩; have d2 := chain waG1.out.2 b2; have p0 := keep1 d2 m0; have p1 := keep1 d2 m1; have p2 := keep1 d2 m2; have p3 := keep1 d2 m3; have waG2 := Lib.hid (And.intro (waG1.out.1.below b2 (Nat.le_refl _)) (And.intro r2 d2)); obtain ⟨x6, x7, x8, x9, rfl, x10⟩ := r2; clear x10 b2)
      | (go_at_call 87; (with_reducible refine (HM1.out _ _ _ waG2.out.1 waG2.out.2.1).mono ?_); rintro e wa3 ⟨wav, rfl, r3, b3⟩; have d3 := chain waG2.out.2.2 b3; have p0 := keep1 d3 m0; have p1 := keep1 d3 m1; have p2 := keep1 d3 m2; have p3 := keep1 d3 m3; have waG3 := Lib.hid (And.intro r3 d3); clear b3)
      | fail)
  have C3 := Lib.hid (chain C2.out waG3.out.2)
  have RA := Lib.hid waG3.out.1
  clear m0 m1 m2 m3 k2 k3 k4 k5 p0 p1 p2 p3 waG1 waG2 d1 d2 d3 r3
  obtain ⟨⟨k0, k1, m2, m3⟩, _⟩ := I1.out.next C3.out
  obtain ⟨⟨m0, m1, k2, k3⟩, _⟩ := I2.out.next C3.out
  go_wp2_with fail
  go_region_held3 (fun W' => W'.cell? ⟨w.heap.size + 1, 0, none⟩ = some (.bool na2) ∧ W'.cell? ⟨w.heap.size + 1, 1, none⟩ = some (.string s2) ∧ W'.cell? ⟨w.heap.size, 2, none⟩ = some (.bool nb1) ∧ W'.cell? ⟨w.heap.size, 3, none⟩ = some (.string t1)) (go_keep)
    (first
      | (go_at_call 63; (with_reducible refine (HR3.out _).mono ?_); rintro e wb1 ⟨v1, rfl, r1, b1⟩; have d1 := chain ((Below.refl wa3.heap.size wa3).drew) b1; have p0 := keep1 d1 m0; have p1 := keep1 d1 m1; have p2 := keep1 d1 m2; have p3 := keep1 d1 m3; have wbG1 := Lib.hid (And.intro r1 d1); obtain ⟨x1, x2, x3, x4, rfl, x5⟩ := r1; clear x5 b1)
      | (go_at_call 63; (with_reducible refine (HR2.out _).mono ?_); rintro e wb2 ⟨v2, rfl, r2, b2⟩; have d2 := chain wbG1.out.2 b2; have p0 := keep1 d2 m0; have p1 := keep1 d2 m1; have p2 := keep1 d2 m2; have p3 := keep1 d2 m3; have wbG2 := Lib.hid (And.intro (wbG1.out.1.below b2 (Nat.le_refl _)) (And.intro r2 d2)); obtain ⟨x6, x7, x8, x9, rfl, x10⟩ := r2; clear x10 b2)
      | (go_at_call 87; (with_reducible refine (HM2.out _ _ _ wbG2.out.1 wbG2.out.2.1).mono ?_); rintro e wb3 ⟨wbv, rfl, r3, b3⟩; have d3 := chain wbG2.out.2.2 b3; have p0 := keep1 d3 m0; have p1 := keep1 d3 m1; have p2 := keep1 d3 m2; have p3 := keep1 d3 m3; have wbG3 := Lib.hid (And.intro r3 d3); clear b3)
      | fail)
  have C4 := Lib.hid (chain C3.out wbG3.out.2)
  have RA2 := Lib.hid (RA.out.below wbG3.out.2 (Nat.le_refl _))
  have RB := Lib.hid wbG3.out.1
  clear m0 m1 m2 m3 k0 k1 k2 k3 p0 p1 p2 p3 wbG1 wbG2 d1 d2 d3 r3
  obtain ⟨⟨k0, _⟩, _⟩ := I1.out.next C4.out
  go_wp2_with fail
  refine (HC.out _ _ _ RA2.out RB.out).mono ?_
  rintro e wz ⟨rfl, nn, rfl⟩
  have HZ := Lib.hid (chain hb0.out (belowDrewN C4.out nn))
  go_wp2
  go_ret2
  exact ⟨rfl, HZ.out⟩
end Go.Proofs.Ytlmklhffafcmmaa

/- The function wide.Floor where nothing fails. -/
namespace Go.Proofs.Ytlmklhffafcmmaa
open Go.RowKit

set_option maxRecDepth 100000 in
set_option maxHeartbeats 2000000 in
theorem Floor_ok (a b : Bool) (s t : ByteArray) (w : World) (hd : DivOK (bv s) (bv t)) (hv1 : vld a s = true) (hv2 : vld b t = true) (hs : 0 < sgV b t) (h0 : 0 < bv t) :
    Calls Try.prog 49 #[rat a s b t] w (WPost (wd (a != b) (eq1 a (bv s) (bv t))) 0 w) := by
  have z1 := vld_size hv1
  have z2 := vld_size hv2
  have HV := ValidRatio_any a b s t
  have hvr : vldR a s b t = true := by unfold vldR; rw [hv1, decide_eq_true hs]; rfl
  rw [hvr] at HV
  have HA := Lib.hid (fun w => HV w (by omega) (by omega))
  have HQ := Lib.hid (fun w => Quo_valid a b s t w hd hv1 hv2 h0)
  obtain ⟨qb, qs, hq⟩ : ∃ x y, wd (a != b) (eq1 a (bv s) (bv t)) = .agg #[.bool x, .string y] := ⟨_, _, rfl⟩
  obtain ⟨rb, rs, hr⟩ : ∃ x y, wd false (er1 a (bv s) (bv t)) = .agg #[.bool x, .string y] := ⟨_, _, rfl⟩
  rw [hq] at HQ ⊢
  rw [hr] at HQ
  clear hd hv1 hv2 hs h0 HV hvr hq hr
  unfold rat
  obtain ⟨w0, hw0⟩ : ∃ w0 : World, w0 = (w.alloc (.cells #[.bool a, .string s, .bool b, .string t] 64)).alloc (.cells #[.bool false, .string ⟨#[]⟩] 23) := ⟨_, rfl⟩
  have hb0 : Hid (Below w.heap.size w w0) := by rw [hw0]; exact ((Below.refl _ _).alloc (Nat.le_refl _) _).alloc (by simp) _
  have k0 : w0.cell? ⟨w.heap.size, 0, none⟩ = some (.bool a) := by rw [hw0]; simp [go_sem]
  have k1 : w0.cell? ⟨w.heap.size, 1, none⟩ = some (.string s) := by rw [hw0]; simp [go_sem]
  have k2 : w0.cell? ⟨w.heap.size, 2, none⟩ = some (.bool b) := by rw [hw0]; simp [go_sem]
  have k3 : w0.cell? ⟨w.heap.size, 3, none⟩ = some (.string t) := by rw [hw0]; simp [go_sem]
  have k4 : w0.cell? ⟨w.heap.size + 1, 0, none⟩ = some (.bool false) := by rw [hw0]; simp [go_sem]
  have k5 : w0.cell? ⟨w.heap.size + 1, 1, none⟩ = some (.string ⟨#[]⟩) := by rw [hw0]; simp [go_sem]
  have k6 : w0.frozen? ⟨w.heap.size + 1, 0, none⟩ = false := by rw [hw0]; simp [go_sem]
  have k7 : w0.frozen? ⟨w.heap.size + 1, 1, none⟩ = false := by rw [hw0]; simp [go_sem]
  have hsz : Hid (w0.heap.size = w.heap.size + 2) := by rw [hw0]; show _ = _; simp
  have KK := Lib.hid (And.intro k0 (And.intro k1 (And.intro k2 k3)))
  have KR := Lib.hid (And.intro k4 (And.intro k5 (And.intro k6 k7)))
  have Hw0 := Lib.hid hw0
  clear k0 k1 k2 k3 k4 k5 k6 k7 hw0
  go_enter Try.func49, Try.ntmps49
  go_wp2_with fail
  rw [← Hw0.out]
  refine (HA.out _).mono ?_
  rintro e wa ⟨rfl, ba⟩
  have q0 := keep1 ba KK.out.1
  have q1 := keep1 ba KK.out.2.1
  have q2 := keep1 ba KK.out.2.2.1
  have q3 := keep1 ba KK.out.2.2.2
  have BA := Lib.hid ba
  clear ba
  go_wp2_with fail
  refine (HQ.out _).mono ?_
  rintro e wb ⟨rfl, bb⟩
  have c3 := chain BA.out bb
  have y0 := keep1 c3 KR.out.1
  have y1 := keep1 c3 KR.out.2.1
  have y2 := keepf c3 KR.out.1 KR.out.2.2.1
  have y3 := keepf c3 KR.out.2.1 KR.out.2.2.2
  have s0 := c3.size
  have s1 := hsz.out
  have f1 : ¬ wb.heap.size = w.heap.size + 1 := by omega
  have f2 : ¬ w.heap.size + 1 = wb.heap.size := by omega
  have f3 : w.heap.size + 1 < wb.heap.size := by omega
  have f4 : ¬ wb.heap.size + 1 = w.heap.size + 1 := by omega
  have f5 : ¬ w.heap.size + 1 = wb.heap.size + 1 := by omega
  have f6 : ¬ w.heap.size = wb.heap.size := by omega
  have f7 : ¬ wb.heap.size = w.heap.size := by omega
  have f8 : w.heap.size < wb.heap.size := by omega
  have HZ := Lib.hid (((below_set2 (chain hb0.out c3) (g := w.heap.size + 1) (by omega) (.bool qb) (.string qs)).alloc (by simpa using (chain hb0.out c3).size) (.cells #[.bool qb, .string qs] 23)).alloc (by have := (chain hb0.out c3).size; simp; omega) (.cells #[.bool rb, .string rs] 23))
  clear bb c3 s0 s1 q0 q1 q2 q3
  go_wp2
  exact bodyPost_ret (v := .tuple #[.agg #[.bool qb, .string qs], .int .i64 0]) (by simp [results, Try.results49, go_sem, y0, y1, f1, f2, f3, f6, f7, f8]) rfl ⟨rfl, HZ.out⟩
end Go.Proofs.Ytlmklhffafcmmaa

/- The bytes of a number read as that number, and are valid. -/
namespace Go.Proofs.Ytlmklhffafcmmaa
open Go.RowKit

theorem bs_list (n : Nat) : (bs n).data.toList = (Nm.dg 256 n).reverse.map UInt8.ofNat := rfl
theorem rev_bs (n : Nat) : rev (bs n) = Nm.dg 256 n := by
  unfold rev
  rw [bs_list, List.map_map, ← List.map_reverse, List.reverse_reverse]
  have h := Nm.dig_dg (by decide : 2 ≤ 256) n
  conv => rhs; rw [← List.map_id (Nm.dg 256 n)]
  apply List.map_congr_left
  intro x hx
  have := h x hx
  simp [UInt8.toNat_ofNat', Nat.mod_eq_of_lt this]
theorem bv_bs (n : Nat) : bv (bs n) = n := by
  unfold bv
  rw [rev_bs]
  exact Nm.val_dg (by decide) n
theorem bs_size (n : Nat) : (bs n).size = (Nm.dg 256 n).length := by
  have h := rev_length (bs n)
  rw [rev_bs] at h
  exact h.symm
theorem can_bs (n : Nat) : Can (bs n) := by
  intro h e
  have h2 : 0 < (Nm.dg 256 n).length := by rw [← bs_size]; exact h
  have h3 := Nm.nrm_last (Nm.nrm_dg (by decide : 2 ≤ 256) n) h2
  have h4 := Nm.dig_get (Nm.dig_dg (by decide : 2 ≤ 256) n) ((Nm.dg 256 n).length - 1) (by omega)
  have h5 : (bs n).data.toList[0]? = some 0 := by
    have : (bs n).data.toList[0]'h = 0 := e
    exact (List.getElem?_eq_getElem (l := (bs n).data.toList) h).trans (congrArg some this)
  rw [bs_list, List.getElem?_map, List.getElem?_reverse (by omega), List.getElem?_eq_getElem (by omega)] at h5
  have h6 := Option.some.inj h5
  have h7 := congrArg UInt8.toNat h6
  simp only [UInt8.toNat_ofNat', Nat.sub_zero] at h7
  rw [Nat.mod_eq_of_lt h4] at h7
  exact h3 h7
theorem pow_256 (k : Nat) : (256 : Nat) ^ k = 2 ^ (8 * k) := by rw [Nat.pow_mul]
theorem lt_256' {n k : Nat} (h : n < Top) (hk : TopBits ≤ 8 * k) : n < 256 ^ k := by
  rw [pow_256]
  exact Nat.lt_of_lt_of_le h (Nat.pow_le_pow_right (by decide) hk)
theorem bs_size_le {n k : Nat} (h : n < Top) (hk : TopBits ≤ 8 * k) : (bs n).size ≤ k := by
  rw [bs_size]
  refine Nm.len_le_of_val (by decide : 2 ≤ 256) (Nm.nrm_dg (by decide) n) ?_
  rw [Nm.val_dg (by decide)]
  exact lt_256' h hk
theorem vld_bs {a : Bool} {n : Nat} (h : n < Top) (ha : a = true → n ≠ 0) : vld a (bs n) = true := by
  unfold vld
  split
  · next h0 =>
    have h1 : (bs n).size ≤ 8192 := bs_size_le h (by rw [TopBits_eq]; decide)
    have h2 : ((bs n)[0] != 0) = true := by simpa using can_bs n h0
    rw [decide_eq_true h1, h2]; rfl
  · next h0 =>
    have hn : n = 0 := by
      have := bv_bs n
      rw [(bv_zero_iff (can_bs n)).2 (by omega)] at this
      exact this.symm
    cases a with
    | false => rfl
    | true => exact absurd hn (ha rfl)
theorem W_Top2 {n : Nat} (h : n < W) : n < Top := Nat.lt_of_lt_of_le h W_Top

/-- The wide integer of an integer: its sign and its magnitude. -/
def zb (z : Int) : Bool := decide (z < 0)
def zs (z : Int) : ByteArray := bs z.natAbs
theorem zb_zs_valid {z : Int} (h : z.natAbs < Top) : vld (zb z) (zs z) = true := vld_bs h fun hz => by
  have : z < 0 := of_decide_eq_true hz
  omega
theorem bv_zs (z : Int) : bv (zs z) = z.natAbs := bv_bs _
theorem sgV_z {z : Int} (h : z.natAbs < Top) : sgV (zb z) (zs z) = Int.sign z := by
  have hv := zb_zs_valid h
  have hc := vld_can hv
  have h1 := bv_zero_iff hc
  rw [bv_zs] at h1
  unfold sgV
  rcases Int.lt_trichotomy z 0 with g | g | g
  · have hb : zb z = true := decide_eq_true g
    have h2 : 0 < (zs z).size := by
      rcases Nat.eq_zero_or_pos (zs z).size with h3 | h3
      · have := h1.2 h3; omega
      · exact h3
    rw [if_pos ⟨hv, h2⟩, if_pos hb, Int.sign_eq_neg_one_of_neg g]
  · subst g
    rw [if_neg (by intro h3; have := h1.1 rfl; omega)]
    rfl
  · have hb : zb z = false := decide_eq_false (by omega)
    have h2 : 0 < (zs z).size := by
      rcases Nat.eq_zero_or_pos (zs z).size with h3 | h3
      · have := h1.2 h3; omega
      · exact h3
    rw [if_pos ⟨hv, h2⟩, if_neg (by rw [hb]; simp), Int.sign_eq_one_of_pos g]
theorem zs_size {z : Int} (h : z.natAbs < Top) : (zs z).size ≤ 8192 := vld_size (zb_zs_valid h)
end Go.Proofs.Ytlmklhffafcmmaa

/- The function wide.RatioOf where nothing fails. -/
namespace Go.Proofs.Ytlmklhffafcmmaa
open Go.RowKit

set_option maxRecDepth 100000 in
set_option maxHeartbeats 2000000 in
theorem RatioOf_ok (x y : Int) (A B : Nat) (w : World) (hl : LowOK x.natAbs y.natAbs A B) (h1 : -9223372036854775808 ≤ x) (h2 : x ≤ 9223372036854775807) (h3 : -9223372036854775808 ≤ y) (h4 : y ≤ 9223372036854775807) (h0 : y ≠ 0) :
    Calls Try.prog 48 #[.int .i64 x, .int .i64 y] w (RPost ((zb x != zb y) && decide (A ≠ 0)) (bs A) false (bs B) 0 w) := by
  have t1 : x.natAbs < Top := W_Top2 (by unfold W; omega)
  have t2 : y.natAbs < Top := W_Top2 (by unfold W; omega)
  have H1 : Hid (∀ w, Calls Try.prog 22 #[.int .i64 x] w fun e w' => e = .returned (.agg #[.bool (zb x), .string (zs x)]) ∧ Below w.heap.size w w') := fun w => Of_any x w h1 h2
  have H2 : Hid (∀ w, Calls Try.prog 22 #[.int .i64 y] w fun e w' => e = .returned (.agg #[.bool (zb y), .string (zs y)]) ∧ Below w.heap.size w w') := fun w => Of_any y w h3 h4
  have HP := Lib.hid (fun w => Ratio_ok (zb x) (zb y) (zs x) (zs y) A B w (by rw [bv_zs, bv_zs]; exact hl) (zb_zs_valid t1) (zb_zs_valid t2) (by rw [bv_zs]; omega))
  clear hl t1 t2 h0
  generalize ((zb x != zb y) && decide (A ≠ 0)) = xb at *
  generalize bs A = xs at *
  generalize bs B = ys at *
  generalize zb x = a at *
  generalize zb y = b at *
  generalize zs x = s at *
  generalize zs y = t at *
  obtain ⟨w0, hw0⟩ : ∃ w0 : World, w0 = w.alloc (.cells #[.bool false, .string ⟨#[]⟩, .bool false, .string ⟨#[]⟩] 64) := ⟨_, rfl⟩
  have hb0 : Hid (Below w.heap.size w w0) := by rw [hw0]; exact below_one _ _
  have k4 : w0.cell? ⟨w.heap.size, 0, none⟩ = some (.bool false) ∧ w0.cell? ⟨w.heap.size, 1, none⟩ = some (.string ⟨#[]⟩) ∧ w0.cell? ⟨w.heap.size, 2, none⟩ = some (.bool false) ∧ w0.cell? ⟨w.heap.size, 3, none⟩ = some (.string ⟨#[]⟩) := by
    rw [hw0]; refine ⟨?_, ?_, ?_, ?_⟩ <;> simp [go_sem]
  have k5 : w0.frozen? ⟨w.heap.size, 0, none⟩ = false ∧ w0.frozen? ⟨w.heap.size, 1, none⟩ = false ∧ w0.frozen? ⟨w.heap.size, 2, none⟩ = false ∧ w0.frozen? ⟨w.heap.size, 3, none⟩ = false := by
    rw [hw0]; refine ⟨?_, ?_, ?_, ?_⟩ <;> simp [go_sem]
  have KR := Lib.hid (And.intro k4 k5)
  have Hw0 := Lib.hid hw0
  clear k4 k5 hw0
  go_enter Try.func48, Try.ntmps48
  go_wp2_with fail
  rw [← Hw0.out]
  refine (H1.out _).mono ?_
  rintro e wa ⟨rfl, ba⟩
  have HBa := Lib.hid ba
  clear ba
  go_wp2_with fail
  refine (H2.out _).mono ?_
  rintro e wb ⟨rfl, bb⟩
  have HBb := Lib.hid (chain HBa.out bb)
  clear bb
  go_wp2_with fail
  refine (HP.out _).mono ?_
  rintro e wc ⟨rfl, bc⟩
  have c3 := chain HBb.out bc
  have y0 := keep1 c3 KR.out.1.1
  have y1 := keep1 c3 KR.out.1.2.1
  have y2 := keep1 c3 KR.out.1.2.2.1
  have y3 := keep1 c3 KR.out.1.2.2.2
  have y4 := keepf c3 KR.out.1.1 KR.out.2.1
  have y5 := keepf c3 KR.out.1.2.1 KR.out.2.2.1
  have y6 := keepf c3 KR.out.1.2.2.1 KR.out.2.2.2.1
  have y7 := keepf c3 KR.out.1.2.2.2 KR.out.2.2.2.2
  have HZ := Lib.hid (below_set4 (chain hb0.out c3) (Nat.le_refl w.heap.size) (.bool xb) (.string xs) (.bool false) (.string ys))
  unfold rat at *
  clear bc c3
  go_wp2
  exact bodyPost_ret (v := .tuple #[.agg #[.bool xb, .string xs, .bool false, .string ys], .int .i64 0]) (by simp [results, Try.results48, go_sem, y0, y1, y2, y3]) rfl ⟨rfl, HZ.out⟩
end Go.Proofs.Ytlmklhffafcmmaa

/- The function wide.isDecimal. -/
namespace Go.Proofs.Ytlmklhffafcmmaa
open Go.RowKit

/-- A text without a minus sign in front; whether it has one. -/
def ds (s : ByteArray) : ByteArray := ⟨(Lib.trimPrefix s.data.toList [45]).toArray⟩
def dneg (s : ByteArray) : Bool := Lib.hasPrefix s.data.toList [45]
/-- All bytes are decimal digits. -/
def AllD (d : ByteArray) : Prop := ∀ k (h : k < d.size), 48 ≤ d[k].toNat ∧ d[k].toNat ≤ 57
instance (d : ByteArray) : Decidable (AllD d) := Nat.decidableBallLT _ _
def DecT (s : ByteArray) : Prop := s.toList = [48] ∨ ((∃ h : 0 < (ds s).size, (ds s)[0].toNat ≠ 48) ∧ AllD (ds s))

theorem ds_size (s : ByteArray) : (ds s).size ≤ s.size := by
  show (Lib.trimPrefix s.data.toList [45]).toArray.size ≤ s.data.size
  unfold Lib.trimPrefix
  split <;> simp

set_option maxRecDepth 100000 in
set_option maxHeartbeats 1000000 in
theorem isDecimal_any (s : ByteArray) (b : Bool) (w : World) (hs : s.size ≤ 1000000000) (hb : b = true ↔ DecT s) :
    Calls Try.prog 78 #[.string s] w fun e w' => e = .returned (.bool b) ∧ w = w' := by
  have HTp : Hid (∀ w, Calls Try.prog 103 #[.string s, .string ⟨#[45]⟩] w fun e w' => e = .returned (.string (ds s)) ∧ w' = w) := fun w => Try.strings_TrimPrefix s ⟨#[45]⟩ w
  have hsz := ds_size s
  have HB : Hid (b = true ↔ DecT s) := hb
  clear hb
  by_cases h1 : s.toList = [48]
  · have e1 : (s.toList == [48]) = true := by rw [h1]; rfl
    have hT : Hid (b = true) := HB.out.2 (Or.inl h1)
    clear h1
    go_enter Try.func78, Try.ntmps78
    go_wp2
    go_ret
    exact ⟨by rw [hT.out]; rfl, rfl⟩
  · have e1 : (s.toList == [48]) = false := by simpa using h1
    have HB2 : Hid (b = true ↔ ((∃ h : 0 < (ds s).size, (ds s)[0].toNat ≠ 48) ∧ AllD (ds s))) := by
      refine HB.out.trans ⟨fun h => ?_, Or.inr⟩
      rcases h with h | h
      · exact absurd h h1
      · exact h
    clear HB h1
    generalize ds s = d at *
    rcases Nat.eq_zero_or_pos d.size with h0 | h0
    · have hF : Hid (b = false) := by
        cases hb : b with
        | false => rfl
        | true => obtain ⟨⟨h, _⟩, _⟩ := HB2.out.1 hb; omega
      have hd := empty_of h0
      subst hd
      clear HB2 h0 hsz
      go_enter Try.func78, Try.ntmps78
      go_wp2_with fail
      refine (HTp.out _).mono ?_
      rintro e w' ⟨rfl, rfl⟩
      go_wp2
      go_ret
      exact ⟨by rw [hF.out]; rfl, rfl⟩
    · have e2 : (d.toList == []) = false := by
        have h := nonempty_str d h0
        cases hd : d.toList with
        | nil => rw [hd] at h; simp at h
        | cons x l => rfl
      by_cases h48 : d[0].toNat = 48
      · have hF : Hid (b = false) := by
          cases hb : b with
          | false => rfl
          | true => obtain ⟨⟨h, g⟩, _⟩ := HB2.out.1 hb; exact absurd h48 g
        have e3 : ((d[0].toNat : Int) == 48) = true := by rw [h48]; rfl
        clear HB2 h48
        go_enter Try.func78, Try.ntmps78
        go_wp2_with fail
        refine (HTp.out _).mono ?_
        rintro e w' ⟨rfl, rfl⟩
        go_wp2
        go_ret
        exact ⟨by rw [hF.out]; rfl, rfl⟩
      · have e3 : ((d[0].toNat : Int) == 48) = false := by simp; omega
        have HB3 : Hid (b = true ↔ AllD d) := by
          refine HB2.out.trans ⟨fun h => h.2, fun h => ⟨⟨h0, h48⟩, h⟩⟩
        clear HB2 h48
        go_enter Try.func78, Try.ntmps78
        go_wp2_with fail
        refine (HTp.out _).mono ?_
        rintro e w' ⟨rfl, rfl⟩
        go_wp2
        go_loop [18] (fun i => ∃ k : Nat, k ≤ d.size ∧ i = .int .i64 k ∧ Hid (∀ j (h : j < d.size), j < k → 48 ≤ d[j].toNat ∧ d[j].toNat ≤ 57)) (fun i => d.size - (intOf i).toNat)
        case atStart => exact ⟨0, Nat.zero_le _, rfl, fun j h hj => absurd hj (Nat.not_lt_zero _)⟩
        case round =>
          obtain ⟨k, hk, rfl, hall⟩ := hrel
          by_cases hlt : k < d.size
          · obtain ⟨x, hx⟩ : ∃ x : Int, (d[k].toNat : Int) = x := ⟨_, rfl⟩
            by_cases hx1 : x < 48
            · have hF : Hid (b = false) := by
                cases hb : b with
                | false => rfl
                | true => have := HB3.out.1 hb k hlt; omega
              go_wp2
              go_ret
              exact ⟨by rw [hF.out]; rfl, rfl⟩
            · by_cases hx2 : 57 < x
              · have hF : Hid (b = false) := by
                  cases hb : b with
                  | false => rfl
                  | true => have := HB3.out.1 hb k hlt; omega
                go_wp2
                go_ret
                exact ⟨by rw [hF.out]; rfl, rfl⟩
              · have HS : Hid (∀ j (h : j < d.size), j < k + 1 → 48 ≤ d[j].toNat ∧ d[j].toNat ≤ 57) := by
                  intro j h hj
                  rcases Nat.lt_or_ge j k with g | g
                  · exact hall.out j h g
                  · obtain rfl : j = k := by omega
                    omega
                go_wp2
                go_round
                case rel => exact ⟨k + 1, by omega, by go_num, HS.out⟩
                case measure => simp [intOf]; omega
          · have hT : Hid (b = true) := HB3.out.2 fun j h => hall.out j h (by omega)
            go_wp2
            go_ret
            exact ⟨by rw [hT.out]; rfl, rfl⟩
end Go.Proofs.Ytlmklhffafcmmaa

/- The reference's validity of a wide integer. -/
namespace Go.Proofs.Ytlmklhffafcmmaa
open Go.RowKit

set_option maxHeartbeats 400000 in
theorem rvalid_any (a : Bool) (s : ByteArray) (w : World) (hs : s.size ≤ 140737488351232) : Calls Try.prog 14 #[.agg #[.bool a, .string s]] w (BPost (vld a s) w) := by
  rcases Nat.eq_zero_or_pos s.size with h0 | h0
  · have E : Hid (vld a s = !a) := by show _ = _; unfold vld; rw [dif_neg (by omega)]
    have h1 : ((s.size : Int) == 0) = true := beq_iff_eq.2 (by omega)
    have hb : Hid (Below w.heap.size w (w.alloc (.cells #[.bool a, .string s] 23))) := (Below.refl _ _).alloc (Nat.le_refl _) _
    clear h0
    go_enter Try.func14, Try.ntmps14
    go_wp2
    go_ret
    exact ⟨by rw [E.out]; rfl, hb.out⟩
  · have E : Hid (vld a s = (decide (s.size ≤ 8192) && (s[0] != 0))) := by show _ = _; unfold vld; rw [dif_pos h0]
    have h1 : ((s.size : Int) == 0) = false := beq_eq_false_iff_ne.2 (by omega)
    have hb : Hid (Below w.heap.size w (w.alloc (.cells #[.bool a, .string s] 23))) := (Below.refl _ _).alloc (Nat.le_refl _) _
    by_cases h2 : s.size ≤ 8192
    · have e2 : Hid (((s[0].toNat : Int) != 0) = (s[0] != 0)) := by
        show _ = _
        by_cases hz : s[0] = 0
        · simp [hz]
        · have : s[0].toNat ≠ 0 := fun h => hz (UInt8.toNat_inj.1 h)
          have h3 : ((s[0].toNat : Int) != 0) = true := by simp; omega
          rw [h3]; symm; simpa using hz
      have hd : Hid (decide (s.size ≤ 8192) = true) := decide_eq_true h2
      go_enter Try.func14, Try.ntmps14
      go_wp2
      go_ret
      exact ⟨by rw [E.out, hd.out, Bool.true_and, ← e2.out]; rfl, hb.out⟩
    · have hd : Hid (decide (s.size ≤ 8192) = false) := decide_eq_false h2
      go_enter Try.func14, Try.ntmps14
      go_wp2
      go_ret
      exact ⟨by rw [E.out, hd.out, Bool.false_and]; rfl, hb.out⟩
end Go.Proofs.Ytlmklhffafcmmaa

/- How a list of digits to the base 1000000000 lies in memory, for the references. -/
namespace Go.Proofs.Ytlmklhffafcmmaa
open Go.RowKit

/-- The base of the digits. -/
def D9 : Nat := 1000000000
theorem D92 : 2 ≤ D9 := by decide
theorem D90 : 0 < D9 := by decide

/-- The digits as values. -/
def iv (l : List Nat) : List Value := l.map fun (n : Nat) => Value.int .i64 (n : Int)
theorem iv_length (l : List Nat) : (iv l).length = l.length := by simp [iv]
theorem iv_get (l : List Nat) (k : Nat) (h : k < l.length) : (iv l)[k]? = some (.int .i64 (l[k] : Int)) := by simp [iv, List.getElem?_eq_getElem h]
theorem iv_snoc (l : List Nat) (x : Nat) : iv (l ++ [x]) = iv l ++ [Value.int .i64 (x : Int)] := by simp [iv]

/-- A slice value reads as a list of digits. -/
def Ri (w : World) (v : Value) (xs : List Nat) : Prop :=
  ∃ (p : Option Addr) (b off cap : Nat), v = .slice p xs.length cap ∧ xs.length ≤ cap ∧ cap ≤ maxLen ∧ (xs ≠ [] → p = some ⟨b, off, none⟩) ∧ ((p = none ∧ cap = 0) ∨ (p = some ⟨b, off, none⟩ ∧ b < w.heap.size)) ∧
    ∀ k (h : k < xs.length), w.cell? ⟨b, off + k, none⟩ = some (.int .i64 (xs[k] : Int))

theorem Ri.below {w w' : World} {B : Nat} {v : Value} {xs : List Nat} (h : Ri w v xs) (hb : Below B w w') (hB : w.heap.size ≤ B) : Ri w' v xs := by
  obtain ⟨p, b, off, cap, h1, h2, h3, h4, h5, h6⟩ := h
  refine ⟨p, b, off, cap, h1, h2, h3, h4, ?_, fun k hk => ?_⟩
  · rcases h5 with h5 | ⟨h5, h7⟩
    · exact Or.inl h5
    · exact Or.inr ⟨h5, Nat.lt_of_lt_of_le h7 hb.size⟩
  · have hl : b < w.heap.size := World.block_lt_of_cell? w _ (h6 k hk)
    rw [hb.cell (p := ⟨b, off + k, none⟩) (Nat.lt_of_lt_of_le hl hB)]
    exact h6 k hk


theorem Ri.drewN {w : World} {v : Value} {xs : List Nat} (h : Ri w v xs) (n : Nat) : Ri (w.drewN n) v xs := h
theorem Ri.nil (w : World) : Ri w (.slice none 0 0) [] := ⟨none, 0, 0, 0, rfl, by simp, by simp, fun h => absurd rfl h, Or.inl ⟨rfl, rfl⟩, fun k h => absurd h (by simp)⟩

/-- What the call itself gathered reads as it was gathered. -/
theorem Ri.of_own {w : World} {B : Nat} {v : Value} {l : List Nat} (h : w.ownsRow B 3 1 v l.length (iv l)) : Ri w v l := by
  rcases h.2 with ⟨rfl, h0⟩ | ⟨g, cap, cur, rfl, hB, hg, hn, hm, hs, ht⟩
  · rw [List.eq_nil_of_length_eq_zero h0]; exact Ri.nil w
  · refine ⟨some ⟨g, 0, none⟩, g, 0, cap, rfl, hn, hm, fun _ => rfl, Or.inr ⟨rfl, lt_of_block hg⟩, fun k hk => ?_⟩
    have := h.cells (g := g) rfl k (.int .i64 (l[k] : Int)) (iv_get l k hk)
    have hadd : ((⟨g, 0, none⟩ : Addr).add k) = ⟨g, 0 + k, none⟩ := by unfold Addr.add; split <;> simp_all
    rwa [hadd] at this

def lenOf : Value → Nat
  | .slice _ n _ => n
  | _ => 0

/-- The digits of a number come back. -/
def GivesI (n : Nat) (w : World) (e : Ending) (w' : World) : Prop := ∃ v, e = .returned v ∧ Ri w' v (Nm.dg D9 n) ∧ Below w.heap.size w w'
def TrimI (xs : List Nat) (w : World) (e : Ending) (w' : World) : Prop := ∃ v, e = .returned v ∧ Ri w v (Nm.trimL xs) ∧ w = w'

set_option maxRecDepth 100000 in
set_option maxHeartbeats 400000 in
theorem rtrim_any (v : Value) (xs : List Nat) (w : World) (h : Ri w v xs) : Calls Try.prog 57 #[v] w (TrimI xs w) := by
  obtain ⟨p, b, off, cap, rfl, h2, h3, h4, h5, h6⟩ := h
  have hc := h3
  unfold maxLen at hc
  have hl : xs.length ≤ 9223372036854775807 := by omega
  have H4 := Lib.hid h4
  have H5 := Lib.hid h5
  have H6 := Lib.hid h6
  have H23 := Lib.hid (And.intro h2 h3)
  clear h2 h3 h4 h5 h6 hc
  go_enter Try.func57, Try.ntmps57
  go_wp2
  go_loop [0] (fun v => ∃ k : Nat, k ≤ xs.length ∧ v = .slice p k cap ∧ Hid (∀ i (h : i < xs.length), k ≤ i → xs[i] = 0)) (fun v => lenOf v)
  case atStart => exact ⟨xs.length, Nat.le_refl _, rfl, fun i h hi => absurd h (by omega)⟩
  case round =>
    obtain ⟨k, hk, rfl, hz⟩ := hrel
    have htake : ∀ n, n ≤ xs.length → Ri w (.slice p n cap) (xs.take n) := by
      intro n hn
      have e : (xs.take n).length = n := by simp; omega
      refine ⟨p, b, off, cap, by rw [e], by have := H23.out.1; omega, H23.out.2, fun hne => H4.out (fun e0 => hne (by rw [e0]; simp)), H5.out, fun j hj => ?_⟩
      rw [e] at hj
      rw [H6.out j (by omega)]; simp
    have HT := Lib.hid htake
    clear htake
    rcases Nat.eq_zero_or_pos k with h0 | h0
    · subst h0
      have e0 : Hid (Nm.trimL xs = xs.take 0) := Nm.trimL_take (Nat.zero_le _) (fun i h _ => hz.out i h (Nat.zero_le _)) trivial
      go_wp2
      go_ret
      exact ⟨_, rfl, by rw [e0.out]; exact HT.out 0 (Nat.zero_le _), rfl⟩
    · obtain ⟨j, rfl⟩ : ∃ j, k = j + 1 := ⟨k - 1, by omega⟩
      have hj : j < xs.length := by omega
      obtain rfl := H4.out (by intro e; rw [e] at hj; exact absurd hj (Nat.not_lt_zero _))
      have hcell := H6.out j hj
      have hjc : j ≤ cap := by have := H23.out.1; omega
      by_cases hv : xs[j] = 0
      · have HV := Lib.hid hv
        have hvi : ((xs[j] : Int) == 0) = true := by simp [hv]
        clear hv
        go_wp2
        go_round
        case rel =>
          refine ⟨j, by omega, rfl, fun i h hi => ?_⟩
          rcases Nat.lt_or_ge j i with g | g
          · exact hz.out i h g
          · obtain rfl : i = j := by omega
            exact HV.out
        case measure => simp [lenOf]
      · have e0 : Hid (Nm.trimL xs = xs.take (j + 1)) := Nm.trimL_take hk hz.out (Nm.nrm_take_last hj hv)
        have hvi : ((xs[j] : Int) == 0) = false := by simp [hv]
        clear hv
        go_wp2
        go_ret
        exact ⟨_, rfl, by rw [e0.out]; exact HT.out (j + 1) hk, rfl⟩
end Go.Proofs.Ytlmklhffafcmmaa
