/- What the theorem leans on, part 5: RefSub, RefNum, RefGcd, RefTo1, RefTo2, FromD, FromD2, Parse, RefNum2, Law1, Kn1, Known, Short, RefFrom, LInts, RefBits, LValid, RefOut, SubW, LSums, RefPow, RefQuo1, RefQuo2, RefQuo3, RefQuo4, RefQuo, LShift, Knuth. -/
import Derived.Test.YtepddegphdlbeaaGreatE4
import Derived.Test.YtepddegphdlbeaaGreatE3
import Derived.Test.YtepddegphdlbeaaGreatE2
import Derived.Test.YtepddegphdlbeaaGreatE1

/- The reference's difference of two integers. -/
namespace Go.Proofs.YtepddegphdlbeaaGreat
open Go.RowKit

set_option maxRecDepth 100000 in
set_option maxHeartbeats 2000000 in
theorem rsub_int (x y : Int) (v1 v2 : Value) (w : World) (h1 : Rz w v1 x) (h2 : Rz w v2 y) (l1 : (Nm.dg D9 x.natAbs).length ≤ 1000000) (l2 : (Nm.dg D9 y.natAbs).length ≤ 1000000) :
    Calls Tryz.prog 117 #[iV x v1, iV y v2] w (IntPost (x - y) w) := by
  have H1 := Lib.hid h1
  have H2 := Lib.hid h2
  obtain ⟨pa, ba, oa, ca, rfl, hr1⟩ := h1
  obtain ⟨pb, bb, ob, cb, rfl, hr2⟩ := h2
  clear hr1 hr2
  have HNg0 := Lib.hid (fun v w' h => rneg_int y v w' h)
  have HAd0 := Lib.hid (fun v1 v2 w' h1 h2 => radd_int x (-y) v1 v2 w' h1 h2 l1 (by rw [Int.natAbs_neg]; exact l2))
  have HZZ : Hid (x + -y = x - y) := Int.sub_eq_add_neg.symm
  unfold iV at *
  clear l1 l2
  generalize (Nm.dg D9 x.natAbs).length = ma at *
  generalize (Nm.dg D9 y.natAbs).length = na at *
  generalize decide (x < 0) = a at *
  generalize decide (y < 0) = b at *
  obtain ⟨nb, hnb⟩ : ∃ nb, decide (-y < 0) = nb := ⟨_, rfl⟩
  simp only [hnb] at HAd0
  have HNB := Lib.hid hnb
  obtain ⟨zb, hzb⟩ : ∃ zb, decide (x - y < 0) = zb := ⟨_, rfl⟩
  have HZB := Lib.hid hzb
  clear hnb hzb
  obtain ⟨w0, hw0⟩ : ∃ w0 : World, w0 = ((w.alloc (.cells #[.bool a, .slice pa ma ca] 52)).alloc (.cells #[.bool b, .slice pb na cb] 52)).alloc (.cells #[.bool false, .slice none 0 0] 52) := ⟨_, rfl⟩
  have hb0 : Hid (Below w.heap.size w w0) := by rw [hw0]; exact (((Below.refl _ _).alloc (Nat.le_refl _) _).alloc (by simp) _).alloc (by simp; omega) _
  have k0 : w0.cell? ⟨w.heap.size, 0, none⟩ = some (.bool a) := by rw [hw0]; simp [go_sem]
  have k1 : w0.cell? ⟨w.heap.size, 1, none⟩ = some (.slice pa ma ca) := by rw [hw0]; simp [go_sem]
  have k2 : w0.cell? ⟨w.heap.size + 1, 0, none⟩ = some (.bool b) := by rw [hw0]; simp [go_sem]
  have k3 : w0.cell? ⟨w.heap.size + 1, 1, none⟩ = some (.slice pb na cb) := by rw [hw0]; simp [go_sem]
  have k4 : w0.cell? ⟨w.heap.size + 1 + 1, 0, none⟩ = some (.bool false) := by rw [hw0]; simp [go_sem]
  have k5 : w0.cell? ⟨w.heap.size + 1 + 1, 1, none⟩ = some (.slice none 0 0) := by rw [hw0]; simp [go_sem]
  have k6 : w0.frozen? ⟨w.heap.size + 1 + 1, 0, none⟩ = false := by rw [hw0]; simp [go_sem]
  have k7 : w0.frozen? ⟨w.heap.size + 1 + 1, 1, none⟩ = false := by rw [hw0]; simp [go_sem]
  have Hw0 := Lib.hid hw0
  have n1 : ¬ (w.heap.size = w.heap.size + 1 + 1) := by omega
  have n2 : ¬ (w.heap.size + 1 + 1 = w.heap.size) := by omega
  clear hw0
  go_enter Tryz.func117, Tryz.ntmps117
  go_wp2_with fail
  rw [← Hw0.out]
  go_region_held3 (fun W' => W'.cell? ⟨w.heap.size, 0, none⟩ = some (.bool a) ∧ W'.cell? ⟨w.heap.size, 1, none⟩ = some (.slice pa ma ca) ∧ W'.cell? ⟨w.heap.size + 1, 0, none⟩ = some (.bool b) ∧ W'.cell? ⟨w.heap.size + 1, 1, none⟩ = some (.slice pb na cb)) (go_keep)
    (first
      | (go_at_call 136; (with_reducible refine (HNg0.out _ _ (H2.out.below (chain hb0.out ((Below.refl _ _).drew)) (Nat.le_refl _))).mono ?_); rintro e w1 ⟨vt, he, r1, b1⟩; unfold iV at he; rw [HNB.out] at he; subst he; have c1 := chain ((Below.refl _ _).drew) b1; have p0 := keep1 c1 k0; have p1 := keep1 c1 k1; have p2 := keep1 c1 k2; have p3 := keep1 c1 k3; have G1 := Lib.hid (And.intro r1 c1); clear r1 b1 c1)
      | (go_at_call 82; (with_reducible refine (HAd0.out _ _ _ (H1.out.below (chain hb0.out G1.out.2) (Nat.le_refl _)) G1.out.1).mono ?_); rintro e w2 ⟨vm, he, r2, b2⟩; rw [HZZ.out] at he r2; unfold iV at he; rw [HZB.out] at he; subst he; have c2 := chain G1.out.2 b2; have p0 := keep1 c2 k0; have p1 := keep1 c2 k1; have p2 := keep1 c2 k2; have p3 := keep1 c2 k3; have p4 := keep1 c2 k4; have p5 := keep1 c2 k5; have p6 := keepf c2 k4 k6; have p7 := keepf c2 k5 k7; have G2 := Lib.hid (And.intro r2 c2); obtain ⟨pm, bm, om, cm, rfl, hrm⟩ := r2; clear hrm b2 c2))
  have HZ := Lib.hid (chain hb0.out G2.out.2)
  go_wp2
  exact bodyPost_ret (v := .agg #[.bool zb, .slice pm (Nm.dg D9 (x - y).natAbs).length cm]) (by simp [results, Tryz.results117, go_sem, p4, p5]) rfl ⟨_, by rw [iV, HZB.out], G2.out.1.set2 p4 p5 (fun _ => by simp), (HZ.out.setCell (p := ⟨w.heap.size + 1 + 1, 0, none⟩) (by simp; omega) _).setCell (p := ⟨w.heap.size + 1 + 1, 1, none⟩) (by simp; omega) _⟩

end Go.Proofs.YtepddegphdlbeaaGreat

/- The reference's integer out of an int that is not negative. -/
namespace Go.Proofs.YtepddegphdlbeaaGreat
open Go.RowKit

theorem num_dig {n : Nat} (hn : n < 9223372036854775808) : Nm.trimL [n % 1000000000, n / 1000000000 % 1000000000, n / 1000000000 / 1000000000] = Nm.dg D9 n := by
  have h1 : Nm.Dig D9 [n % 1000000000, n / 1000000000 % 1000000000, n / 1000000000 / 1000000000] :=
    Nm.dig_cons.2 ⟨Nat.mod_lt _ (by decide), Nm.dig_cons.2 ⟨Nat.mod_lt _ (by decide), Nm.dig_cons.2 ⟨by unfold D9; omega, Nm.dig_nil _⟩⟩⟩
  rw [Nm.trimL_dg D92 h1]
  congr 1
  simp only [Nm.val_cons, Nm.val_nil]
  unfold D9
  omega

theorem Ri.three (w : World) (a b c : Nat) : Ri (w.alloc (.cells #[.int .i64 (a : Int), .int .i64 (b : Int), .int .i64 (c : Int)] 3)) (.slice (some ⟨w.heap.size, 0, none⟩) 3 3) [a, b, c] :=
  Ri.of_ari (g := w.heap.size) (l := [a, b, c]) (heap_alloc_new w _) 3 rfl (by decide)

set_option maxRecDepth 100000 in
set_option maxHeartbeats 2000000 in
theorem rnum_nat (n : Nat) (w : World) (hn : n < 9223372036854775808) :
    Calls Tryz.prog 74 #[.int .i64 (n : Int)] w (IntPost (n : Int) w) := by
  have HD := Lib.hid (num_dig hn)
  obtain ⟨x0, h0⟩ : ∃ x0, n % 1000000000 = x0 := ⟨_, rfl⟩
  obtain ⟨x1, h1⟩ : ∃ x1, n / 1000000000 % 1000000000 = x1 := ⟨_, rfl⟩
  obtain ⟨x2, h2⟩ : ∃ x2, n / 1000000000 / 1000000000 = x2 := ⟨_, rfl⟩
  rw [h0, h1, h2] at HD
  have e0 : (n : Int) % 1000000000 = (x0 : Int) := by omega
  have e1 : (n : Int) / 1000000000 % 1000000000 = (x1 : Int) := by omega
  have e2 : (n : Int) / 1000000000 / 1000000000 = (x2 : Int) := by omega
  have HM := Lib.hid (fun v w h => (rmade_any false v n w h).mono (made_int (z := (n : Int)) (by simp)))
  have HT := Lib.hid (fun v xs w h => rtrim_any v xs w h)
  obtain ⟨w0, hw0⟩ : ∃ w0 : World, w0 = w.alloc (.cells #[.bool false, .slice none 0 0] 52) := ⟨_, rfl⟩
  have hb0 : Hid (Below w.heap.size w w0) := by rw [hw0]; exact below_new _ _
  have k4 : w0.cell? ⟨w.heap.size, 0, none⟩ = some (.bool false) := by rw [hw0]; simp [go_sem]
  have k5 : w0.cell? ⟨w.heap.size, 1, none⟩ = some (.slice none 0 0) := by rw [hw0]; simp [go_sem]
  have k6 : w0.frozen? ⟨w.heap.size, 0, none⟩ = false := by rw [hw0]; simp [go_sem]
  have k7 : w0.frozen? ⟨w.heap.size, 1, none⟩ = false := by rw [hw0]; simp [go_sem]
  have h3 := Ri.three w0 x0 x1 x2
  have b3 := below_new w0 (.cells #[.int .i64 (x0 : Int), .int .i64 (x1 : Int), .int .i64 (x2 : Int)] 3)
  have hsz : w0.heap.size = w.heap.size + 1 := by rw [hw0]; simp
  rw [hsz] at h3
  have G3 := Lib.hid (And.intro h3 b3)
  have Hw0 := Lib.hid hw0
  have KK := Lib.hid (And.intro k4 (And.intro k5 (And.intro k6 k7)))
  obtain ⟨nn, hnn⟩ : ∃ nn : Int, (n : Int) = nn := ⟨_, rfl⟩
  have hn0 : 0 ≤ nn := by omega
  have hn1 : nn < 9223372036854775808 := by omega
  rw [hnn] at e0 e1 e2 HM ⊢
  clear h0 h1 h2 h3 b3 hsz hw0 k4 k5 k6 k7 hn hnn
  go_enter Tryz.func74, Tryz.ntmps74
  go_wp2_with fail
  rw [← Hw0.out]
  refine (HT.out _ _ _ G3.out.1).mono ?_
  rintro e w5 ⟨v5, rfl, h5, rfl⟩
  rw [HD.out] at h5
  have H5 := Lib.hid h5
  clear h5
  go_wp2_with fail
  refine (HM.out _ _ H5.out).mono ?_
  rintro e w6 ⟨v6, he, h6, b6⟩
  unfold iV at he
  obtain ⟨zb, hzb⟩ : ∃ zb, decide (nn < 0) = zb := ⟨_, rfl⟩
  rw [hzb] at he
  have HZB := Lib.hid hzb
  clear hzb
  subst he
  have c6 := link G3.out.2 b6
  have q4 := keep1 c6 KK.out.1
  have q5 := keep1 c6 KK.out.2.1
  have q6 := keepf c6 KK.out.1 KK.out.2.2.1
  have q7 := keepf c6 KK.out.2.1 KK.out.2.2.2
  have H6 := Lib.hid h6
  have HZ := Lib.hid (link hb0.out c6)
  obtain ⟨pm, bm, om, cm, rfl, hrm⟩ := h6
  clear hrm b6 c6
  go_wp2
  exact bodyPost_ret (v := .agg #[.bool zb, .slice pm (Nm.dg D9 nn.natAbs).length cm]) (by simp [results, Tryz.results74, go_sem, q4, q5]) rfl ⟨_, by rw [iV, HZB.out], H6.out.set2 q4 q5 (fun _ => by simp), (HZ.out.setCell (p := ⟨w.heap.size, 0, none⟩) (Nat.le_refl _) _).setCell (p := ⟨w.heap.size, 1, none⟩) (Nat.le_refl _) _⟩
end Go.Proofs.YtepddegphdlbeaaGreat

/- The reference's greatest common divisor. -/
namespace Go.Proofs.YtepddegphdlbeaaGreat
open Go.RowKit

theorem Ri.uniq {w : World} {v : Value} {xs ys : List Nat} (h : Ri w v xs) (k : Ri w v ys) : xs = ys := by
  obtain ⟨p, b, off, cap, h1, h2, h3, h4, h5, h6⟩ := h
  obtain ⟨q, c, o, cp, k1, k2, k3, k4, k5, k6⟩ := k
  rw [h1] at k1
  obtain ⟨rfl, hl, rfl⟩ := Value.slice.inj k1
  refine List.ext_getElem hl fun i hx hy => ?_
  have e1 := h4 (by intro e; rw [e] at hx; exact absurd hx (Nat.not_lt_zero _))
  have e2 := k4 (by intro e; rw [e] at hy; exact absurd hy (Nat.not_lt_zero _))
  rw [e1] at e2
  obtain ⟨rfl, rfl⟩ : b = c ∧ off = o := by simpa using e2
  have e3 := h6 i hx
  rw [k6 i hy] at e3
  have e4 := (Value.int.inj (Option.some.inj e3)).2
  omega
open Classical in
/-- The number that a slice reads as. -/
noncomputable def numOf (w : World) (v : Value) : Nat := if h : ∃ n, Ri w v (Nm.dg D9 n) then h.choose else 0
end Go.Proofs.YtepddegphdlbeaaGreat

/- Plain facts on the reference's way from digits to bytes; trim with the slice that comes back. -/
namespace Go.Proofs.YtepddegphdlbeaaGreat
open Go.RowKit

/-- From the place k on, divided by 256: the quotient so far, and the rest. -/
def ToInv (X : List Nat) (k r : Nat) (t : List Nat) : Prop :=
  t.length + k = X.length ∧ Nm.Dig D9 t ∧ r < 256 ∧ Nm.val D9 (X.drop k) = Nm.val D9 t * 256 + r

theorem ToInv.start (X : List Nat) : ToInv X X.length 0 [] :=
  ⟨by simp, Nm.dig_nil _, by omega, by rw [List.drop_of_length_le (Nat.le_refl _)]; simp [Nm.val]⟩
theorem ToInv.step {X t : List Nat} {j r : Nat} (h : ToInv X (j + 1) r t) (hj : j < X.length) (dx : X[j] < D9) : ToInv X j ((r * 1000000000 + X[j]) % 256) ((r * 1000000000 + X[j]) / 256 :: t) := by
  obtain ⟨h1, h2, h3, h4⟩ := h
  refine ⟨by simp; omega, Nm.dig_cons.2 ⟨by unfold D9 at *; omega, h2⟩, Nat.mod_lt _ (by decide), ?_⟩
  rw [List.drop_eq_getElem_cons hj, Nm.val_cons, Nm.val_cons, h4]
  have := Nat.div_add_mod (r * 1000000000 + X[j]) 256
  have e : D9 = 1000000000 := rfl
  rw [e]
  generalize (r * 1000000000 + X[j]) / 256 = a at *
  generalize (r * 1000000000 + X[j]) % 256 = b at *
  generalize Nm.val 1000000000 t = v at *
  generalize X[j] = x at *
  omega
theorem ToInv.finish {X t : List Nat} {r : Nat} (h : ToInv X 0 r t) : r = Nm.val D9 X % 256 ∧ Nm.trimL t = Nm.dg D9 (Nm.val D9 X / 256) ∧ t.length = X.length := by
  obtain ⟨h1, h2, h3, h4⟩ := h
  rw [List.drop_zero] at h4
  refine ⟨by omega, ?_, by omega⟩
  rw [Nm.trimL_dg D92 h2]
  congr 1
  omega

/-- Cells that may be written. -/
def Wr (w : World) (g : Nat) (l : List Nat) : Prop := ∀ k (h : k < l.length), w.cell? ⟨g, k, none⟩ = some (.int .i64 (l[k] : Int)) ∧ w.frozen? ⟨g, k, none⟩ = false
theorem Wr.of_own {w : World} {B n : Nat} {g cap : Nat} {l : List Nat} (h : w.ownsRow B 3 1 (.slice (some ⟨g, 0, none⟩) n cap) n (iv l)) : Wr w g l := by
  intro k hk
  have h1 := h.cells (g := g) rfl k (.int .i64 (l[k] : Int)) (iv_get l k hk)
  have hadd : ((⟨g, 0, none⟩ : Addr).add k) = ⟨g, k, none⟩ := by unfold Addr.add; split <;> simp_all
  rw [hadd] at h1
  refine ⟨h1, ?_⟩
  rcases h.2 with ⟨h2, _⟩ | ⟨g2, cap2, cur, h2, hB, hg, _⟩
  · simp at h2
  · have : g2 = g := by injection h2 with h3; injection h3 with h4; injection h4 with h5; exact h5.symm
    subst this
    exact frozen_of_row w g2 k _ _ hg
theorem Wr.keep {w w' : World} {g : Nat} {l : List Nat} (h : Wr w g l) (he : w'.heap[g]? = w.heap[g]?) : Wr w' g l := fun k hk =>
  ⟨(World.cell?_of_block (a := ⟨g, k, none⟩) he).trans (h k hk).1, (World.frozen?_of_block (a := ⟨g, k, none⟩) he).trans (h k hk).2⟩
theorem Wr.lt {w : World} {g : Nat} {l : List Nat} (h : Wr w g l) (h0 : 0 < l.length) : g < w.heap.size := World.block_lt_of_cell? w _ (h 0 h0).1
theorem Wr.set {w : World} {g : Nat} {l : List Nat} (h : Wr w g l) (k n : Nat) : Wr (w.setCell ⟨g, k, none⟩ (.int .i64 (n : Int))) g (l.set k n) := by
  intro j hj
  have hj2 : j < l.length := by simpa using hj
  obtain ⟨h1, h2⟩ := h j hj2
  have hc := h1
  by_cases hjk : j = k
  · subst hjk
    refine ⟨?_, by simpa [go_sem] using h2⟩
    simp only [List.getElem_set_self]
    simp [go_sem, h1]
  · refine ⟨?_, by simpa [go_sem] using h2⟩
    rw [List.getElem_set_ne (fun e => hjk e.symm)]
    have hkj : ¬ k = j := fun e => hjk e.symm
    simp [go_sem, h1, hjk, hkj]
theorem Wr.take {w : World} {g : Nat} {l : List Nat} (h : Wr w g l) (n : Nat) : Wr w g (l.take n) := by
  intro k hk
  have hk2 : k < l.length := by simp at hk; omega
  rw [List.getElem_take]
  exact h k hk2
theorem Wr.trim {w : World} {g : Nat} {l : List Nat} (h : Wr w g l) : Wr w g (Nm.trimL l) := by
  rw [Nm.trimL_is_take l]
  exact h.take _
theorem Wr.ri {w : World} {g cap : Nat} {l : List Nat} (h : Wr w g l) (hg : IntB w g) (h1 : l.length ≤ cap) (h2 : cap ≤ maxLen) : Ri w (.slice (some ⟨g, 0, none⟩) l.length cap) l :=
  ⟨some ⟨g, 0, none⟩, g, 0, cap, rfl, h1, h2, fun _ => rfl, Or.inr ⟨rfl, hg⟩, fun k hk => by rw [Nat.zero_add]; exact (h k hk).1⟩

theorem own_only {w w' : World} {g B n : Nat} {t : TypeId} {v : Value} {xs : List Value} (h : w.ownsRow B t 1 v n xs) (ho : Only g w w') (hg : g < B) : w'.ownsRow B t 1 v n xs := by
  refine ⟨h.1, ?_⟩
  rcases h.2 with h2 | ⟨g2, cap2, cur, h2, hB, hg2, hr⟩
  · exact Or.inl h2
  · exact Or.inr ⟨g2, cap2, cur, h2, hB, (ho.block g2 (by omega)).trans hg2, hr⟩

set_option maxRecDepth 100000 in
set_option maxHeartbeats 400000 in
theorem rtrim_exact (g cap : Nat) (xs : List Nat) (w : World) (h : Wr w g xs) (h2 : xs.length ≤ cap) (h3 : cap ≤ maxLen) : Calls Tryz.prog 95 #[.slice (some ⟨g, 0, none⟩) xs.length cap] w fun e w' => e = .returned (.slice (some ⟨g, 0, none⟩) (Nm.trimL xs).length cap) ∧ w = w' := by
  have hc := h3
  unfold maxLen at hc
  have hl : xs.length ≤ 9223372036854775807 := by omega
  have H6 := Lib.hid h
  have H23 := Lib.hid (And.intro h2 h3)
  clear h h2 h3 hc
  go_enter Tryz.func95, Tryz.ntmps95
  go_wp2
  go_loop [0] (fun v => ∃ k : Nat, k ≤ xs.length ∧ v = .slice (some ⟨g, 0, none⟩) k cap ∧ Hid (∀ i (h : i < xs.length), k ≤ i → xs[i] = 0)) (fun v => lenOf v)
  case atStart => exact ⟨xs.length, Nat.le_refl _, rfl, fun i h hi => absurd h (by omega)⟩
  case round =>
    obtain ⟨k, hk, rfl, hz⟩ := hrel
    rcases Nat.eq_zero_or_pos k with h0 | h0
    · subst h0
      have e0 : Nm.trimL xs = xs.take 0 := Nm.trimL_take (Nat.zero_le _) (fun i h _ => hz.out i h (Nat.zero_le _)) trivial
      have e1 : Hid ((Nm.trimL xs).length = 0) := by rw [e0]; rfl
      clear e0
      go_wp2
      go_ret
      exact ⟨by rw [e1.out]; rfl, rfl⟩
    · obtain ⟨j, rfl⟩ : ∃ j, k = j + 1 := ⟨k - 1, by omega⟩
      have hj : j < xs.length := by omega
      have hcell := (H6.out j hj).1
      have hjc : j ≤ cap := by have := H23.out.1; omega
      by_cases hv : xs[j] = 0
      · have HV := Lib.hid hv
        have hvi : ((xs[j] : Int) == 0) = true := by simp [hv]
        clear hv
        go_wp2
        go_round
        case rel =>
          refine ⟨j, by omega, rfl, fun i h hi => ?_⟩
          rcases Nat.lt_or_ge j i with g | g
          · exact hz.out i h g
          · obtain rfl : i = j := by omega
            exact HV.out
        case measure => simp [lenOf]
      · have e0 : Nm.trimL xs = xs.take (j + 1) := Nm.trimL_take hk hz.out (Nm.nrm_take_last hj hv)
        have e1 : Hid ((Nm.trimL xs).length = j + 1) := by rw [e0]; show _ = _; simp; omega
        have hvi : ((xs[j] : Int) == 0) = false := by simp [hv]
        clear hv e0
        go_wp2
        go_ret
        exact ⟨by rw [e1.out]; rfl, rfl⟩

/-- The lowest bytes of a number behind some rounds. -/
def ToOut (m k : Nat) : Prop := k = 0 ∨ m / 256 ^ (k - 1) ≠ 0
theorem to_div (m k : Nat) : m / 256 ^ k / 256 = m / 256 ^ (k + 1) := by rw [Nat.div_div_eq_div_mul, Nat.pow_succ]
theorem ToOut.step {m k : Nat} (h : m / 256 ^ k ≠ 0) : ToOut m (k + 1) := Or.inr (by rwa [Nat.add_sub_cancel])

end Go.Proofs.YtepddegphdlbeaaGreat

/- The reference's To: the bytes of an integer. -/
namespace Go.Proofs.YtepddegphdlbeaaGreat
open Go.RowKit

/-- A copy of digits: what comes back can be written. -/
def CopyI (w : World) (B : Nat) (v : Value) (X : List Nat) : Prop :=
  ∃ pd cap, v = .slice pd X.length cap ∧ (X = [] ∨ ∃ g, pd = some ⟨g, 0, none⟩ ∧ B ≤ g ∧ g < w.heap.size ∧ Wr w g X) ∧ X.length ≤ cap ∧ cap ≤ maxLen

theorem wpList_append_copy {w : World} {ops : Array Oper} {rest : List Oper} {o : Oper} {a : Act} {Q : Exit → Act → World → Prop} (hgd : o.guard = none) (s x : Operand)
    (ho : o.op = .call { callee := .builtin .append, args := #[s, x], argTypes := #[24, 24] }) (v : Value) (X : List Nat) (hs : a.eval s = .slice none 0 0) (hx : a.eval x = v) (hr : Ri w v X) (hl : X.length ≤ 1000000)
    (h : ∀ v' w', CopyI w' w.heap.size v' X → Below w.heap.size w w' → wpList Tryz.prog ops Q rest (a.put o.dst v') w') : wpList Tryz.prog ops Q (o :: rest) a w := by
  have hi3 : (Tryz.prog.info? 3).map (fun i => (i.zero, i.size, i.bytes)) = some (some (.int .i64 0), 1, 8) := by kernel_rfl
  obtain ⟨i0, hi0, hz0, hz1, hz2⟩ := info_parts hi3
  obtain ⟨p, b, off, cap, rfl, h2, h3, h4, h5, h6⟩ := hr
  rcases h5 with ⟨rfl, rfl⟩ | ⟨rfl, hb⟩
  · have hX : X = [] := List.eq_nil_of_length_eq_zero (by omega)
    subst hX
    exact wpList_append_own_none hgd s x 24 ho w.heap.size 3 i0 1 Tryz.underlying24 hi0 (.slice none 0 0) 0 [] hs (World.ownsRow_nil _ _ _ _) hx (h _ _ ⟨none, 0, rfl, Or.inl rfl, Nat.le_refl _, by unfold maxLen; omega⟩ (Below.refl _ _))
  · refine wpList_append_own w hgd s x 24 ho w.heap.size 3 i0 (.int .i64 0) 1 8 Tryz.underlying24 hi0 hz0 hz1 hz2 rfl (by decide) (.slice none 0 0) 0 [] hs (World.ownsRow_nil _ _ _ _) ⟨b, off, none⟩ X.length cap (iv X) hx (by rw [iv_length, Nat.mul_one]) ?_ ?_ (by unfold maxLen; omega) (by omega) (Nat.le_refl _) ?_
    · intro j u hj
      have hjl : j < X.length := by have h7 := (List.getElem?_eq_some_iff.1 hj).1; rwa [iv_length] at h7
      rw [iv_get X j hjl] at hj
      have hadd : ((⟨b, off, none⟩ : Addr).add j) = ⟨b, off + j, none⟩ := by unfold Addr.add; split <;> simp_all
      rw [hadd, h6 j hjl]; exact hj
    · intro u hu
      simp only [iv, List.mem_map] at hu
      obtain ⟨y, _, rfl⟩ := hu
      rfl
    · intro v' w' hown hgrow _
      have hb9 : Below w.heap.size w w' := (Below.refl _ _).grown hgrow (Nat.le_refl _) (fun q hq => by simp [Value.ownBlock] at hq)
      refine h _ _ ?_ hb9
      rw [Nat.zero_add, List.nil_append] at hown
      have hown2 := hown
      rcases hown.2 with ⟨rfl, h0⟩ | ⟨g, cap2, cur, rfl, hB, hg, hn, hm, _⟩
      · exact ⟨none, 0, by rw [h0], Or.inl (List.eq_nil_of_length_eq_zero h0), by omega, by unfold maxLen; omega⟩
      · exact ⟨_, _, rfl, Or.inr ⟨g, rfl, hB, lt_of_block hg, Wr.of_own hown2⟩, hn, hm⟩

theorem bvl_snoc (l : List Nat) (x : Nat) : bvl (l ++ [x]) = bvl l ++ [Value.int .u8 (x : Int)] := by simp [bvl]
theorem bvl_get (l : List Nat) (k : Nat) (h : k < l.length) : (bvl l)[k]? = some (.int .u8 (l[k] : Int)) := by simp [bvl, List.getElem?_eq_getElem h]

/-- The bytes that the call gathered, as a string. -/
theorem conv_own {w : World} {B : Nat} {v : Value} {l : List Nat} {x : Nat} (h : w.ownsRow B 5 1 v l.length (bvl l)) (hx : l = (Nm.dg 256 x).reverse) :
    (convert 112 9 v).run Tryz.prog w = .ok (.string (bs x)) w := by
  rcases h.2 with ⟨rfl, h0⟩ | ⟨g, cap, cur, rfl, hB, hg, hn, hm, _⟩
  · have hl : l = [] := List.eq_nil_of_length_eq_zero h0
    have hd : Nm.dg 256 x = [] := by rw [hl] at hx; simpa using hx.symm
    have hb : bs x = ⟨#[]⟩ := by unfold bs; rw [hd]; rfl
    rw [hb]
    have := run_convert_bytes_string (P := Tryz.prog) w 112 9 5 none 0 0 Tryz.underlying112 Tryz.underlying5 Tryz.underlying9
    rw [this]
    simp [Conv.bytesToString, loadCells, loadCellsFrom, go_sem]
    rfl
  · have hlen : (l.map UInt8.ofNat).length = l.length := by simp
    have := run_convert_bytes_back (P := Tryz.prog) w 112 9 5 ⟨g, 0, none⟩ cap (l.map UInt8.ofNat) Tryz.underlying112 Tryz.underlying5 Tryz.underlying9 (fun j hj => by
      have hjn : j < l.length := by rw [hlen] at hj; exact hj
      rw [h.cells (g := g) rfl j (.int .u8 (l[j] : Int)) (bvl_get l j hjn)]
      have e2 : l[j] < 256 := by
        have : l[j] ∈ (Nm.dg 256 x).reverse := by rw [← hx]; exact List.getElem_mem _
        exact Nm.dig_dg (by decide) x _ (List.mem_reverse.1 this)
      rw [List.getElem_map]
      congr 2
      simp [UInt8.toNat_ofNat', Nat.mod_eq_of_lt e2])
    rw [hlen] at this
    rw [this, bs, ← hx]

theorem to_bound {m L c : Nat} (hm : m < D9 ^ L) (h : m / 256 ^ c ≠ 0) : c < 4 * L := by
  rcases Nat.lt_or_ge c (4 * L) with g | g
  · exact g
  · have h1 : D9 ^ L ≤ 256 ^ (4 * L) := by
      rw [Nat.pow_mul]
      exact Nat.pow_le_pow_left (by decide) _
    have h2 : 256 ^ (4 * L) ≤ 256 ^ c := Nat.pow_le_pow_right (by decide) g
    exact absurd (Nat.div_eq_of_lt (by omega)) h
theorem dg_nil_iff {B n : Nat} (hB : 2 ≤ B) (h : (Nm.dg B n).length = 0) : n = 0 := by
  have h1 := Nm.val_dg hB n
  rw [List.eq_nil_of_length_eq_zero h] at h1
  simpa [Nm.val] using h1.symm
theorem own_len {w : World} {B n : Nat} {t : TypeId} {v : Value} {xs : List Value} (h : w.ownsRow B t 1 v n xs) : lenOf v = n := by
  rcases h.2 with ⟨rfl, h0⟩ | ⟨g, cap, cur, rfl, _⟩
  · rw [h0]; rfl
  · rfl

theorem own_form {w : World} {B n : Nat} {t : TypeId} {v : Value} {xs : List Value} (h : w.ownsRow B t 1 v n xs) : ∃ p g cap, v = .slice p n cap ∧ n ≤ cap ∧ (0 < n → p = some ⟨g, 0, none⟩ ∧ g < w.heap.size ∧ ∀ k u, xs[k]? = some u → w.cell? ⟨g, k, none⟩ = some u) := by
  have h9 := h
  rcases h.2 with ⟨rfl, h0⟩ | ⟨g, cap, cur, rfl, hB, hg, hn, hm, _⟩
  · exact ⟨none, 0, 0, by rw [h0], by omega, fun h1 => absurd h1 (by omega)⟩
  · refine ⟨_, g, cap, rfl, hn, fun _ => ⟨rfl, lt_of_block hg, fun k u hk => ?_⟩⟩
    have := h9.cells (g := g) rfl k u hk
    have hadd : ((⟨g, 0, none⟩ : Addr).add k) = ⟨g, k, none⟩ := by unfold Addr.add; split <;> simp_all
    rwa [hadd] at this
theorem rev_drop (l : List Nat) (j : Nat) (h : j < l.length) : (l.drop j).reverse = (l.drop (j + 1)).reverse ++ [l[j]] := by
  rw [List.drop_eq_getElem_cons h]; simp

/-- The wide integer of an integer. -/
def wz (z : Int) : Value := wd (decide (z < 0)) z.natAbs
def ToPost (z : Int) (w : World) (e : Ending) (w' : World) : Prop := e = .returned (wz z) ∧ Below w.heap.size w w'

set_option maxRecDepth 100000 in
set_option maxHeartbeats 4000000 in
theorem rto_int (z : Int) (v : Value) (w : World) (h : Rz w v z) (hl : (Nm.dg D9 z.natAbs).length ≤ 1000000) :
    Calls Tryz.prog 39 #[iV z v] w (ToPost z w) := by
  have HZ : Hid (wz z = .agg #[.bool (decide (z < 0)), .string (bs z.natAbs)]) := by
    show _ = _
    rw [wz, wd]
    by_cases hz : z < 0
    · have h1 : z.natAbs ≠ 0 := by omega
      simp [hz, h1]
    · simp [hz]
  have H0 : Hid (Ri w v (Nm.dg D9 z.natAbs)) := h
  obtain ⟨pa, ba, oa, ca, rfl, hr1⟩ := h
  clear hr1
  unfold iV at *
  generalize decide (z < 0) = ng at *
  generalize z.natAbs = m at *
  obtain ⟨w0, hw0⟩ : ∃ w0 : World, w0 = (w.alloc (.cells #[.bool ng, .slice pa (Nm.dg D9 m).length ca] 52)).alloc (.cells #[.bool false, .string ⟨#[]⟩] 44) := ⟨_, rfl⟩
  have hb0 : Hid (Below w.heap.size w w0) := by rw [hw0]; exact ((Below.refl _ _).alloc (Nat.le_refl _) _).alloc (by simp) _
  have hsz : Hid (w.heap.size + 1 + 1 = w0.heap.size) := by rw [hw0]; show _ = _; simp
  have k0 : w0.cell? ⟨w.heap.size, 0, none⟩ = some (.bool ng) := by rw [hw0]; simp [go_sem]
  have k1 : w0.cell? ⟨w.heap.size, 1, none⟩ = some (.slice pa (Nm.dg D9 m).length ca) := by rw [hw0]; simp [go_sem]
  have k4 : w0.cell? ⟨w.heap.size + 1, 0, none⟩ = some (.bool false) := by rw [hw0]; simp [go_sem]
  have k5 : w0.cell? ⟨w.heap.size + 1, 1, none⟩ = some (.string ⟨#[]⟩) := by rw [hw0]; simp [go_sem]
  have k6 : w0.frozen? ⟨w.heap.size + 1, 0, none⟩ = false := by rw [hw0]; simp [go_sem]
  have k7 : w0.frozen? ⟨w.heap.size + 1, 1, none⟩ = false := by rw [hw0]; simp [go_sem]
  have KK := Lib.hid (And.intro k0 (And.intro k4 (And.intro k5 (And.intro k6 k7))))
  have H1 : Hid (Ri w0 (.slice pa (Nm.dg D9 m).length ca) (Nm.dg D9 m)) := H0.out.below hb0.out (Nat.le_refl _)
  have Hw0 := Lib.hid hw0
  clear hw0 k0 k4 k5 k6 k7 H0
  generalize hX : Nm.dg D9 m = X at *
  have HX := Lib.hid hX
  clear hX
  go_enter Tryz.func39, Tryz.ntmps39
  go_wp2_with (at_builtin; rw [← Hw0.out]; refine wpList_append_copy rfl _ _ rfl _ X rfl rfl H1.out hl ?_)
  intro v4 w1 hcopy hb1
  obtain ⟨pd, cap, rfl, hcs, hcap1, hcap2⟩ := hcopy
  have HB1 : Hid (Below w0.heap.size w0 w1) := hb1
  have HC := Lib.hid (And.intro hcs (And.intro hcap1 hcap2))
  have HXL : Hid (m < D9 ^ X.length) := by
    have h5 := Nm.val_lt (Nm.dig_dg D92 m)
    rw [Nm.val_dg D92, HX.out] at h5
    exact h5
  have hi3 : (Tryz.prog.info? 5).map (fun i => (i.zero, i.size, i.bytes)) = some (some (.int .u8 0), 1, 1) := by kernel_rfl
  obtain ⟨i0, hi0, hz0, hz1, hz2⟩ := info_parts hi3
  have HI := Lib.hid (And.intro hi0 (And.intro hz0 (And.intro hz1 hz2)))
  clear hcs hcap1 hcap2 hb1 hi3 hi0 hz0 hz1 hz2 k1 H1
  go_wp2
  go_loopw [3, 4, 5, 6] (fun bk dv _ _ wr => ∃ (wz : World) (c n : Nat) (l : List Nat), wz = wr ∧ n = l.length ∧ n ≤ 1000000 ∧ dv = .slice pd n cap ∧ Hid (l = Nm.dg D9 (m / 256 ^ c)) ∧ Hid (n ≤ X.length) ∧ Hid (c ≤ 4 * X.length) ∧
      Hid (n = 0 ∨ ∃ g, pd = some ⟨g, 0, none⟩ ∧ w0.heap.size ≤ g ∧ g < w1.heap.size ∧ Wr wz g l) ∧ Hid (wz.ownsRow w1.heap.size 5 1 bk c (bvl (lowd m c))) ∧ Hid (ToOut m c) ∧ Hid (Below w0.heap.size w0 wz) ∧ Hid (w1.heap.size ≤ wz.heap.size))
    (fun bk _ _ _ _ => 4 * X.length + 1 - lenOf bk)
  case atStart =>
    exact ⟨w1, 0, X.length, X, rfl, rfl, hl, rfl, by show X = _; rw [Nat.pow_zero, Nat.div_one]; exact HX.out.symm, Nat.le_refl _, Nat.zero_le _, by
      rcases HC.out.1 with h | ⟨g, h1, h2, h3, h4⟩
      · exact Or.inl (by rw [h]; rfl)
      · exact Or.inr ⟨g, h1, h2, h3, h4⟩, World.ownsRow_nil _ _ _ _, Or.inl rfl, HB1.out, Nat.le_refl _⟩
  case round =>
    obtain ⟨wz, c, n, l, rfl, hn, hn6, rfl, hl9, hnX, hc4, hwr, hown, hto, hbl, hsz1⟩ := hrel
    have Hn := Lib.hid hn
    clear hn
    rcases Nat.eq_zero_or_pos n with h0 | h0
    · subst h0
      have hdone : m / 256 ^ c = 0 := by
        have h5 : l = Nm.dg D9 (m / 256 ^ c) := hl9.out
        have h6 : 0 = l.length := Hn.out
        exact dg_nil_iff D92 (by rw [← h5, ← h6])
      have HL : Hid (lowd m c = Nm.dg 256 m) := lowd_dg m c hdone hto.out
      have hcl : Hid (c ≤ 4000000) := by have h5 := hc4.out; show _ ≤ _; omega
      obtain ⟨pb, gb, cb, rfl, hcb, hgb⟩ := own_form hown.out
      have HGB := Lib.hid hgb
      have hcb2 : Hid (c ≤ cb) := hcb
      clear hdone hl9 hnX hc4 hwr hto Hn hgb hcb hown
      have hc0 : c ≤ 4000000 := hcl.out
      go_wp2
      go_loopw [7, 8] (fun ov iv wq => ∃ (wy : World) (k nl : Nat), wy = wq ∧ nl + k = c ∧ iv = .int .i64 ((k : Int) - 1) ∧ Hid (wy.ownsRow wz.heap.size 5 1 ov nl (bvl ((lowd m c).drop k).reverse)) ∧ Hid (Below wz.heap.size wz wy))
        (fun _ iv _ => (intOf iv + 1).toNat)
      case atStart => exact ⟨wz, c, 0, rfl, Nat.zero_add _, rfl, by
        have h5 : (lowd m c).drop c = [] := List.drop_of_length_le (by rw [lowd_length]; omega)
        rw [h5]; exact World.ownsRow_nil _ _ _ _, Below.refl _ _⟩
      case round =>
        rename_i ov _ _ _
        obtain ⟨wy, k, nl, rfl, hk, rfl, hown, hbl2⟩ := hrel
        rcases Nat.eq_zero_or_pos k with h0 | h0
        · subst h0
          have hnl : nl = ((lowd m c).drop 0).reverse.length := by simp [lowd_length]; omega
          have hcv := conv_own (x := m) (hnl ▸ hown.out) (by rw [List.drop_zero, HL.out])
          have hba := link hbl.out hbl2.out
          have q0 := keep1 hba KK.out.1
          have q4 := keep1 hba KK.out.2.1
          have q5 := keep1 hba KK.out.2.2.1
          have q6 := keepf hba KK.out.2.1 KK.out.2.2.2.1
          have q7 := keepf hba KK.out.2.2.1 KK.out.2.2.2.2
          have HB := Lib.hid (link hb0.out hba)
          have n1 : ¬ (w.heap.size = w.heap.size + 1) := by omega
          clear hown hbl2 hba
          go_wp2
          exact bodyPost_ret (v := .agg #[.bool ng, .string (bs m)]) (by simp [results, Tryz.results39, go_sem, q4, q5]) rfl ⟨by rw [HZ.out], (HB.out.setCell (p := ⟨w.heap.size + 1, 0, none⟩) (by simp) _).setCell (p := ⟨w.heap.size + 1, 1, none⟩) (by simp) _⟩
        · obtain ⟨j, rfl⟩ : ∃ j, k = j + 1 := ⟨k - 1, by omega⟩
          have hjl : j < (lowd m c).length := by rw [lowd_length]; omega
          obtain ⟨rfl, hgl, hgc⟩ := HGB.out (by omega)
          have e1 := at_old hbl2.out (hgc j _ (bvl_get _ j hjl))
          obtain ⟨x, hx⟩ : ∃ x, (lowd m c)[j] = x := ⟨_, rfl⟩
          rw [hx] at e1
          have hrd := rev_drop (lowd m c) j hjl
          rw [hx] at hrd
          have HRD := Lib.hid hrd
          have HLL : Hid (nl ≤ 4000000) := by show _ ≤ _; omega
          obtain ⟨y, hy⟩ : ∃ y : Int, (x : Int) = y := ⟨_, rfl⟩
          rw [hy] at e1
          have HY := Lib.hid hy
          have hjc : j < c := by omega
          have hjb : j ≤ cb := by have := hcb2.out; omega
          have e5 : ((j + 1 : Nat) : Int) - 1 = (j : Int) := by omega
          rw [e5]
          have hbase : Hid (wz.heap.size ≤ wy.heap.size) := hbl2.out.size
          clear hjl hgc hx hrd hy hgl
          go_wp2_with (at_builtin; refine wpList_append_own _ rfl _ _ 112 rfl wz.heap.size 5 i0 (.int .u8 0) 1 1 Tryz.underlying112 HI.out.1 HI.out.2.1 HI.out.2.2.1 HI.out.2.2.2 rfl (by decide) _ _ _ rfl (hown.out.alloc _) ⟨wy.heap.size, 0, none⟩ 1 1 [.int .u8 y] rfl rfl ?dc1 ?dc2 ?dc3 ?dc4 ?dc5 ?_)
          case dc2 => rfl
          case dc3 => have h5 := HLL.out; unfold maxLen; omega
          case dc4 => have h5 := HLL.out; omega
          case dc5 => have h5 := hbase.out; omega
          intro v' w2 hown1 hgrow1 _
          have hbl1 : Hid (Below wz.heap.size wz w2) := (hbl2.out.alloc hbase.out _).grown hgrow1 (by have h5 := hbase.out; simp; omega) (fun q hq => (hown.out.lt q hq).1)
          have hown2 : Hid (w2.ownsRow wz.heap.size 5 1 v' (nl + 1) (bvl ((lowd m c).drop j).reverse)) := by
            show World.ownsRow _ _ _ _ _ _ _
            rw [HRD.out, bvl_snoc, HY.out]
            exact hown1
          clear hown1 hgrow1 hbl2 hown
          go_wp2
          go_roundw
          case rel => exact ⟨_, j, nl + 1, rfl, by omega, by go_num, hown2, hbl1⟩
          case measure => simp [intOf]
    · have hne : l ≠ [] := fun e => by have h5 := Hn.out; rw [e] at h5; simp at h5; omega
      rcases hwr.out with h1 | ⟨g, rfl, hg1, hg2, hg3⟩
      · omega
      have hmz : m / 256 ^ c ≠ 0 := fun e => hne (by have h5 : l = Nm.dg D9 (m / 256 ^ c) := hl9.out; rw [h5, e]; rfl)
      have hc5 : c < 4 * X.length := to_bound HXL.out hmz
      have HT := Lib.hid (ToOut.step hmz)
      have DL : Hid (Nm.Dig D9 l) := by have h5 : l = Nm.dg D9 (m / 256 ^ c) := hl9.out; rw [h5]; exact Nm.dig_dg D92 _
      have VL : Hid (Nm.val D9 l = m / 256 ^ c) := by have h5 : l = Nm.dg D9 (m / 256 ^ c) := hl9.out; rw [h5]; exact Nm.val_dg D92 _
      have HG12 := Lib.hid (And.intro hg1 hg2)
      have HG3 := Lib.hid hg3
      have HC5 := Lib.hid hc5
      obtain ⟨pb, gb, cb, hbk, _, _⟩ := own_form hown.out
      subst hbk
      have hcc : Hid (n ≤ cap) := by have h5 := HC.out.2.1; have h6 := hnX.out; show _ ≤ _; omega
      clear hne hmz hc5 hg1 hg2 hg3 hwr hto hl9
      go_wp2
      go_loopw [5, 6] (fun rv iv wq => ∃ (wy : World) (k r : Nat) (ri : Int) (t : List Nat), wy = wq ∧ k ≤ n ∧ iv = .int .i64 ((k : Int) - 1) ∧ rv = .int .i64 ri ∧ 0 ≤ ri ∧ ri < 256 ∧ Hid ((r : Int) = ri) ∧ Hid (ToInv l k r t) ∧ Hid (Wr wy g (l.take k ++ t)) ∧ Hid (Only g wz wy))
        (fun _ iv _ => (intOf iv + 1).toNat)
      case atStart => exact ⟨wz, n, 0, 0, [], rfl, Nat.le_refl _, rfl, rfl, by omega, by omega, rfl, by have h5 : n = l.length := Hn.out; rw [h5]; exact ToInv.start l, by have h5 : n = l.length := Hn.out; rw [h5, List.take_length, List.append_nil]; exact HG3.out, Only.refl _ _⟩
      case round =>
        obtain ⟨wy, k, r, ri, t, rfl, hk, rfl, rfl, hr0, hr1, hri, hinv, hwr, ho⟩ := hrel
        rcases Nat.eq_zero_or_pos k with h0 | h0
        · subst h0
          obtain ⟨f1, f2, f3⟩ := hinv.out.finish
          obtain ⟨f5, f6, f7, _⟩ := hinv.out
          have hrb : r = m / 256 ^ c % 256 := by rw [f1, VL.out]
          have HL2 : Hid (bvl (lowd m c) ++ [Value.int .u8 ri] = bvl (lowd m (c + 1))) := by
            show _ = _
            rw [lowd, bvl_snoc, ← hrb, hri.out]
          have HTR : Hid (Nm.trimL t = Nm.dg D9 (m / 256 ^ (c + 1))) := by
            show _ = _
            rw [f2, VL.out, to_div]
          have ew : IntKind.u8.wrap ri = ri := by
            have h5 := byte_wrap r
            rw [hri.out] at h5
            rw [h5, Nat.mod_eq_of_lt f7]; exact hri.out
          have HF3 : Hid (t.length = n) := by have h5 : n = l.length := Hn.out; rw [h5]; exact f3
          have HTL : Hid ((Nm.trimL t).length ≤ n) := by rw [← HF3.out]; exact Nm.trimL_le t
          have HWR : Hid (Wr wy g t) := by have h5 := hwr.out; rwa [List.take_zero, List.nil_append] at h5
          have HOW : Hid (wy.ownsRow w1.heap.size 5 1 (.slice pb c cb) c (bvl (lowd m c))) := own_only hown.out ho.out HG12.out.2
          have HBW : Hid (Below w0.heap.size w0 wy) := ho.out.below hbl.out HG12.out.1
          have HSZ : Hid (w1.heap.size ≤ wy.heap.size) := by rw [ho.out.size]; exact hsz1.out
          have HC4 : Hid (c ≤ 4000000) := by have h5 := HC5.out; show _ ≤ _; omega
          clear f1 f2 f3 f5 f6 f7 hrb hinv hwr ho hown hbl hsz1 hri hk
          go_wp2_with (at_builtin; refine wpList_append_own _ rfl _ _ 112 rfl w1.heap.size 5 i0 (.int .u8 0) 1 1 Tryz.underlying112 HI.out.1 HI.out.2.1 HI.out.2.2.1 HI.out.2.2.2 rfl (by decide) _ _ _ rfl (HOW.out.alloc _) ⟨wy.heap.size, 0, none⟩ 1 1 [.int .u8 ri] rfl rfl ?ec1 ?ec2 ?ec3 ?ec4 ?ec5 ?_)
          case ec1 => exact one_cell (by simp [go_sem])
          case ec2 => intro u hu; simp at hu; subst hu; rfl
          case ec3 => have h5 := HC4.out; unfold maxLen; omega
          case ec4 => have h5 := HC4.out; omega
          case ec5 => have h5 := HSZ.out; simp; omega
          intro v' w2 hown1 hgrow1 _
          rw [HL2.out] at hown1
          have hgb : ∀ q, some q = Value.ownBlock (.slice pb c cb) → w1.heap.size ≤ q := fun q hq => (HOW.out.lt q hq.symm).1
          have hbl1 : Hid (Below w1.heap.size wy w2) := ((Below.refl w1.heap.size wy).alloc HSZ.out _).grown hgrow1 (by have h5 := HSZ.out; simp; omega) (fun q hq => (HOW.out.lt q hq).1)
          have hown2 : Hid (w2.ownsRow w1.heap.size 5 1 v' (c + 1) (bvl (lowd m (c + 1)))) := hown1
          have HWR2 : Hid (Wr w2 g t) := HWR.out.keep (hbl1.out.block g HG12.out.2)
          have HB2 : Hid (Below w0.heap.size w0 w2) := HBW.out.trans (hbl1.out.mono HB1.out.size)
          have HSZ2 : Hid (w1.heap.size ≤ w2.heap.size) := Nat.le_trans HSZ.out hbl1.out.size
          have HTx := rtrim_exact g cap t w2 HWR2.out (by rw [HF3.out]; exact hcc.out) HC.out.2.2
          rw [HF3.out] at HTx
          have HTX := Lib.hid HTx
          clear hown1 hgrow1 HWR HOW HBW HSZ hgb hbl1 HTx
          go_wp2_with (go_at_call 95; (with_reducible refine HTX.out.mono ?_); rintro e w9 ⟨rfl, rfl⟩)
          go_roundw
          case rel => exact ⟨_, c + 1, (Nm.trimL t).length, Nm.trimL t, rfl, rfl, by have h5 := HTL.out; omega, rfl, HTR.out, by have h5 := HTL.out; have h6 := hnX.out; show _ ≤ _; omega, by have h5 := HC5.out; show _ ≤ _; omega, Or.inr ⟨g, rfl, HG12.out.1, HG12.out.2, HWR2.out.trim⟩, hown2, HT, HB2, HSZ2⟩
          case measure => have h5 := own_len hown2.out; have h6 := HC5.out; have h7 : lenOf (.slice pb c cb) = c := rfl; simp [h5, h7]; omega
        · obtain ⟨j, rfl⟩ : ∃ j, k = j + 1 := ⟨k - 1, by omega⟩
          have hjl : j < l.length := by have h5 : n = l.length := Hn.out; omega
          have hxd : l[j] < D9 := Nm.dig_get DL.out j hjl
          have hst := hinv.out.step hjl hxd
          have hlt2 : j < (l.take (j + 1) ++ t).length := by simp; omega
          obtain ⟨e1, e2⟩ := hwr.out j hlt2
          have hge : (l.take (j + 1) ++ t)[j] = l[j] := by rw [List.getElem_append_left (by simp; omega), List.getElem_take]
          rw [hge] at e1
          obtain ⟨q, hq⟩ : ∃ q, (r * 1000000000 + l[j]) / 256 = q := ⟨_, rfl⟩
          obtain ⟨r2, hr2⟩ : ∃ r2, (r * 1000000000 + l[j]) % 256 = r2 := ⟨_, rfl⟩
          rw [hq, hr2] at hst
          have hset := hwr.out.set j q
          rw [List.set_append_left _ _ (by simp; omega), List.take_succ_eq_append_getElem hjl, List.set_append_right _ _ (by simp; omega)] at hset
          have e5 : j - (l.take j).length = 0 := by simp; omega
          rw [e5, List.set_cons_zero, List.append_assoc] at hset
          have HW2 : Hid (Wr (wy.setCell ⟨g, j, none⟩ (.int .i64 (q : Int))) g (l.take j ++ q :: t)) := hset
          obtain ⟨x, hx⟩ : ∃ x : Int, (l[j] : Int) = x := ⟨_, rfl⟩
          obtain ⟨qi, hqi⟩ : ∃ qi : Int, (q : Int) = qi := ⟨_, rfl⟩
          obtain ⟨r2i, hr2i⟩ : ∃ r2i : Int, (r2 : Int) = r2i := ⟨_, rfl⟩
          have hx0 : 0 ≤ x := by omega
          have hx1 : x < 1000000000 := by unfold D9 at hxd; omega
          have hdiv : (ri * 1000000000 + x) / 256 = qi := by rw [← hri.out, ← hx, ← hqi, ← hq]; omega
          have hmod : (ri * 1000000000 + x) % 256 = r2i := by rw [← hri.out, ← hx, ← hr2i, ← hr2]; omega
          have hr20 : 0 ≤ r2i := by omega
          have hr21 : r2i < 256 := by omega
          rw [hx] at e1
          rw [hqi] at HW2
          have HO2 : Hid (Only g wz (wy.setCell ⟨g, j, none⟩ (.int .i64 qi))) := ho.out.setCell j _
          have HST := Lib.hid hst
          have HR2 : Hid ((r2 : Int) = r2i) := hr2i
          have e6 : ((j + 1 : Nat) : Int) - 1 = (j : Int) := by omega
          rw [e6]
          have hjn : j < n := by omega
          clear hjl hxd hst hlt2 hge hset hq hr2 hx hqi hr2i hinv hwr ho hri e5
          go_wp2
          go_roundw
          case rel => exact ⟨_, j, r2, r2i, q :: t, rfl, by omega, by go_num, by first | rfl | rw [hmod], hr20, hr21, HR2, HST.out, HW2.out, HO2.out⟩
          case measure => simp [intOf]
end Go.Proofs.YtepddegphdlbeaaGreat

/- Plain facts for wide.fromDigits: decimal digits, and the limbs that are written in place. -/
namespace Go.Proofs.YtepddegphdlbeaaGreat
open Go.RowKit

/-- The number that decimal digits say, behind a number so far. -/
def dv : List UInt8 → Nat → Nat
  | [], a => a
  | x :: l, a => dv l (10 * a + (x.toNat - 48))
/-- The number of a decimal text. -/
def decv (d : ByteArray) : Nat := dv d.data.toList 0

theorem own_cell {w : World} {B n g cap k : Nat} {l : List Nat} (h : w.ownsRow B 129 1 (.slice (some ⟨g, 0, none⟩) n cap) n (uv l)) (hk : k < l.length) :
    w.cell? ⟨g, k, none⟩ = some (.int .u64 (l[k] : Int)) ∧ w.frozen? ⟨g, k, none⟩ = false := by
  have h1 := h.cells (g := g) rfl k (.int .u64 (l[k] : Int)) (uv_get l k hk)
  have hadd : ((⟨g, 0, none⟩ : Addr).add k) = ⟨g, k, none⟩ := by unfold Addr.add; split <;> simp_all
  rw [hadd] at h1
  refine ⟨h1, ?_⟩
  rcases h.2 with ⟨h2, _⟩ | ⟨g2, cap2, cur, h2, hB, hg, _⟩
  · simp at h2
  · have : g2 = g := by injection h2 with h3; injection h3 with h4; injection h4 with h5; exact h5.symm
    subst this
    exact frozen_of_row w g2 k _ _ hg
theorem Rd.of_own {w : World} {B : Nat} {v : Value} {l : List Nat} (h : w.ownsRow B 129 1 v l.length (uv l)) : Rd w v l := by
  rcases h.2 with ⟨rfl, h0⟩ | ⟨g, cap, cur, rfl, hB, hg, hn, hm, hs, ht⟩
  · rw [List.eq_nil_of_length_eq_zero h0]; exact Rd.nil w
  · refine ⟨some ⟨g, 0, none⟩, g, 0, cap, rfl, hn, hm, fun _ => rfl, Or.inr ⟨rfl, lt_of_block hg⟩, fun k hk => ?_⟩
    rw [Nat.zero_add]
    exact (own_cell h hk).1

/-- One pass over the limbs: what stands behind k rounds, and the carry. -/
def FdInv (X : List Nat) (y c0 k cn : Nat) (s : List Nat) : Prop :=
  s.length = k ∧ Nm.Dig W s ∧ cn < W ∧ Nm.val W s + W ^ k * cn = y * Nm.val W (X.take k) + c0
theorem FdInv.start {X : List Nat} {y c0 : Nat} (h : c0 < W) : FdInv X y c0 0 c0 [] := ⟨rfl, Nm.dig_nil W, h, by simp [Nm.val]⟩
theorem FdInv.step {X s : List Nat} {y c0 k cn : Nat} (h : FdInv X y c0 k cn s) (hk : k < X.length) (dx : X[k] < W) (dy : y < W) : FdInv X y c0 (k + 1) (mh X[k] y cn) (s ++ [ml X[k] y cn]) := by
  obtain ⟨h1, h2, h3, h4⟩ := h
  refine ⟨by simp [h1], Nm.dig_append.2 ⟨h2, Nm.dig_cons.2 ⟨ml_lt _ _ _, Nm.dig_nil W⟩⟩, mh_lt _ _ _ dx dy h3, ?_⟩
  rw [Nm.val_snoc, h1, Nm.val_take_succ W X k hk, Nat.pow_succ]
  have e1 := mlh X[k] y cn
  generalize mh X[k] y cn = p at *
  generalize ml X[k] y cn = q at *
  generalize W ^ k = P at *
  have e4 : P * (q + W * p) = P * (X[k] * y + cn) := by rw [e1]
  grind
theorem FdInv.finish {V y c0 cn : Nat} {s : List Nat} (h : FdInv (Nm.dg W V) y c0 (Nm.dg W V).length cn s) (hy : 0 < y) :
    (cn = 0 → s = Nm.dg W (y * V + c0)) ∧ (0 < cn → s ++ [cn] = Nm.dg W (y * V + c0)) := by
  obtain ⟨h1, h2, h3, h4⟩ := h
  rw [List.take_length, Nm.val_dg W2] at h4
  constructor
  · intro h0
    subst h0
    rw [Nat.mul_zero, Nat.add_zero] at h4
    rw [← h4]
    refine Nm.eq_dg W2 h2 ?_
    cases hs : s with
    | nil => trivial
    | cons z zs =>
      rw [← hs]
      refine Nm.nrm_of_val h2 ?_
      rw [h4, h1]
      have hne : Nm.dg W V ≠ [] := by intro e; rw [e, hs] at h1; simp at h1
      have h6 := Nm.val_pos (B := W) (Nm.nrm_dg W2 V) hne
      rw [Nm.val_dg W2] at h6
      have h7 : 1 * V ≤ y * V := Nat.mul_le_mul_right _ hy
      omega
  · intro h0
    have e : Nm.val W (s ++ [cn]) = y * V + c0 := by rw [Nm.val_snoc, h1, h4]
    rw [← e]
    exact Nm.eq_dg W2 (Nm.dig_append.2 ⟨h2, Nm.dig_cons.2 ⟨h3, Nm.dig_nil W⟩⟩) (Nm.nrm_snoc _ _ (by omega))

theorem AllD.drop {d : ByteArray} (h : AllD d) (k : Nat) (hk : k ≤ d.size) : AllD (d.extract k d.size) := by
  intro j hj
  have h1 : k + j < d.size := by simp at hj; omega
  have e : (d.extract k d.size)[j] = d[k + j] := by
    simp only [ByteArray.getElem_eq_getElem_data, ByteArray.data_extract, Array.getElem_extract]
  rw [e]
  exact h _ h1
theorem AllD.list {d : ByteArray} (h : AllD d) : ∀ x ∈ d.data.toList, x.toNat ≤ 57 := by
  intro x hx
  obtain ⟨k, hk, rfl⟩ := List.mem_iff_getElem.1 hx
  exact (h k hk).2
end Go.Proofs.YtepddegphdlbeaaGreat

/- The function wide.fromDigits. -/
namespace Go.Proofs.YtepddegphdlbeaaGreat
open Go.RowKit

def szOf : Value → Nat
  | .string s => s.size
  | _ => 0

end Go.Proofs.YtepddegphdlbeaaGreat

/- The function wide.Parse. -/
namespace Go.Proofs.YtepddegphdlbeaaGreat
open Go.RowKit

end Go.Proofs.YtepddegphdlbeaaGreat

/- The reference's integer out of any int. -/
namespace Go.Proofs.YtepddegphdlbeaaGreat
open Go.RowKit

set_option maxRecDepth 100000 in
set_option maxHeartbeats 2000000 in
theorem rnum_neg (m : Nat) (w : World) (h0 : 0 < m) (hm : m ≤ 9223372036854775808) :
    Calls Tryz.prog 74 #[.int .i64 (-(m : Int))] w (IntPost (-(m : Int)) w) := by
  obtain ⟨x0, h0'⟩ : ∃ x0, m % 1000000000 = x0 := ⟨_, rfl⟩
  obtain ⟨x1, h1⟩ : ∃ x1, m / 1000000000 % 1000000000 = x1 := ⟨_, rfl⟩
  obtain ⟨x2, h2⟩ : ∃ x2, m / 1000000000 / 1000000000 = x2 := ⟨_, rfl⟩
  have HD : Hid (Nm.trimL [x0, x1, x2] = Nm.dg D9 m) := by
    show _ = _
    subst h0' h1 h2
    have h1 : Nm.Dig D9 [m % 1000000000, m / 1000000000 % 1000000000, m / 1000000000 / 1000000000] :=
      Nm.dig_cons.2 ⟨Nat.mod_lt _ (by decide), Nm.dig_cons.2 ⟨Nat.mod_lt _ (by decide), Nm.dig_cons.2 ⟨by unfold D9; omega, Nm.dig_nil _⟩⟩⟩
    rw [Nm.trimL_dg D92 h1]
    congr 1
    simp only [Nm.val_cons, Nm.val_nil]
    unfold D9
    omega
  have f0 : x0 < 1000000000 := by rw [← h0']; exact Nat.mod_lt _ (by decide)
  have f1 : x1 < 1000000000 := by rw [← h1]; exact Nat.mod_lt _ (by decide)
  have f2 : x2 < 1000000000 := by omega
  obtain ⟨q, hq⟩ : ∃ q, m / 1000000000 = q := ⟨_, rfl⟩
  rw [hq] at h1 h2
  have hml : (Nm.dg D9 m).length ≤ 1000000 := by
    have h6 : (9223372036854775808 : Nat) < D9 ^ 3 := by decide
    have h5 := Nm.len_le_of_val D92 (Nm.nrm_dg D92 m) (k := 3) (by rw [Nm.val_dg D92]; omega)
    omega
  have hM0 := fun v w (h : Ri w v (Nm.dg D9 m)) => (rmade_any true v m w h).mono (made_int (z := -(m : Int)) (by simp))
  have HM := Lib.hid hM0
  have HT := Lib.hid (fun v xs w h => rtrim_any v xs w h)
  have HSb0 := fun v1 v2 w' (h1 : Rz w' v1 (-(m : Int))) (h2 : Rz w' v2 0) => rsub_int (-(m : Int)) 0 v1 v2 w' h1 h2 (by rw [Int.natAbs_neg]; exact hml) (by simp [Nm.dg_zero])
  have HSb := Lib.hid HSb0
  have HZ0 : Hid (-(m : Int) - 0 = -(m : Int)) := Int.sub_zero _
  obtain ⟨nn, hnn⟩ : ∃ nn : Int, -(m : Int) = nn := ⟨_, rfl⟩
  have e0 : Int.tmod nn 1000000000 = -(x0 : Int) := by rw [← hnn, Int.neg_tmod, Int.tmod_eq_emod_of_nonneg (by omega)]; omega
  have e1 : Int.tdiv nn 1000000000 = -(q : Int) := by rw [← hnn, Int.neg_tdiv, Int.tdiv_eq_ediv_of_nonneg (by omega)]; omega
  have e2 : Int.tmod (-(q : Int)) 1000000000 = -(x1 : Int) := by rw [Int.neg_tmod, Int.tmod_eq_emod_of_nonneg (by omega)]; omega
  have e3 : Int.tdiv (-(q : Int)) 1000000000 = -(x2 : Int) := by rw [Int.neg_tdiv, Int.tdiv_eq_ediv_of_nonneg (by omega)]; omega
  obtain ⟨w0, hw0⟩ : ∃ w0 : World, w0 = w.alloc (.cells #[.bool false, .slice none 0 0] 52) := ⟨_, rfl⟩
  have hb0 : Hid (Below w.heap.size w w0) := by rw [hw0]; exact below_new _ _
  have k4 : w0.cell? ⟨w.heap.size, 0, none⟩ = some (.bool false) := by rw [hw0]; simp [go_sem]
  have k5 : w0.cell? ⟨w.heap.size, 1, none⟩ = some (.slice none 0 0) := by rw [hw0]; simp [go_sem]
  have k6 : w0.frozen? ⟨w.heap.size, 0, none⟩ = false := by rw [hw0]; simp [go_sem]
  have k7 : w0.frozen? ⟨w.heap.size, 1, none⟩ = false := by rw [hw0]; simp [go_sem]
  have h3 := Ri.three w0 x0 x1 x2
  have b3 := below_new w0 (.cells #[.int .i64 (x0 : Int), .int .i64 (x1 : Int), .int .i64 (x2 : Int)] 3)
  have hsz : w0.heap.size = w.heap.size + 1 := by rw [hw0]; simp
  rw [hsz] at h3
  have G3 := Lib.hid (And.intro h3 b3)
  have Hw0 := Lib.hid hw0
  have KK := Lib.hid (And.intro k4 (And.intro k5 (And.intro k6 k7)))
  have hn0 : nn < 0 := by omega
  have hn1 : -9223372036854775808 ≤ nn := by omega
  have hq1 : (q : Int) ≤ 9223372037 := by omega
  rw [hnn] at HM HSb HZ0 ⊢
  clear h0' h1 h2 h3 b3 hsz hw0 k4 k5 k6 k7 hm hnn hM0 HSb0 hml h0 hq
  go_enter Tryz.func74, Tryz.ntmps74
  go_wp2_with fail
  rw [← Hw0.out]
  refine (HT.out _ _ _ G3.out.1).mono ?_
  rintro e w5 ⟨v5, rfl, h5, rfl⟩
  rw [HD.out] at h5
  have H5 := Lib.hid h5
  clear h5
  go_wp2_with fail
  refine (HM.out _ _ H5.out).mono ?_
  rintro e w6 ⟨v6, he, h6, b6⟩
  unfold iV at he
  obtain ⟨zb, hzb⟩ : ∃ zb, decide (nn < 0) = zb := ⟨_, rfl⟩
  rw [hzb] at he
  have HZB := Lib.hid hzb
  clear hzb
  subst he
  have HS6 := HSb.out v6 (.slice none 0 0) w6 h6 (Ri.nil _)
  unfold iV at HS6
  rw [HZB.out] at HS6
  have HS7 := Lib.hid HS6
  have C6 := Lib.hid (link G3.out.2 b6)
  have H6 := Lib.hid h6
  clear h6 b6 HS6
  go_wp2_with fail
  refine HS7.out.mono ?_
  rintro e w7 ⟨v7, he, h7, b7⟩
  rw [HZ0.out] at he h7
  unfold iV at he
  rw [HZB.out] at he
  subst he
  have c7 := link C6.out b7
  have q4 := keep1 c7 KK.out.1
  have q5 := keep1 c7 KK.out.2.1
  have q6 := keepf c7 KK.out.1 KK.out.2.2.1
  have q7 := keepf c7 KK.out.2.1 KK.out.2.2.2
  have H7 := Lib.hid h7
  have HZ := Lib.hid (link hb0.out c7)
  obtain ⟨pm, bm, om, cm, rfl, hrm⟩ := h7
  clear hrm b7 c7
  go_wp2
  exact bodyPost_ret (v := .agg #[.bool zb, .slice pm (Nm.dg D9 nn.natAbs).length cm]) (by simp [results, Tryz.results74, go_sem, q4, q5]) rfl ⟨_, by rw [iV, HZB.out], H7.out.set2 q4 q5 (fun _ => by simp), (HZ.out.setCell (p := ⟨w.heap.size, 0, none⟩) (Nat.le_refl _) _).setCell (p := ⟨w.heap.size, 1, none⟩) (Nat.le_refl _) _⟩

theorem rnum_any (n : Int) (w : World) (h1 : -9223372036854775808 ≤ n) (h2 : n ≤ 9223372036854775807) :
    Calls Tryz.prog 74 #[.int .i64 n] w (IntPost n w) := by
  by_cases h : n < 0
  · obtain ⟨m, rfl⟩ : ∃ m : Nat, n = -(m : Int) := ⟨n.natAbs, by omega⟩
    exact rnum_neg m w (by omega) (by omega)
  · obtain ⟨m, rfl⟩ : ∃ m : Nat, n = (m : Int) := ⟨n.natAbs, by omega⟩
    exact rnum_nat m w (by omega)
end Go.Proofs.YtepddegphdlbeaaGreat

/- wide.Quo by 0; the law's functions w and q. -/
namespace Go.Proofs.YtepddegphdlbeaaGreat
open Go.RowKit

/-- The wide integer of an integer comes back. -/
def ZPost (z : Int) (w : World) (e : Ending) (w' : World) : Prop := e = .returned (.agg #[.bool (zb z), .string (zs z)]) ∧ Below w.heap.size w w'
theorem wz_eq (z : Int) : wz z = .agg #[.bool (zb z), .string (zs z)] := by
  rw [wz, wd, zb, zs]
  by_cases hz : z < 0
  · have h1 : z.natAbs ≠ 0 := by omega
    simp [hz, h1]
  · simp [hz]

/-- The ratio of two integers, as it stands. -/
def QZPost (x y : Int) (w : World) (e : Ending) (w' : World) : Prop := e = .returned (.agg #[.bool (zb x), .string (zs x), .bool (zb y), .string (zs y)]) ∧ Below w.heap.size w w'

end Go.Proofs.YtepddegphdlbeaaGreat

/- What the calls of the law's function known give, at their inputs. -/
namespace Go.Proofs.YtepddegphdlbeaaGreat
open Go.RowKit

abbrev Z (z : Int) : Value := .agg #[.bool (zb z), .string (zs z)]
abbrev Q (x y : Int) : Value := .agg #[.bool (zb x), .string (zs x), .bool (zb y), .string (zs y)]
def Ret (v : Value) (w : World) (e : Ending) (w' : World) : Prop := e = .returned v ∧ Below w.heap.size w w'

abbrev S0 : ByteArray := ⟨#[45, 48]⟩
abbrev S7 : ByteArray := ⟨#[48, 48, 55]⟩
abbrev S64 : ByteArray := ⟨#[45, 49, 56, 52, 52, 54, 55, 52, 52, 48, 55, 51, 55, 48, 57, 53, 53, 49, 54, 49, 54]⟩
abbrev R64 : Value := .agg #[.bool true, .string ⟨#[1, 0, 0, 0, 0, 0, 0, 0, 0]⟩]
end Go.Proofs.YtepddegphdlbeaaGreat

/- The law's function known gives true. -/
namespace Go.Proofs.YtepddegphdlbeaaGreat
open Go.RowKit

end Go.Proofs.YtepddegphdlbeaaGreat

/- The law's functions short and valid. -/
namespace Go.Proofs.YtepddegphdlbeaaGreat
open Go.RowKit

/-- A list of wide integers lies in a block. -/
def WL (w : World) (g : Nat) (L : List (Bool × ByteArray)) : Prop := ∀ k (h : k < L.length), w.cell? ⟨g, 2 * k, none⟩ = some (.bool L[k].1) ∧ w.cell? ⟨g, 2 * k + 1, none⟩ = some (.string L[k].2)
theorem WL.below {w w' : World} {g : Nat} {L : List (Bool × ByteArray)} (h : WL w g L) (b : Below w.heap.size w w') : WL w' g L := fun k hk => ⟨keep1 b (h k hk).1, keep1 b (h k hk).2⟩
theorem WL.one (w : World) (a : Bool) (s : ByteArray) (t : TypeId) : WL (w.alloc (.cells #[.bool a, .string s] t)) w.heap.size [(a, s)] := by
  intro k hk
  match k, hk with
  | 0, _ => exact ⟨by simp [go_sem], by simp [go_sem]⟩
theorem WL.two (w : World) (a b : Bool) (s t : ByteArray) (ty : TypeId) : WL (w.alloc (.cells #[.bool a, .string s, .bool b, .string t] ty)) w.heap.size [(a, s), (b, t)] := by
  intro k hk
  match k, hk with
  | 0, _ => exact ⟨by simp [go_sem], by simp [go_sem]⟩
  | 1, _ => exact ⟨by simp [go_sem], by simp [go_sem]⟩
def shortL (L : List (Bool × ByteArray)) : Bool := L.all fun x => decide (x.2.size ≤ 60)
def validL (L : List (Bool × ByteArray)) : Bool := L.all fun x => vld x.1 x.2
end Go.Proofs.YtepddegphdlbeaaGreat

/- The reference's From: the integer of a wide integer's bytes. -/
namespace Go.Proofs.YtepddegphdlbeaaGreat
open Go.RowKit

theorem Ri.drew {w : World} {v : Value} {xs : List Nat} (h : Ri w v xs) : Ri w.drew v xs := h
theorem Ri.allocd {w : World} {v : Value} {xs : List Nat} (h : Ri w v xs) (o : Obj) : Ri (w.alloc o) v xs := h.below (below_one w o) (Nat.le_refl _)
theorem trim_one {x : Nat} (h : x < 256) : Nm.trimL [x] = Nm.dg D9 x := by
  have h1 : Nm.Dig D9 [x] := Nm.dig_cons.2 ⟨by unfold D9; omega, Nm.dig_nil _⟩
  rw [Nm.trimL_dg D92 h1]
  simp [Nm.val]
theorem dg9_256 {m k : Nat} (h : m < 256 ^ k) : (Nm.dg D9 m).length ≤ k := by
  refine Nm.len_le_of_val D92 (Nm.nrm_dg D92 m) ?_
  rw [Nm.val_dg D92]
  exact Nat.lt_of_lt_of_le h (Nat.pow_le_pow_left (by decide) k)
theorem wrap_byte {x : Nat} (h : x < 256) : IntKind.i64.wrap (x : Int) = (x : Int) := by
  unfold IntKind.wrap
  simp [IntKind.bits, IntKind.signed]
  omega
theorem hval_take {s : ByteArray} {k : Nat} (hk : k < s.size) : hval (s.data.toList.take (k + 1)) 0 = hval (s.data.toList.take k) 0 * 256 + s[k].toNat := by
  have h2 : k < s.data.toList.length := hk
  rw [List.take_succ_eq_append_getElem h2, hval_snoc]
  rfl
theorem hval_take_lt {s : ByteArray} {k : Nat} (hk : k ≤ s.size) : hval (s.data.toList.take k) 0 < 256 ^ k := by
  have h := hval_lt (s.data.toList.take k)
  have h2 : (s.data.toList.take k).length = k := by
    have : s.data.toList.length = s.size := rfl
    simp; omega
  rwa [h2] at h
theorem hval_all (s : ByteArray) : hval (s.data.toList.take s.size) 0 = bv s := by
  have h2 : s.data.toList.length = s.size := rfl
  rw [List.take_of_length_le (by omega), hval_eq, Nat.zero_mul, Nat.zero_add]; rfl

set_option maxRecDepth 100000 in
set_option maxHeartbeats 4000000 in
theorem rfrom_any (a : Bool) (s : ByteArray) (w : World) (hs : s.size ≤ 100000) : Calls Tryz.prog 37 #[.agg #[.bool a, .string s]] w (IntPost (sg a (bv s)) w) := by
  have HM := Lib.hid (fun v m w h => (rmade_any a v m w h).mono (made_int (z := sg a m) rfl))
  have HT := Lib.hid (fun v xs w h => rtrim_any v xs w h)
  obtain ⟨w0, hw0⟩ : ∃ w0 : World, w0 = (w.alloc (.cells #[.bool a, .string s] 44)).alloc (.cells #[.bool false, .slice none 0 0] 52) := ⟨_, rfl⟩
  have hb0 : Hid (Below w.heap.size w w0) := by rw [hw0]; exact ((Below.refl _ _).alloc (Nat.le_refl _) _).alloc (by simp) _
  have i1 : ZC (.bool a) (.string s) w0 w.heap.size := by rw [hw0]; exact (ZC.new rfl).alloc _
  have i2 : ZC (.bool false) (.slice none 0 0) w0 (w.heap.size + 1) := by rw [hw0]; exact ZC.new (by simp)
  have I1 := Lib.hid i1
  have I2 := Lib.hid i2
  have Hw0 := Lib.hid hw0
  clear i1 i2 hw0
  go_enter Tryz.func37, Tryz.ntmps37
  go_wp2_with fail
  rw [← Hw0.out]
  clear Hw0
  go_loopw [3, 4] (fun dv iv wr => ∃ (wz : World) (k : Nat), wz = wr ∧ k ≤ s.size ∧ iv = .int .i64 (k : Int) ∧ Hid (Ri wz dv (Nm.dg D9 (hval (s.data.toList.take k) 0))) ∧ Hid (Below w0.heap.size w0 wz))
    (fun _ iv _ => s.size - (intOf iv).toNat)
  case atStart => exact ⟨w0, 0, rfl, Nat.zero_le _, rfl, by rw [List.take_zero]; exact Ri.nil w0, Below.refl _ _⟩
  case round =>
    obtain ⟨wz, k, rfl, hk, rfl, hri, hbl⟩ := hrel
    by_cases hlt : k < s.size
    · have hmx := hval_take_lt (s := s) (k := k) hk
      have HS := Lib.hid (hval_take hlt)
      have hlm := Nat.le_trans (dg9_256 hmx) (by omega : k ≤ 1000000)
      obtain ⟨m, hm⟩ : ∃ m, hval (s.data.toList.take k) 0 = m := ⟨_, rfl⟩
      rw [hm] at hri HS hlm hmx
      obtain ⟨x, hx⟩ : ∃ x : Nat, s[k].toNat = x := ⟨_, rfl⟩
      have hx2 : x < 256 := by rw [← hx]; exact UInt8.toNat_lt _
      rw [hx] at HS
      have hlm2 : (Nm.dg D9 (m * 256)).length ≤ 1000000 := by
        refine Nat.le_trans (dg9_256 (k := k + 1) ?_) (by omega)
        rw [Nat.pow_succ]
        exact Nat.mul_lt_mul_of_pos_right hmx (by decide)
      have HSM : Hid (∀ v w', Ri w' v (Nm.dg D9 m) → Calls Tryz.prog 94 #[v, .int .i64 256] w' (GivesI (m * 256) w')) := fun v w' h => rsmall_any v m 256 w' (by decide) h hlm
      have HP : Hid (∀ v1 v2 w', Ri w' v1 (Nm.dg D9 (m * 256)) → Ri w' v2 (Nm.dg D9 x) → Calls Tryz.prog 93 #[v1, v2] w' (GivesI (m * 256 + x) w')) := fun v1 v2 w' h1 h2 => rplus_any v1 v2 (m * 256) x w' h1 h2 hlm2 (Nat.le_trans (dg9_256 (k := 1) hx2) (by decide))
      have HX := Lib.hid (trim_one hx2)
      have hRi := hri.out
      have hwr := wrap_byte hx2
      obtain ⟨k0, k1, _⟩ := I1.out.next hbl.out
      have k1b := k1
      have hxi : (s[k].toNat : Int) = (x : Int) := by rw [hx]
      have hsz : Hid (w.heap.size < wz.heap.size) := World.block_lt_of_cell? wz _ k0
      have hsz2 := hsz.out
      have hsz3 : ¬ wz.heap.size = w.heap.size := by omega
      have hsz4 : ¬ w.heap.size = wz.heap.size := by omega
      clear hm hmx hlm hlm2 k0
      go_wp2_with fail
      go_region_held3 (fun W' => W'.cell? ⟨w.heap.size, 1, none⟩ = some (.string s)) (go_keep)
        (first
          | (go_at_call 94; (with_reducible refine (HSM.out _ _ (by first | exact hRi | exact hRi.drew | exact hRi.allocd _ | exact (hRi.allocd _).drew | exact hRi.drew.allocd _)).mono ?_); rintro e w1 ⟨v1, rfl, r1, b1⟩; (try (have b1 := undrew b1)); have d1 : Below wz.heap.size wz w1 := chain (by first | exact Below.refl _ _ | exact (Below.refl _ _).drew | exact below_one _ _ | exact ((Below.refl _ _).drew).alloc (Nat.le_refl _) _) b1; have p1 := keep1 d1 k1b; (try (have X1 := Lib.hid ((Ri.one wz x).below b1 (Nat.le_refl _)))); have f1 : w.heap.size < w1.heap.size := Nat.lt_of_lt_of_le hsz.out d1.size; have f2 : ¬ w1.heap.size = w.heap.size := Nat.ne_of_gt f1; have f3 : ¬ w.heap.size = w1.heap.size := Nat.ne_of_lt f1; have G1 := Lib.hid r1)
          | (go_at_call 95; (with_reducible refine (HT.out _ [x] _ (by first | exact X1.out | exact Ri.one w1 x)).mono ?_); rintro e w2 ⟨v2, rfl, r2, rfl⟩; rw [HX.out] at r2; have G2 := Lib.hid r2)
          | (go_at_call 93; (with_reducible refine (HP.out _ _ _ (by first | exact G1.out | exact G1.out.allocd _) G2.out).mono ?_); rintro e w3 ⟨v3, rfl, r3, b3⟩; have d3 : Below wz.heap.size wz w3 := chain d1 (chain (by first | exact Below.refl _ _ | exact below_one _ _) b3); have p1 := keep1 d3 k1b; have G3 := Lib.hid r3; have D3 := Lib.hid d3)
          | fail)
      all_goals
        have C3 := Lib.hid (chain hbl.out D3.out)
        rw [← HS.out] at G3
        go_wp2
        go_roundw
        case rel => exact ⟨_, k + 1, rfl, by omega, by go_num, G3, C3⟩
        case measure => simp [intOf]; omega
    · obtain rfl : k = s.size := by omega
      have hRI := hri
      rw [hval_all] at hRI
      obtain ⟨k0, _⟩ := I1.out.next hbl.out
      clear hri
      go_wp2_with fail
      refine (HM.out _ _ _ hRI.out).mono ?_
      rintro e w4 ⟨v4, rfl, r4, b4⟩
      have c := chain hbl.out b4
      obtain ⟨m0, m1, m2, m3⟩ := I2.out.next c
      have HR := Lib.hid r4
      obtain ⟨p9, q9, o9, c9, rfl, hr9⟩ := r4
      unfold iV
      obtain ⟨zz, hzz⟩ : ∃ zz, decide (sg a (bv s) < 0) = zz := ⟨_, rfl⟩
      rw [hzz]
      have HZZ := Lib.hid hzz
      clear hzz
      have HZ := Lib.hid (below_set2 (chain hb0.out c) (g := w.heap.size + 1) (by omega) (.bool zz) (.slice p9 (Nm.dg D9 (sg a (bv s)).natAbs).length c9))
      have HR2 := Lib.hid (HR.out.set2 (u1 := .bool zz) (u2 := .slice p9 (Nm.dg D9 (sg a (bv s)).natAbs).length c9) m0 m1 (fun _ => by simp))
      clear b4 c hr9
      go_wp2
      exact bodyPost_ret (v := .agg #[.bool zz, .slice p9 (Nm.dg D9 (sg a (bv s)).natAbs).length c9]) (by simp [results, Tryz.results37, go_sem, m0, m1]) rfl ⟨_, by rw [iV, HZZ.out], HR2.out, HZ.out⟩
end Go.Proofs.YtepddegphdlbeaaGreat

/- The law WideInts gives true. -/
namespace Go.Proofs.YtepddegphdlbeaaGreat
open Go.RowKit

theorem sg_z (z : Int) : sg (zb z) z.natAbs = z := by
  unfold sg zb
  by_cases h : z < 0
  · rw [decide_eq_true h, if_pos rfl]; omega
  · rw [decide_eq_false h, if_neg (by simp)]; omega
theorem zb_sg {a : Bool} {s : ByteArray} (h : vld a s = true) : zb (sg a (bv s)) = a ∧ zs (sg a (bv s)) = s := by
  have hc := vld_can h
  have e1 : (sg a (bv s)).natAbs = bv s := by unfold sg; split <;> omega
  refine ⟨?_, by rw [zs, e1, bs_bv hc]⟩
  unfold sg zb
  cases a with
  | false => rw [if_neg (by simp)]; exact decide_eq_false (by omega)
  | true =>
    rw [if_pos rfl]
    have h0 : 0 < s.size := by
      rcases Nat.eq_zero_or_pos s.size with h0 | h0
      · unfold vld at h; rw [dif_neg (by omega)] at h; simp at h
      · exact h0
    have : bv s ≠ 0 := fun h1 => by have := (bv_zero_iff hc).1 h1; omega
    exact decide_eq_true (by omega)
end Go.Proofs.YtepddegphdlbeaaGreat

/- The reference's Bits, Big and Out; the law's function is. -/
namespace Go.Proofs.YtepddegphdlbeaaGreat
open Go.RowKit

theorem field_mag (x : Bool) (s : ByteArray) (w : World) : (Instr.field 44 (.agg #[.bool x, .string s]) 1).run Tryz.prog w = .ok (.string s) w := by kernel_rfl
theorem bitLen_half : ∀ x < 256, x ≠ 0 → Lib.bitLen x = Lib.bitLen (x / 2) + 1 := by decide +kernel
theorem bitLen_0 : Lib.bitLen 0 = 0 := by decide

set_option maxRecDepth 100000 in
set_option maxHeartbeats 2000000 in
theorem rbits_int (z : Int) (v : Value) (w : World) (h : Rz w v z) (hl : (Nm.dg D9 z.natAbs).length ≤ 1000000) (hs : (zs z).size ≤ 100000000) :
    Calls Tryz.prog 72 #[iV z v] w (IPost (lenB (zs z)) w) := by
  have HT : Hid (∀ v w, Rz w v z → Calls Tryz.prog 39 #[iV z v] w fun e w' => e = .returned (.agg #[.bool (zb z), .string (zs z)]) ∧ Below w.heap.size w w') := fun v w h => by
    have := rto_int z v w h hl
    unfold ToPost at this
    rwa [wz_eq] at this
  have H0 := Lib.hid h
  obtain ⟨p, b1, o1, c1, rfl, hr⟩ := h
  clear hr hl
  unfold iV at HT ⊢
  generalize decide (z < 0) = bz at *
  generalize zb z = bb at *
  generalize zs z = s at *
  generalize (Nm.dg D9 z.natAbs).length = len at *
  obtain ⟨w0, hw0⟩ : ∃ w0 : World, w0 = w.alloc (.cells #[.bool bz, .slice p len c1] 52) := ⟨_, rfl⟩
  have hb0 : Hid (Below w.heap.size w w0) := by rw [hw0]; exact below_one _ _
  have R0 : Hid (Rz w0 (.slice p len c1) z) := Ri.below H0.out hb0.out (Nat.le_refl _)
  have Hw0 := Lib.hid hw0
  clear hw0 H0
  rcases Nat.eq_zero_or_pos s.size with h0 | h0
  · have E : Hid (lenB s = 0) := by show _ = _; unfold lenB; rw [dif_neg (by omega)]
    rw [E.out]
    have hz : ((s.size : Int) == 0) = true := beq_iff_eq.2 (by omega)
    have hfm := field_mag
    clear h0
    go_enter Tryz.func72, Tryz.ntmps72
    go_wp2_with fail
    rw [← Hw0.out]
    refine (HT.out _ _ R0.out).mono ?_
    rintro e wa ⟨rfl, ba⟩
    have HZ := Lib.hid (chain hb0.out ba)
    clear ba
    go_wp2
    go_ret
    exact ⟨rfl, HZ.out⟩
  · have hz : ((s.size : Int) == 0) = false := beq_eq_false_iff_ne.2 (by omega)
    have hfm := field_mag
    obtain ⟨x, hx⟩ : ∃ x : Nat, s[0].toNat = x := ⟨_, rfl⟩
    have hx2 : x < 256 := by rw [← hx]; exact UInt8.toNat_lt _
    have hxi : (s[0].toNat : Int) = (x : Int) := by rw [hx]
    have hwr : IntKind.i64.wrap (x : Int) = (x : Int) := by
      unfold IntKind.wrap
      simp [IntKind.bits, IntKind.signed]
      omega
    obtain ⟨T, hT⟩ : ∃ T : Int, lenB s = T := ⟨_, rfl⟩
    rw [hT]
    have hT2 : 8 * ((s.size : Int) - 1) + ((Lib.bitLen x : Nat) : Int) = T := by
      rw [← hT]
      unfold lenB
      rw [dif_pos h0, hx]
      omega
    have HTT := Lib.hid hT2
    have hT1 : T ≤ 900000000 := by
      have := bitLen_le64 x (Nat.lt_of_lt_of_le hx2 (by decide))
      omega
    clear hT hx hT2
    go_enter Tryz.func72, Tryz.ntmps72
    go_wp2_with fail
    rw [← Hw0.out]
    refine (HT.out _ _ R0.out).mono ?_
    rintro e wa ⟨rfl, ba⟩
    have HZ := Lib.hid (chain hb0.out ba)
    clear ba
    go_wp2
    go_loop [4, 5] (fun nv kv => ∃ (n kk : Int) (k : Nat), nv = .int .i64 n ∧ kv = .int .i64 kk ∧ 0 ≤ kk ∧ kk < 256 ∧ 0 ≤ n ∧ n ≤ T ∧ Hid (kk = (k : Int)) ∧ Hid (n + ((Lib.bitLen k : Nat) : Int) = T)) (fun _ kv => (intOf kv).toNat)
    case atStart => exact ⟨_, _, x, rfl, rfl, by omega, by omega, by omega, by have h5 := HTT.out; omega, rfl, HTT.out⟩
    case round =>
      obtain ⟨n, kk, k, rfl, rfl, hk1, hk2, hn0, hnT, hkk, hinv⟩ := hrel
      by_cases hk0 : kk = 0
      · have E2 : Hid (n = T) := by
          have h5 := hinv.out
          have h6 : kk = (k : Int) := hkk.out
          obtain rfl : k = 0 := by omega
          rw [bitLen_0] at h5
          show _ = _
          omega
        subst hk0
        go_wp2
        go_ret
        exact ⟨by rw [← E2.out]; rfl, HZ.out⟩
      · have hpos : 0 < kk := by omega
        have h6 : kk = (k : Int) := hkk.out
        have hst : Hid (n + 1 + ((Lib.bitLen (k / 2) : Nat) : Int) = T) := by
          have h5 := hinv.out
          rw [bitLen_half k (by omega) (by omega)] at h5
          show _ = _
          omega
        have hn1 : n + 1 ≤ T := by have h5 := hst.out; omega
        obtain ⟨k2, hk2e⟩ : ∃ k2 : Int, kk / 2 = k2 := ⟨_, rfl⟩
        have hk3 : 0 ≤ k2 := by omega
        have hk4 : k2 < 256 := by omega
        have hk5 : Hid (k2 = ((k / 2 : Nat) : Int)) := by show _ = _; omega
        have hk6 : Hid (k2 < kk) := by show _ < _; omega
        clear h6 hk0
        go_wp2
        go_round
        case rel => exact ⟨n + 1, k2, k / 2, rfl, by first | rfl | rw [hk2e], hk3, hk4, by omega, hn1, hk5, hst⟩
        case measure => have h5 := hk6.out; simp only [intOf]; omega

theorem bitLen_le (x : Nat) (h : x < 256) : Lib.bitLen x ≤ 8 := by
  revert x
  decide +kernel
end Go.Proofs.YtepddegphdlbeaaGreat

/- The law WideValid gives true. -/
namespace Go.Proofs.YtepddegphdlbeaaGreat
open Go.RowKit

theorem sgV_sg {a : Bool} {s : ByteArray} (h : vld a s = true) : sgV a s = (sg a (bv s)).sign := by
  have h1 := zb_sg h
  have h2 : (sg a (bv s)).natAbs < Top := by
    have e1 : (sg a (bv s)).natAbs = bv s := by unfold sg; split <;> omega
    rw [e1]
    exact bv_lt h
  have h3 := sgV_z h2
  rwa [h1.1, h1.2] at h3
end Go.Proofs.YtepddegphdlbeaaGreat

/- The reference's Out where the result is a wide integer; the law's function is where it holds. -/
namespace Go.Proofs.YtepddegphdlbeaaGreat
open Go.RowKit

end Go.Proofs.YtepddegphdlbeaaGreat

/- The function wide.Sub. -/
namespace Go.Proofs.YtepddegphdlbeaaGreat
open Go.RowKit

set_option maxRecDepth 100000 in
set_option maxHeartbeats 1000000 in
theorem Sub_valid (a b : Bool) (s t : ByteArray) (w : World) (hv1 : vld a s = true) (hv2 : vld b t = true) :
    Calls Tryz.prog 121 #[.agg #[.bool a, .string s], .agg #[.bool b, .string t]] w (WPost (wres (pls a (bv s) (!b) (bv t)).1 (pls a (bv s) (!b) (bv t)).2) (werr (pls a (bv s) (!b) (bv t)).2) w) := by
  have z1 := vld_size hv1
  have z2 := vld_size hv2
  have HV1 := Valid_any a s
  have HV2 := Valid_any b t
  rw [hv1] at HV1
  rw [hv2] at HV2
  have HA := Lib.hid (fun w => HV1 w (by omega))
  have HB := Lib.hid (fun w => HV2 w (by omega))
  have HR1 := Lib.hid (fun w => read_any a s w (by omega) (vld_can hv1))
  have HR2 := Lib.hid (fun w => read_any b t w (by omega) (vld_can hv2))
  have t1 := bv_lt hv1
  have t2 := bv_lt hv2
  have HP := Lib.hid (fun v1 v2 w h1 h2 => plus_any a (!b) v1 v2 (bv s) (bv t) w h1 h2 (Nat.le_trans (len_top t1) (by decide)) (Nat.le_trans (len_top t2) (by decide)))
  have HW := Lib.hid (fun v w h => write_any (pls a (bv s) (!b) (bv t)).1 v (pls a (bv s) (!b) (bv t)).2 w h (Nat.le_trans (len_top2 (pls_lt t1 t2)) (by decide)))
  obtain ⟨rb, rs, hr⟩ := wres_form (pls a (bv s) (!b) (bv t)).1 (pls a (bv s) (!b) (bv t)).2
  rw [hr] at HW ⊢
  clear hr HV1 HV2 hv1 hv2 t1 t2
  generalize (pls a (bv s) (!b) (bv t)).1 = ra at *
  generalize (pls a (bv s) (!b) (bv t)).2 = rm at *
  generalize bv s = m at *
  generalize bv t = n at *
  generalize werr rm = rc at *
  go_enter Tryz.func121, Tryz.ntmps121
  go_wp2_with fail
  obtain ⟨w0, hw0⟩ : ∃ w0 : World, w0 = ((w.alloc (.cells #[.bool a, .string s] 44)).alloc (.cells #[.bool b, .string t] 44)).alloc (.cells #[.bool false, .string ⟨#[]⟩] 44) := ⟨_, rfl⟩
  have hb0 : Hid (Below w.heap.size w w0) := by rw [hw0]; exact (((Below.refl _ _).alloc (Nat.le_refl _) _).alloc (by simp) _).alloc (by simp; omega) _
  have k0 : w0.cell? ⟨w.heap.size, 0, none⟩ = some (.bool a) := by rw [hw0]; simp [go_sem]
  have k1 : w0.cell? ⟨w.heap.size, 1, none⟩ = some (.string s) := by rw [hw0]; simp [go_sem]
  have k2 : w0.cell? ⟨w.heap.size + 1, 0, none⟩ = some (.bool b) := by rw [hw0]; simp [go_sem]
  have k3 : w0.cell? ⟨w.heap.size + 1, 1, none⟩ = some (.string t) := by rw [hw0]; simp [go_sem]
  have k4 : w0.cell? ⟨w.heap.size + 1 + 1, 0, none⟩ = some (.bool false) := by rw [hw0]; simp [go_sem]
  have k5 : w0.cell? ⟨w.heap.size + 1 + 1, 1, none⟩ = some (.string ⟨#[]⟩) := by rw [hw0]; simp [go_sem]
  have k6 : w0.frozen? ⟨w.heap.size + 1 + 1, 0, none⟩ = false := by rw [hw0]; simp [go_sem]
  have k7 : w0.frozen? ⟨w.heap.size + 1 + 1, 1, none⟩ = false := by rw [hw0]; simp [go_sem]
  have hsz : w0.heap.size = w.heap.size + 3 := by rw [hw0]; simp
  rw [← hw0]
  have KK := Lib.hid (And.intro k0 (And.intro k1 (And.intro k2 (And.intro k3 (And.intro k4 (And.intro k5 (And.intro k6 k7)))))))
  have Hsz := Lib.hid hsz
  clear k0 k1 k2 k3 k4 k5 k6 k7 hw0 hsz
  refine (HA.out _).mono ?_
  rintro e wa ⟨rfl, hba⟩
  have q2 := keep1 hba KK.out.2.2.1
  have q3 := keep1 hba KK.out.2.2.2.1
  have HBa := Lib.hid hba
  clear hba
  go_wp2_with fail
  refine (HB.out _).mono ?_
  rintro e wb ⟨rfl, hbb⟩
  have hbc := chain HBa.out hbb
  have k0 := keep1 hbc KK.out.1
  have k1 := keep1 hbc KK.out.2.1
  have k2 := keep1 hbc KK.out.2.2.1
  have k3 := keep1 hbc KK.out.2.2.2.1
  have k4 := keep1 hbc KK.out.2.2.2.2.1
  have k5 := keep1 hbc KK.out.2.2.2.2.2.1
  have k6 := keepf hbc KK.out.2.2.2.2.1 KK.out.2.2.2.2.2.2.1
  have k7 := keepf hbc KK.out.2.2.2.2.2.1 KK.out.2.2.2.2.2.2.2
  have HBc := Lib.hid hbc
  have n1 : ¬ (w.heap.size = w.heap.size + 1 + 1) := by omega
  have n2 : ¬ (w.heap.size + 1 + 1 = w.heap.size) := by omega
  clear q2 q3 hbb hbc
  go_wp2_with fail
  go_region_held3 (fun W' => W'.cell? ⟨w.heap.size, 0, none⟩ = some (.bool a) ∧ W'.cell? ⟨w.heap.size, 1, none⟩ = some (.string s) ∧ W'.cell? ⟨w.heap.size + 1, 0, none⟩ = some (.bool b) ∧ W'.cell? ⟨w.heap.size + 1, 1, none⟩ = some (.string t)) (go_keep)
    (first
      | (go_at_call 135; (with_reducible refine (HR1.out _).mono ?_); rintro e w1 ⟨v1, rfl, r1, b1⟩; have c1 := chain ((Below.refl _ _).drew) b1; have p0 := keep1 c1 k0; have p1 := keep1 c1 k1; have p2 := keep1 c1 k2; have p3 := keep1 c1 k3; have G1 := Lib.hid (And.intro r1 c1); clear r1 b1 c1)
      | (go_at_call 135; (with_reducible refine (HR2.out _).mono ?_); rintro e w2 ⟨v2, rfl, r2, b2⟩; have c2 := chain G1.out.2 b2; have p0 := keep1 c2 k0; have p1 := keep1 c2 k1; have p2 := keep1 c2 k2; have p3 := keep1 c2 k3; have G2 := Lib.hid (And.intro (G1.out.1.below b2 (Nat.le_refl _)) (And.intro r2 c2)); clear r2 b2 c2)
      | (go_at_call 141; (with_reducible refine (negative_any _ _ _ _ G2.out.2.1).mono ?_); rintro e w5 ⟨v5, rfl, r5, b5⟩; have c5 := chain G2.out.2.2 b5; have p0 := keep1 c5 k0; have p1 := keep1 c5 k1; have p2 := keep1 c5 k2; have p3 := keep1 c5 k3; have G5 := Lib.hid (And.intro (G2.out.1.below b5 (Nat.le_refl _)) (And.intro r5 c5)); clear r5 b5 c5)
      | (go_at_call 140; (with_reducible refine (HP.out _ _ _ G5.out.1 G5.out.2.1).mono ?_); rintro e w3 ⟨v3, rfl, r3, b3⟩; have c3 := chain G5.out.2.2 b3; have p0 := keep1 c3 k0; have p1 := keep1 c3 k1; have p2 := keep1 c3 k2; have p3 := keep1 c3 k3; have G3 := Lib.hid (And.intro r3 c3); clear r3 b3 c3)
      | (go_at_call 139; (with_reducible refine (HW.out _ _ G3.out.1).mono ?_); rintro e w4 ⟨rfl, b4⟩; have c4 := chain G3.out.2 b4; have p0 := keep1 c4 k0; have p1 := keep1 c4 k1; have p2 := keep1 c4 k2; have p3 := keep1 c4 k3; have p4 := keep1 c4 k4; have p5 := keep1 c4 k5; have p6 := keepf c4 k4 k6; have p7 := keepf c4 k5 k7; have G4 := Lib.hid c4; clear b4 c4))
  have HZ := Lib.hid (((chain (chain hb0.out HBc.out) G4.out).setCell (p := ⟨w.heap.size + 1 + 1, 0, none⟩) (by simp; omega) (.bool rb)).setCell (p := ⟨w.heap.size + 1 + 1, 1, none⟩) (by simp; omega) (.string rs))
  go_wp2
  exact bodyPost_ret (v := .tuple #[.agg #[.bool rb, .string rs], .int .i64 rc]) (by simp [results, Tryz.results121, go_sem, p4, p5]) rfl ⟨rfl, HZ.out⟩

end Go.Proofs.YtepddegphdlbeaaGreat

/- The law WideSums gives true. -/
namespace Go.Proofs.YtepddegphdlbeaaGreat
open Go.RowKit

theorem lt_topk {n k : Nat} (hk : 8 * k ≤ 65536) (h : n < 256 ^ k) : n < Top := by
  rw [pow_256] at h
  exact Nat.lt_of_lt_of_le h (Nat.pow_le_pow_right (by decide) (by rw [TopBits_eq]; exact hk))
theorem wd_sg (a : Bool) (m : Nat) : wd a m = .agg #[.bool (zb (sg a m)), .string (zs (sg a m))] := by
  have e1 : (sg a m).natAbs = m := by unfold sg; split <;> omega
  have e2 : zb (sg a m) = (a && decide (m ≠ 0)) := by
    unfold zb sg
    cases a with
    | false => rw [if_neg (by simp), Bool.false_and]; exact decide_eq_false (by omega)
    | true =>
      rw [if_pos rfl, Bool.true_and]
      by_cases h : m = 0
      · subst h; rfl
      · rw [decide_eq_true (by omega : -(m : Int) < 0), decide_eq_true h]
  rw [wd, zs, e1, e2]
theorem pls_sg (a b : Bool) (m n : Nat) : sg (pls a m b n).1 (pls a m b n).2 = sg a m + sg b n := by
  unfold pls
  split
  · next h => subst h; cases a <;> simp [sg]; omega
  · next h =>
    split
    · cases a <;> cases b <;> simp_all [sg] <;> omega
    · cases a <;> cases b <;> simp_all [sg] <;> omega
theorem sg_not (a : Bool) (m : Nat) : sg (!a) m = -(sg a m) := by cases a <;> simp [sg]
theorem sg_abs (a : Bool) (m : Nat) : (sg a m).natAbs = m := by unfold sg; split <;> omega
theorem WL.drew {w : World} {g : Nat} {L : List (Bool × ByteArray)} (h : WL w g L) : WL w.drew g L := h
def CutI (x1 x2 s1 s2 : Value) (X1 X2 : List Nat) (B : Nat) (wb wx : World) (g7 g8 : Nat) : Prop := (B ≤ g7 ∧ B ≤ g8) ∧ ZC x1 s1 wx g7 ∧ ZC x2 s2 wx g8 ∧ Ri wx s1 X1 ∧ Ri wx s2 X2 ∧ Below B wb wx
theorem Ri.setz {w : World} {v : Value} {xs : List Nat} {b0 : Bool} {p : Option Addr} {n c : Nat} {g : Nat} (h : Ri w v xs) (z : ZC (.bool b0) (.slice p n c) w g) (u u' : Value) : Ri ((w.setCell ⟨g, 0, none⟩ u).setCell ⟨g, 1, none⟩ u') v xs := h.set2 z.1 z.2.1 (fun _ => by simp)
section
variable {x1 x2 e1 e2 u1 u2 : Value} {X1 X2 : List Nat} {B : Nat} {wb w3 : World} {t : TypeId} {b0 b1 : Bool} {p p' : Option Addr} {n c n' c' g g' : Nat}
theorem CutI.s1 (r1 : Ri w3 e1 X1) (r2 : Ri w3 e2 X2) (b : Below B wb w3) (hB : B ≤ w3.heap.size) : CutI x1 x2 e1 e2 X1 X2 B wb ((w3.alloc (.cells #[x1, e1] t)).alloc (.cells #[x2, e2] t)) w3.heap.size (w3.heap.size + 1) :=
  ⟨⟨hB, by omega⟩, (ZC.new rfl).alloc _, ZC.new (by simp), (r1.allocd _).allocd _, (r2.allocd _).allocd _, (b.alloc hB _).alloc (by simp; omega) _⟩
theorem CutI.s2 (r1 : Ri w3 e1 X1) (r2 : Ri w3 e2 X2) (b : Below B wb w3) (hB : B ≤ w3.heap.size) : CutI x1 x2 e1 e2 X1 X2 B wb ((w3.alloc (.cells #[x2, e2] t)).alloc (.cells #[x1, e1] t)) (w3.heap.size + 1) w3.heap.size :=
  ⟨⟨by omega, hB⟩, ZC.new (by simp), (ZC.new rfl).alloc _, (r1.allocd _).allocd _, (r2.allocd _).allocd _, (b.alloc hB _).alloc (by simp; omega) _⟩
theorem CutI.s3 (z : ZC (.bool b0) (.slice p n c) w3 g) (hg : B ≤ g) (r1 : Ri w3 e1 X1) (r2 : Ri w3 e2 X2) (b : Below B wb w3) (hB : B ≤ w3.heap.size) :
    CutI x1 x2 e1 e2 X1 X2 B wb (((w3.setCell ⟨g, 0, none⟩ x1).setCell ⟨g, 1, none⟩ e1).alloc (.cells #[x2, e2] t)) g w3.heap.size :=
  ⟨⟨hg, hB⟩, z.set.alloc _, ZC.new (by simp), (r1.setz z _ _).allocd _, (r2.setz z _ _).allocd _, (below_set2 b hg _ _).alloc (by simpa using hB) _⟩
theorem CutI.s4 (z : ZC (.bool b0) (.slice p n c) w3 g) (hg : B ≤ g) (r1 : Ri w3 e1 X1) (r2 : Ri w3 e2 X2) (b : Below B wb w3) (hB : B ≤ w3.heap.size) :
    CutI x1 x2 e1 e2 X1 X2 B wb (((w3.setCell ⟨g, 0, none⟩ x2).setCell ⟨g, 1, none⟩ e2).alloc (.cells #[x1, e1] t)) w3.heap.size g :=
  ⟨⟨hB, hg⟩, ZC.new (by simp), z.set.alloc _, (r1.setz z _ _).allocd _, (r2.setz z _ _).allocd _, (below_set2 b hg _ _).alloc (by simpa using hB) _⟩
theorem CutI.s5 (z : ZC (.bool b0) (.slice p n c) w3 g) (hg : B ≤ g) (z' : ZC (.bool b1) (.slice p' n' c') w3 g') (hg' : B ≤ g') (hn : ¬ g = g') (r1 : Ri w3 e1 X1) (r2 : Ri w3 e2 X2) (b : Below B wb w3) :
    CutI x1 x2 e1 e2 X1 X2 B wb ((((w3.setCell ⟨g, 0, none⟩ x1).setCell ⟨g, 1, none⟩ e1).setCell ⟨g', 0, none⟩ x2).setCell ⟨g', 1, none⟩ e2) g g' :=
  have zz := z'.other (u := x1) (v := e1) (fun e => hn e.symm)
  ⟨⟨hg, hg'⟩, z.set.other hn, zz.set, (r1.setz z _ _).setz zz _ _, (r2.setz z _ _).setz zz _ _, below_set2 (below_set2 b hg _ _) hg' _ _⟩
end

end Go.Proofs.YtepddegphdlbeaaGreat

/- The reference's Power. -/
namespace Go.Proofs.YtepddegphdlbeaaGreat
open Go.RowKit

/-- An integer that is not negative comes back. -/
def PPost (z : Int) (w : World) (e : Ending) (w' : World) : Prop := ∃ v, e = .returned (.agg #[.bool false, v]) ∧ Rz w' v z ∧ Below w.heap.size w w'
theorem ZC.lt {x y : Value} {w : World} {g : Nat} (h : ZC x y w g) : g < w.heap.size := World.block_lt_of_cell? w _ h.1

end Go.Proofs.YtepddegphdlbeaaGreat

/- The reference's Quo: the Euclidean division of integers. -/
namespace Go.Proofs.YtepddegphdlbeaaGreat
open Go.RowKit

/-- Two integers come back. -/
def QIPost (q r : Int) (w : World) (e : Ending) (w' : World) : Prop := ∃ v1 v2, e = .returned (.tuple #[iV q v1, iV r v2]) ∧ Rz w' v1 q ∧ Rz w' v2 r ∧ Below w.heap.size w w'
/-- The first quotient, before it is made right. -/
def q0 (x y : Int) : Int := if (decide (x < 0) != decide (y < 0)) = true then -((x.natAbs / y.natAbs : Nat) : Int) else ((x.natAbs / y.natAbs : Nat) : Int)
end Go.Proofs.YtepddegphdlbeaaGreat

/- The reference's Quo: the walk. -/
namespace Go.Proofs.YtepddegphdlbeaaGreat
open Go.RowKit

def CutO (br : Bool) (s : Value) (X : List Nat) (B : Nat) (wb wx : World) (g : Nat) : Prop := B ≤ g ∧ ZC (.bool br) s wx g ∧ Ri wx s X ∧ Below B wb wx
section
variable {br b0 : Bool} {s : Value} {X : List Nat} {B : Nat} {wb w3 : World} {t : TypeId} {p : Option Addr} {n c g : Nat}
theorem CutO.k1 (r1 : Ri w3 s X) (h : Below B wb w3) (hB : B ≤ w3.heap.size) : CutO br s X B wb (w3.alloc (.cells #[.bool br, s] t)) w3.heap.size := ⟨hB, ZC.new rfl, r1.allocd _, h.alloc hB _⟩
theorem Ri.setq {w : World} {v : Value} {xs : List Nat} (h : Ri w v xs) (z : ZC (.bool b0) (.slice p n c) w g) (u u' : Value) : Ri ((w.setCell ⟨g, 0, none⟩ u).setCell ⟨g, 1, none⟩ u') v xs := h.set2 z.1 z.2.1 (fun _ => by simp)
theorem CutO.k2 (q : ZC (.bool b0) (.slice p n c) w3 g) (hg : B ≤ g) (r1 : Ri w3 s X) (h : Below B wb w3) : CutO br s X B wb ((w3.setCell ⟨g, 0, none⟩ (.bool br)).setCell ⟨g, 1, none⟩ s) g := ⟨hg, q.set, r1.setq q _ _, below_set2 h hg _ _⟩
end
/-- What the end of the call stores. -/
def QEnd (q r : Int) (w w0 wx : World) (g8 g9 : Nat) (s8 s9 : Value) : Prop := ZC (.bool (decide (q < 0))) s8 wx g8 ∧ ZC (.bool (decide (r < 0))) s9 wx g9 ∧ Rz wx s8 q ∧ Rz wx s9 r ∧ Below w0.heap.size w0 wx

end Go.Proofs.YtepddegphdlbeaaGreat

/- The reference's Quo: the walk where the first rest is negative. -/
namespace Go.Proofs.YtepddegphdlbeaaGreat
open Go.RowKit

end Go.Proofs.YtepddegphdlbeaaGreat

/- The reference's Quo: the walk where the first rest and the divisor are negative. -/
namespace Go.Proofs.YtepddegphdlbeaaGreat
open Go.RowKit

end Go.Proofs.YtepddegphdlbeaaGreat

/- The reference's Quo: the Euclidean division of integers. -/
namespace Go.Proofs.YtepddegphdlbeaaGreat
open Go.RowKit

end Go.Proofs.YtepddegphdlbeaaGreat

/- The law WideShifts gives true. -/
namespace Go.Proofs.YtepddegphdlbeaaGreat
open Go.RowKit

end Go.Proofs.YtepddegphdlbeaaGreat

/- Knuth's guess of a digit of a quotient: plain facts. -/
namespace Go.Proofs.YtepddegphdlbeaaGreat
open Go.RowKit

/-- The guess. -/
def gs (h m f s : Nat) : Nat := if f ≤ h then W - 1 else if (h * W + m) % f < (h * W + m) / f * s / W then (h * W + m) / f - 1 else (h * W + m) / f

/-- The guess is the digit, or greater by 1. B: the base; H: the weight of the limbs that the guess doesn't see. -/
theorem guess_ok {B H U V h m l f s u v : Nat} (hU : U = ((h * B + m) * B + l) * H + u) (hV : V = (f * B + s) * H + v) (hu : u < H) (hv : v < H) (hl : l < B) (hm : m < B) (hs : s < B) (hf : B ≤ 2 * f) (hB : 4 ≤ B) (hlt : U < V * B)
    {g : Nat} (hg : g = if f ≤ h then B - 1 else if (h * B + m) % f < (h * B + m) / f * s / B then (h * B + m) / f - 1 else (h * B + m) / f) : U / V ≤ g ∧ g ≤ U / V + 1 ∧ g < B := by
  have hH : 0 < H := by omega
  have hB0 : 0 < B := by omega
  have hfp : 0 < f := by omega
  have hVp : 0 < V := by
    rw [hV]
    have : 0 < (f * B + s) * H := Nat.mul_pos (Nat.add_pos_left (Nat.mul_pos hfp hB0) _) hH
    omega
  have hqB : U / V < B := by rw [Nat.div_lt_iff_lt_mul hVp, Nat.mul_comm]; exact hlt
  have hlo : ∀ t, t * V ≤ U → t ≤ U / V := fun t ht => (Nat.le_div_iff_mul_le hVp).2 ht
  have hup : ∀ t, U < t * V → U / V < t := fun t ht => (Nat.div_lt_iff_lt_mul hVp).2 ht
  generalize U / V = q at *
  -- V is less than (f + 1) B H, and U at least (h B + m) B H
  have hV2 : V ≤ (f + 1) * (B * H) := by
    have h1 : (f * B + s + 1) * H ≤ (f * B + B) * H := Nat.mul_le_mul_right _ (by omega)
    have h2 : (f * B + B) * H = (f + 1) * (B * H) := by grind
    rw [Nat.add_mul, Nat.one_mul] at h1
    omega
  have hU2 : (h * B + m) * (B * H) ≤ U := by
    have h1 : (h * B + m) * B * H ≤ ((h * B + m) * B + l) * H := Nat.mul_le_mul_right _ (by omega)
    rw [Nat.mul_assoc] at h1
    omega
  by_cases c1 : f ≤ h
  · rw [if_pos c1] at hg
    subst hg
    refine ⟨by omega, ?_, by omega⟩
    have : B - 2 ≤ q := by
      refine hlo _ ?_
      have h1 : (B - 2) * V ≤ (B - 2) * ((f + 1) * (B * H)) := Nat.mul_le_mul_left _ hV2
      have h2 : (B - 2) * (f + 1) ≤ h * B + m := by
        obtain ⟨C, rfl⟩ : ∃ C, B = C + 2 := ⟨B - 2, by omega⟩
        have h3 : f * (C + 2) ≤ h * (C + 2) := Nat.mul_le_mul_right _ c1
        have h4 : (C + 2 - 2) * (f + 1) = f * C + C := by rw [Nat.add_sub_cancel]; grind
        rw [Nat.mul_add] at h3
        omega
      have h3 : (B - 2) * (f + 1) * (B * H) ≤ (h * B + m) * (B * H) := Nat.mul_le_mul_right _ h2
      rw [Nat.mul_assoc] at h3
      omega
    omega
  · rw [if_neg c1] at hg
    have hd := Nat.div_add_mod (h * B + m) f
    have hr := Nat.mod_lt (h * B + m) hfp
    have hdB : (h * B + m) / f < B := by
      rw [Nat.div_lt_iff_lt_mul hfp]
      have : (h + 1) * B ≤ f * B := Nat.mul_le_mul_right _ (by omega)
      rw [Nat.add_mul, Nat.one_mul] at this
      rw [Nat.mul_comm B f]
      omega
    generalize (h * B + m) / f = d at *
    generalize (h * B + m) % f = r at *
    have hd2 : d * f + r = h * B + m := by rw [Nat.mul_comm]; exact hd
    clear hd
    -- the digit is at most d
    have hqd : q ≤ d := by
      refine Nat.lt_succ_iff.1 (hup _ ?_)
      have e1 : U < (h * B + m + 1) * (B * H) := by
        have h1 : ((h * B + m) * B + l + 1) * H ≤ ((h * B + m) * B + B) * H := Nat.mul_le_mul_right _ (by omega)
        have h2 : ((h * B + m) * B + B) * H = (h * B + m + 1) * (B * H) := by grind
        rw [Nat.add_mul, Nat.one_mul] at h1
        omega
      have e2 : (h * B + m + 1) * (B * H) ≤ ((d + 1) * f) * (B * H) := Nat.mul_le_mul_right _ (by rw [Nat.add_mul, Nat.one_mul]; omega)
      have e3 : (d + 1) * f * (B * H) ≤ (d + 1) * V := by
        rw [Nat.mul_assoc]
        refine Nat.mul_le_mul_left _ ?_
        have : f * (B * H) = f * B * H := by rw [Nat.mul_assoc]
        rw [this, hV, Nat.add_mul]
        omega
      show U < (d + 1) * V
      omega
    by_cases c2 : r < d * s / B
    · rw [if_pos c2] at hg
      have h1 : (r + 1) * B ≤ d * s := (Nat.le_div_iff_mul_le hB0).1 c2
      -- d is too great
      have hlt2 : U < d * V := by
        have e1 : U < (h * B + m + 1) * (B * H) := by
          have h1 : ((h * B + m) * B + l + 1) * H ≤ ((h * B + m) * B + B) * H := Nat.mul_le_mul_right _ (by omega)
          have h2 : ((h * B + m) * B + B) * H = (h * B + m + 1) * (B * H) := by grind
          rw [Nat.add_mul, Nat.one_mul] at h1
          omega
        have e2 : (h * B + m + 1) * B ≤ d * (f * B + s) := by
          have : d * (f * B + s) = d * f * B + d * s := by grind
          have e4 : (h * B + m + 1) * B = d * f * B + (r + 1) * B := by rw [← hd2]; grind
          omega
        have e3 : (h * B + m + 1) * B * H ≤ d * (f * B + s) * H := Nat.mul_le_mul_right _ e2
        have e4 : d * ((f * B + s) * H) ≤ d * V := Nat.mul_le_mul_left _ (by omega)
        rw [← Nat.mul_assoc] at e1 e4
        omega
      have hq : q < d := hup _ hlt2
      have hq2 : d ≤ q + 2 := by
        rcases Nat.lt_or_ge d 2 with g1 | g1
        · omega
        · have : d - 2 ≤ q := by
            refine hlo _ ?_
            have e1 : (d - 2) * V ≤ (d - 2) * ((f + 1) * (B * H)) := Nat.mul_le_mul_left _ hV2
            have e2 : (d - 2) * (f + 1) ≤ h * B + m := by
              obtain ⟨c, rfl⟩ : ∃ c, d = c + 2 := ⟨d - 2, by omega⟩
              rw [Nat.add_sub_cancel]
              have : (c + 2) * f = c * f + 2 * f := Nat.add_mul c 2 f
              have : c * (f + 1) = c * f + c := by rw [Nat.mul_add, Nat.mul_one]
              omega
            have e3 : (d - 2) * (f + 1) * (B * H) ≤ (h * B + m) * (B * H) := Nat.mul_le_mul_right _ e2
            rw [Nat.mul_assoc] at e3
            omega
          omega
      rw [hg]
      exact ⟨by omega, by omega, by omega⟩
    · rw [if_neg c2] at hg
      rw [hg]
      refine ⟨hqd, ?_, hdB⟩
      rcases Nat.eq_zero_or_pos d with g0 | g0
      · omega
      · have : d - 1 ≤ q := by
          refine hlo _ ?_
          have h1 : d * s < (r + 1) * B := by
            have := Nat.not_lt.1 c2
            rw [← Nat.lt_succ_iff, Nat.div_lt_iff_lt_mul hB0] at this
            exact this
          have e1 : (d - 1) * V ≤ (d - 1) * ((f * B + s + 1) * H) := Nat.mul_le_mul_left _ (by rw [hV, Nat.add_mul (f * B + s) 1 H]; omega)
          have e2 : (d - 1) * (f * B + s + 1) ≤ (h * B + m) * B := by
            obtain ⟨c, rfl⟩ : ∃ c, d = c + 1 := ⟨d - 1, by omega⟩
            rw [Nat.add_sub_cancel]
            have t1 : c * (f * B + s + 1) = c * f * B + c * s + c := by grind
            have t2 : (c + 1) * s = c * s + s := by grind
            have t3 : (h * B + m) * B = c * f * B + f * B + r * B := by rw [← hd2]; grind
            have t4 : (r + 1) * B = r * B + B := by grind
            have t5 : 2 * B ≤ f * B := Nat.mul_le_mul_right _ (by omega)
            omega
          have e3 : (d - 1) * (f * B + s + 1) * H ≤ (h * B + m) * B * H := Nat.mul_le_mul_right _ e2
          rw [Nat.mul_assoc, Nat.mul_assoc (h * B + m)] at e3
          omega
        omega
end Go.Proofs.YtepddegphdlbeaaGreat
