/- What the theorem leans on, part 7: Php, Phq, Hgd. -/
import Derived.Test.YtpkfngfenkcjoaaZ6
import Derived.Test.YtpkfngfenkcjoaaZ4
import Derived.Test.YtpkfngfenkcjoaaZ2

/- hull.Diameter2: the walks. -/
set_option linter.all false
namespace Go.Proofs.Ytpkfngfenkcjoaa
open Go.RowKit Go.Shelf
attribute [local go_sem] Oper.semAt_some

/-- A box with an int, which may be written. -/
def BI (W : World) (g : Nat) (t : Int) : Prop := W.cell? ⟨g, 0, none⟩ = some (.int .i64 t) ∧ W.frozen? ⟨g, 0, none⟩ = false
theorem BI.below {W W' : World} {g : Nat} {t : Int} (h : BI W g t) (hb : Below W.heap.size W W') : BI W' g t := ⟨keep1 hb h.1, keepf hb h.1 h.2⟩
theorem BI.kept {W W' : World} {row : Option Nat} {g : Nat} {t : Int} (h : BI W g t) (hg : W.grownBy W' row) (hr : ∀ r, row = some r → ∃ o : Obj, W.heap[r]? = some o ∧ o.isCells = false) : BI W' g t := ⟨ckept h.1 hg hr, fkept h.1 h.2 hg hr⟩
theorem BI.set {W : World} {g : Nat} {t : Int} (h : BI W g t) (u : Int) : BI (W.setCell ⟨g, 0, none⟩ (.int .i64 u)) g u := ⟨World.cell?_setCell_same (h := h.1) .., by rw [World.frozen?_setCell]; exact h.2⟩
theorem BI.far {W : World} {g g' : Nat} {t : Int} (h : BI W g t) (hn : ¬ g' = g) (u : Value) : BI (W.setCell ⟨g', 0, none⟩ u) g t := ⟨by rw [World.cell?_setCell_far _ _ _ _ (by exact hn)]; exact h.1, by rw [World.frozen?_setCell]; exact h.2⟩
/-- The farthest pair so far. -/
def dD (c : Nat → Nat → Bool) (ds : Nat → Nat → Int) : Nat → Int × Int × Int
  | 0 => (0, 0, 0)
  | k + 1 => if (dD c ds k).2.2 < ds (stp c k).1 (stp c k).2 then (((stp c k).1 : Int), ((stp c k).2 : Int), ds (stp c k).1 (stp c k).2) else dD c ds k
/-- The world between two rounds of Diameter2. -/
def DI (L : List T3) (v : Value) (g Bs : Nat) (c : Nat → Nat → Bool) (ds : Nat → Nat → Int) (w : World) (pre : List (FP L.length)) (W : World) : Prop :=
  (∃ d1 d2 d3, BI W (g + 1) d1 ∧ BI W (g + 1 + 1) d2 ∧ BI W (g + 1 + 1 + 1) d3 ∧ ∀ k, pre.map vl = prs c k → (d1, d2, d3) = dD c ds k) ∧ W.cell? ⟨g, 0, none⟩ = some v ∧ W.cell? ⟨Bs, 0, none⟩ = some v ∧ Rv W v L ∧ Below w.heap.size w W
theorem di_own (L : List T3) (v : Value) (g Bs : Nat) (c : Nat → Nat → Bool) (ds : Nat → Nat → Int) (w : World) (B : Nat) (hB : w.heap.size ≤ B) : OwnFrom B (DI L v g Bs c ds w) := by
  rintro pre W W' row ⟨⟨d1, d2, d3, h1, h2, h3, h4⟩, h5, h6, h7, h8⟩ hg hr
  have hr' : ∀ r, row = some r → ∃ o : Obj, W.heap[r]? = some o ∧ o.isCells = false := fun r e => (hr r e).2
  exact ⟨⟨d1, d2, d3, h1.kept hg hr', h2.kept hg hr', h3.kept hg hr', h4⟩, ckept h5 hg hr', ckept h6 hg hr', rv_kept h7 hg hr', Below.grown h8 hg h8.size (fun r e => Nat.le_trans hB (hr r e).1)⟩
theorem prs_snoc {n k : Nat} {c : Nat → Nat → Bool} {pre : List (FP n)} {x : FP n} (e : (pre ++ [x]).map vl = prs c k) : ∃ k', k = k' + 1 ∧ pre.map vl = prs c k' ∧ stp c k' = (x.1.val, x.2.val) := by
  rw [List.map_append] at e
  cases k with
  | zero => simp [prs] at e
  | succ k =>
    rw [prs_succ] at e
    obtain ⟨e1, e2⟩ := List.append_inj' e rfl
    refine ⟨k, rfl, e1, ?_⟩
    simpa [vl] using e2.symm

theorem bi_one {W : World} {g : Nat} {t u : Int} (h : BI W g t) (k : BI W g u) : t = u := by
  have := h.1.symm.trans k.1
  simpa using this
theorem di_step {L : List T3} {b off n cap g Bs B : Nat} {c : Nat → Nat → Bool} {ds : Nat → Nat → Int} {w W Y : World} {pre : List (FP L.length)} {x : FP L.length} {r : Int} {v1 v2 : Nat} (hI : DI L (.slice (some ⟨b, off, none⟩) n cap) g Bs c ds w pre W) (hb : Below W.heap.size W Y) (h1 : w.heap.size ≤ g ∧ g + 4 ≤ Bs) (h3 : b < g) (h4 : b < W.heap.size) :
    ∃ d1 d2 d3, BI Y (g + 1) d1 ∧ BI Y (g + 1 + 1) d2 ∧ BI Y (g + 1 + 1 + 1) d3 ∧
    ((∀ k, (pre ++ [x]).map vl = prs c k → (d1, d2, d3) = dD c ds k) → KeepsFrom B W Y ∧ Ke Bs b W Y ∧ DI L (.slice (some ⟨b, off, none⟩) n cap) g Bs c ds w (pre ++ [x]) Y) ∧
    ((∀ k, (pre ++ [x]).map vl = prs c k → ((v1 : Int), (v2 : Int), r) = dD c ds k) →
      KeepsFrom B W (((Y.setCell ⟨g + 1, 0, none⟩ (.int .i64 v1)).setCell ⟨g + 1 + 1, 0, none⟩ (.int .i64 v2)).setCell ⟨g + 1 + 1 + 1, 0, none⟩ (.int .i64 r)) ∧
      Ke Bs b W (((Y.setCell ⟨g + 1, 0, none⟩ (.int .i64 v1)).setCell ⟨g + 1 + 1, 0, none⟩ (.int .i64 v2)).setCell ⟨g + 1 + 1 + 1, 0, none⟩ (.int .i64 r)) ∧
      DI L (.slice (some ⟨b, off, none⟩) n cap) g Bs c ds w (pre ++ [x]) (((Y.setCell ⟨g + 1, 0, none⟩ (.int .i64 v1)).setCell ⟨g + 1 + 1, 0, none⟩ (.int .i64 v2)).setCell ⟨g + 1 + 1 + 1, 0, none⟩ (.int .i64 r))) := by
  obtain ⟨⟨d1, d2, d3, k1, k2, k3, -⟩, c0, cB, cR, c4⟩ := hI
  have l2 := World.block_lt_of_cell? W _ cB
  have hk : KeepsFrom B W Y := ⟨hb.size, fun k o _ hk _ => (hb.block k (Array.getElem?_eq_some_iff.1 hk).1).trans hk⟩
  have ke : Ke Bs b W Y := ⟨hb.block _ l2, hb.block _ h4⟩
  refine ⟨d1, d2, d3, k1.below hb, k2.below hb, k3.below hb, fun h => ⟨hk, ke, ⟨d1, d2, d3, k1.below hb, k2.below hb, k3.below hb, h⟩, keep1 hb c0, keep1 hb cB, cR.below hb, chain c4 hb⟩, fun h => ⟨?_, ⟨?_, ?_⟩, ⟨_, _, _, ?_, ?_, ?_, h⟩, ?_, ?_, ?_, ?_⟩⟩
  · exact ((hk.trans ((KeepsOthers.setCell _ _ _).from _)).trans ((KeepsOthers.setCell _ _ _).from _)).trans ((KeepsOthers.setCell _ _ _).from _)
  · rw [Below.heap_setCell _ _ _ _ (by simp only; omega), Below.heap_setCell _ _ _ _ (by simp only; omega), Below.heap_setCell _ _ _ _ (by simp only; omega)]; exact ke.1
  · rw [Below.heap_setCell _ _ _ _ (by simp only; omega), Below.heap_setCell _ _ _ _ (by simp only; omega), Below.heap_setCell _ _ _ _ (by simp only; omega)]; exact ke.2
  · exact (((k1.below hb).set _).far (by omega) _).far (by omega) _
  · exact (((k2.below hb).far (by omega) _).set _).far (by omega) _
  · exact (((k3.below hb).far (by omega) _).far (by omega) _).set _
  · rw [World.cell?_setCell_far _ _ _ _ (by simp only; omega), World.cell?_setCell_far _ _ _ _ (by simp only; omega), World.cell?_setCell_far _ _ _ _ (by simp only; omega)]; exact keep1 hb c0
  · rw [World.cell?_setCell_far _ _ _ _ (by simp only; omega), World.cell?_setCell_far _ _ _ _ (by simp only; omega), World.cell?_setCell_far _ _ _ _ (by simp only; omega)]; exact keep1 hb cB
  · exact rv_same (cR.below hb) (fun a ha => by rw [World.cell?_setCell_far _ _ _ _ (by simp only; omega), World.cell?_setCell_far _ _ _ _ (by simp only; omega), World.cell?_setCell_far _ _ _ _ (by simp only; omega)])
  · exact (((chain c4 hb).setCell (p := ⟨g + 1, 0, none⟩) (by simp only; omega) _).setCell (p := ⟨g + 1 + 1, 0, none⟩) (by simp only; omega) _).setCell (p := ⟨g + 1 + 1 + 1, 0, none⟩) (by simp only; omega) _

set_option maxRecDepth 100000 in
set_option maxHeartbeats 4000000 in
theorem diam_bad (p : Option Addr) (n cap : Nat) (w : World) (H0 : ∀ w', Below w.heap.size w w' → Calls Try.prog 19 #[.slice p n cap] w' (Ret (.bool false) w')) :
    Calls Try.prog 7 #[.slice p n cap] w (Ret (.tuple #[.int .i64 0, .int .i64 0, .int .i64 0, .int .i64 2]) w) := by
  have H0 := Lib.hid H0
  go_enter Try.func7, Try.ntmps7
  go_upto_region 1 with (fail)
  refine any_world (p := fun W => Code.wp _ _ _ _ W) _ ?_
  intro u0 hu
  have E : Hid (Below w.heap.size w u0) := by rw [hu]; exact (((below_one w _).alloc (by simp) _).alloc (by simp; omega) _).alloc (by simp; omega) _
  have I0 : Hid (u0.cell? ⟨w.heap.size, 0, none⟩ = some (.slice p n cap)) := by show _ = _; rw [hu]; simp [go_sem]
  have I1 : Hid (BI u0 (w.heap.size + 1) 0) := by rw [hu]; exact ⟨by simp [go_sem], by simp [go_sem]⟩
  have I2 : Hid (BI u0 (w.heap.size + 1 + 1) 0) := by rw [hu]; exact ⟨by simp [go_sem], by simp [go_sem]⟩
  have I3 : Hid (BI u0 (w.heap.size + 1 + 1 + 1) 0) := by rw [hu]; exact ⟨by simp [go_sem], by simp [go_sem]⟩
  clear hu
  have i0 := I0.out
  go_wp2_with fail
  refine (H0.out _ E.out).mono ?_
  rintro e y ⟨rfl, b⟩
  have E := Lib.hid (chain E.out b)
  obtain ⟨c1, f1⟩ := I1.out.below b
  obtain ⟨c2, f2⟩ := I2.out.below b
  obtain ⟨c3, f3⟩ := I3.out.below b
  clear b i0
  have n12 : ¬ (w.heap.size + 1 = w.heap.size + 1 + 1) := by omega
  have n13 : ¬ (w.heap.size + 1 = w.heap.size + 1 + 1 + 1) := by omega
  have n23 : ¬ (w.heap.size + 1 + 1 = w.heap.size + 1 + 1 + 1) := by omega
  have n21 : ¬ (w.heap.size + 1 + 1 = w.heap.size + 1) := by omega
  have n31 : ¬ (w.heap.size + 1 + 1 + 1 = w.heap.size + 1) := by omega
  have n32 : ¬ (w.heap.size + 1 + 1 + 1 = w.heap.size + 1 + 1) := by omega
  have HZ := Lib.hid (((E.out.setCell (p := ⟨w.heap.size + 1, 0, none⟩) (by simp) (.int .i64 0)).setCell (p := ⟨w.heap.size + 1 + 1, 0, none⟩) (by simp; omega) (.int .i64 0)).setCell (p := ⟨w.heap.size + 1 + 1 + 1, 0, none⟩) (by simp; omega) (.int .i64 0))
  go_wp2
  exact bodyPost_ret (v := .tuple #[.int .i64 0, .int .i64 0, .int .i64 0, .int .i64 2]) (by simp [results, Try.results7, go_sem, *]) rfl ⟨rfl, HZ.out⟩

set_option maxRecDepth 100000 in
set_option maxHeartbeats 4000000 in
theorem diam_walk (L : List T3) (b off n cap N : Nat) (w : World) (hn : n = L.length) (hlen : L.length ≤ 10000) (hp : Rv w (.slice (some ⟨b, off, none⟩) n cap) L) (hb : b < w.heap.size)
    (f : Nat → T3) (t : Nat → Nat → Int) (c : Nat → Nat → Bool) (ds : Nat → Nat → Int) (hct : ∀ i j, c i j = decide (t i j = 1))
    (hW : ∀ i, i < n → ∀ w', Rv w' (.slice (some ⟨b, off, none⟩) n cap) L → Calls Try.prog 46 #[.slice (some ⟨b, off, none⟩) n cap, .int .i64 (i : Int)] w' (Ret (vv (f i).1 (f i).2.1 (f i).2.2) w'))
    (hT : ∀ i j, i < n → j < n → ∀ w', Calls Try.prog 37 #[vv 0 0 0, vv (f i).1 (f i).2.1 (f i).2.2, vv (f j).1 (f j).2.1 (f j).2.2] w' (Ret (.int .i64 (t i j)) w'))
    (hD : ∀ (i j : Fin L.length) w', Calls Try.prog 23 #[vv L[i.val].1 L[i.val].2.1 L[i.val].2.2, vv L[j.val].1 L[j.val].2.1 L[j.val].2.2] w' (Ret (.int .i64 (ds i.val j.val)) w'))
    (hN : ∀ k, k < N → (stp c k).1 < (stp c k).2 ∧ (stp c k).2 < n) (hE : ¬ ((stp c N).1 < (stp c N).2 ∧ (stp c N).2 < n))
    (H0 : ∀ w', Below w.heap.size w w' → Calls Try.prog 19 #[.slice (some ⟨b, off, none⟩) n cap] w' (Ret (.bool true) w')) :
    Calls Try.prog 7 #[.slice (some ⟨b, off, none⟩) n cap] w (Ret (.tuple #[.int .i64 (dD c ds N).1, .int .i64 (dD c ds N).2.1, .int .i64 (dD c ds N).2.2, .int .i64 0]) w) := by
  have H0 := Lib.hid H0
  have HP := Lib.hid hp
  have HN := Lib.hid hn
  have HCT := Lib.hid hct
  have HWy := Lib.hid hW
  have HT := Lib.hid hT
  have HDs := Lib.hid hD
  have HNN := Lib.hid hN
  have HEE := Lib.hid hE
  have HLN := Lib.hid hlen
  have HBw := Lib.hid hb
  clear hp hn hct hW hT hD hN hE hlen hb
  refine (callsIn_wide (n := 5)).1 ?_
  refine callsIn_of_wp_marks Try.func7 rfl trivial ?_ rfl
  simp only [Try.ntmps7, List.size_toArray, List.length_cons, List.length_nil, Nat.reduceAdd, Nat.reduceSub, Array.replicate_succ, Array.replicate_zero, List.push_toArray, List.append_toArray, List.nil_append, List.cons_append]
  gi_upto_region 1 with (fail)
  refine any_world (p := fun W => Code.wpIn _ _ _ _ _ _ W) _ ?_
  intro u0 hu
  have E : Hid (Below w.heap.size w u0) := by rw [hu]; exact (((below_one w _).alloc (by simp) _).alloc (by simp; omega) _).alloc (by simp; omega) _
  have I0 : Hid (u0.cell? ⟨w.heap.size, 0, none⟩ = some (.slice (some ⟨b, off, none⟩) n cap)) := by show _ = _; rw [hu]; simp [go_sem]
  have I1 : Hid (BI u0 (w.heap.size + 1) 0) := by rw [hu]; exact ⟨by simp [go_sem], by simp [go_sem]⟩
  have I2 : Hid (BI u0 (w.heap.size + 1 + 1) 0) := by rw [hu]; exact ⟨by simp [go_sem], by simp [go_sem]⟩
  have I3 : Hid (BI u0 (w.heap.size + 1 + 1 + 1) 0) := by rw [hu]; exact ⟨by simp [go_sem], by simp [go_sem]⟩
  have hz0 : u0.heap.size = w.heap.size + 4 := by rw [hu]; simp
  clear hu
  have i0 := I0.out
  gi_wp2_with fail
  refine ⟨trivial, ?_⟩
  refine (callsIn_wide.2 (H0.out _ E.out)).mono ?_
  rintro e w1 ⟨rfl, b1⟩
  have E := Lib.hid (chain E.out b1)
  have I0 := Lib.hid (keep1 b1 I0.out)
  have I1 := Lib.hid (I1.out.below b1)
  have I2 := Lib.hid (I2.out.below b1)
  have I3 := Lib.hid (I3.out.below b1)
  have hz1 := b1.size
  clear b1 i0
  have i0 := I0.out
  gi_wp2_with fail
  refine ⟨trivial, ?_⟩
  refine (opposites_in _ (some ⟨b, off, none⟩) n cap _).mono ?_
  rintro e3 w2 ⟨rfl, hw2⟩
  clear i0
  have HW2 : Hid (DI L (.slice (some ⟨b, off, none⟩) n cap) w.heap.size w1.heap.size c ds w [] w2 ∧ w2.heap.size = w1.heap.size + 1) := by
    have h2 : w2 = w1.alloc (.cells #[.slice (some ⟨b, off, none⟩) n cap] 22) := hw2
    have hb : Below w1.heap.size w1 w2 := by rw [h2]; exact below_one w1 _
    refine ⟨⟨⟨0, 0, 0, I1.out.below hb, I2.out.below hb, I3.out.below hb, ?_⟩, keep1 hb I0.out, by rw [h2]; simp [go_sem], (HP.out.below E.out).below hb, chain E.out hb⟩, by rw [h2]; simp⟩
    intro k h
    have hk0 : k = 0 := by have h7 := congrArg List.length h; rw [prs_length] at h7; simpa using h7.symm
    subst hk0
    rfl
  have hz2 : w2.heap.size = w1.heap.size + 1 := HW2.out.2
  clear hw2
  have hs1 : w.heap.size + 4 ≤ w1.heap.size := by omega
  gi_wp2
  refine wpIn_rangeFunc_ownH rfl (show 1 ≤ 5 by decide) (gf := 45) (lb := #[.pointer (some ⟨w1.heap.size, 0, none⟩)]) rfl trivial (enters_of Try.func45 (by kernel_rfl) rfl)
    (opp_stops (Ke w1.heap.size b) 4 (by decide) w1.heap.size b off n cap N L HLN.out w2 HN.out HW2.out.1.2.2.1 HW2.out.1.2.2.2.1 (fun W W' hk a ha => ke_keep hk ha) f t c HCT.out HWy.out HT.out HNN.out HEE.out)
    ke_t (ke_b (by omega) (by have := HBw.out; omega)) (Below.refl _ _) (fun _ => rfl)
    (DI L (.slice (some ⟨b, off, none⟩) n cap) w.heap.size w1.heap.size c ds w)
    (fun _ _ _ => False)
    (di_own _ _ _ _ _ _ _ _ (by omega))
    (fun _ _ _ _ _ hs _ _ => hs)
    HW2.out.1
    (fun x a' W => a' = { tmps := #[.slice (some ⟨b, off, none⟩) n cap, .pointer (some ⟨w.heap.size, 0, none⟩), .pointer (some ⟨w.heap.size + 1, 0, none⟩), .pointer (some ⟨w.heap.size + 1 + 1, 0, none⟩), .pointer (some ⟨w.heap.size + 1 + 1 + 1, 0, none⟩), .int .i64 0, .int .i64 (x.1.val : Int), .int .i64 (x.2.val : Int), undef, .slice (some ⟨b, off, none⟩) n cap, .bool true, .bool false, .slice (some ⟨b, off, none⟩) n cap, .func (.func 45) #[] #[.pointer (some ⟨w1.heap.size, 0, none⟩)], .int .i64 (x.1.val : Int), .int .i64 (x.2.val : Int), undef, undef, undef, undef, undef, undef, undef, undef, undef, undef, undef, undef, undef, undef, undef, undef, undef, undef], defers := [] })
    (fun x a' _ X Y row hs hg hr => hs)
    ?assign ?body ?done ?stop
  case assign =>
    rintro l pre x W K hI hK
    unfold encP
    have hI2 := Lib.hid hI
    gi_wp2
    refine hK _ _ ((KeepsOthers.refl _).from _) ⟨rfl, rfl⟩ hI2.out rfl
  case body =>
    rintro l pre x a' W hl ⟨r, hr⟩ hI rfl hlt
    have HI := Lib.hid hI
    obtain ⟨⟨d1, d2, d3, h1, h2, h3, hgood⟩, c0, cB, cR, c4⟩ := hI
    obtain ⟨x1, x2, x3, hx⟩ : ∃ p q o, L[x.1.val] = (p, q, o) := ⟨_, _, _, rfl⟩
    obtain ⟨y1, y2, y3, hy⟩ : ∃ p q o, L[x.2.val] = (p, q, o) := ⟨_, _, _, rfl⟩
    have HA : Hid (∀ w', Calls Try.prog 23 #[vv x1 x2 x3, vv y1 y2 y3] w' (Ret (.int .i64 (ds x.1.val x.2.val)) w')) := by
      have := HDs.out x.1 x.2
      rw [hx, hy] at this
      exact this
    obtain ⟨bq1, oq1, hq1, q0, q1, q2⟩ := cR.at_ x.1.isLt hx
    cases hq1
    obtain ⟨bq2, oq2, hq2, q3, q4, q5⟩ := cR.at_ x.2.isLt hy
    cases hq2
    have l1 := World.block_lt_of_cell? W _ h1.1
    have l2 := World.block_lt_of_cell? W _ cB
    have l3 : b < W.heap.size := Nat.lt_of_lt_of_le HBw.out c4.size
    simp only at l1 l2
    have hi1 : (x.1.val : Int) < (n : Int) := by have := x.1.isLt; have h5 : n = L.length := HN.out; omega
    have hi2 : (x.2.val : Int) < (n : Int) := by have := x.2.isLt; have h5 : n = L.length := HN.out; omega
    have hi3 : (0 : Int) ≤ (x.1.val : Int) := by omega
    have hi4 : (0 : Int) ≤ (x.2.val : Int) := by omega
    have hj1 : x.1.val < n := by omega
    have hj2 : x.2.val < n := by omega
    have HG : Hid (∀ k, (pre ++ [x]).map vl = prs c k → (if d3 < ds x.1.val x.2.val then ((x.1.val : Int), (x.2.val : Int), ds x.1.val x.2.val) else (d1, d2, d3)) = dD c ds k) := by
      intro k e
      obtain ⟨k', rfl, e1, e2⟩ := prs_snoc e
      have h5 := hgood k' e1
      rw [dD, e2, ← h5]
    have C4 := Lib.hid c4
    have H1 := Lib.hid h1
    have H2 := Lib.hid h2
    have H3 := Lib.hid h3
    have hmx : Try.prog.follows .mixedOrders = true := by kernel_rfl
    have E0 := Lib.hid (Below.refl W.heap.size W)
    have HX1 : ∃ q, q = x.1.val := ⟨_, rfl⟩
    have HX2 : ∃ q, q = x.2.val := ⟨_, rfl⟩
    obtain ⟨v1, hv1⟩ := HX1
    obtain ⟨v2, hv2⟩ := HX2
    rw [← hv1, ← hv2] at HG HA
    rw [← hv1] at hi1 hi3 hj1 q0 q1 q2
    rw [← hv2] at hi2 hi4 hj2 q3 q4 q5
    rw [← hv1, ← hv2]
    obtain ⟨r0, hr0⟩ : ∃ r, r = ds v1 v2 := ⟨_, rfl⟩
    rw [← hr0] at HG HA
    clear hgood hx hy h1 h2 h3 cR c4 hv1 hv2 hr0 hr
    gi_wp2
    refine round_held (S := (fun W' => W'.cell? ⟨w.heap.size, 0, none⟩ = some (.slice (some ⟨b, off, none⟩) n cap) ∧ W'.cell? ⟨b, off + v1 * 3, none⟩ = some (.int .i64 x1) ∧ W'.cell? ⟨b, off + v1 * 3 + 1, none⟩ = some (.int .i64 x2) ∧ W'.cell? ⟨b, off + v1 * 3 + 2, none⟩ = some (.int .i64 x3) ∧ W'.cell? ⟨b, off + v2 * 3, none⟩ = some (.int .i64 y1) ∧ W'.cell? ⟨b, off + v2 * 3 + 1, none⟩ = some (.int .i64 y2) ∧ W'.cell? ⟨b, off + v2 * 3 + 2, none⟩ = some (.int .i64 y3))) hmx (by intro i o h c e; rcases i with _ | _ | _ | _ | _ | _ | _ | _ | _ | _ | i <;> simp at h <;> subst h <;> simp at e) ?_ ?_
    · exact ⟨c0, q0, q1, q2, q3, q4, q5⟩
    intro hS0
    refine wpAnyH_take (i := 0) (oi := ?oi0) (v := ?v0) ?hi0 (by kernel_rfl) (by kernel_rfl) (by kernel_rfl) roomy_take (Or.inl ⟨?hw0, ?hy0⟩) (by assumption) ?rest0
    case hi0 => simp only [List.getElem?_toArray, List.getElem?_cons_succ, List.getElem?_cons_zero]; rfl
    case hw0 => rfl
    case hy0 =>
      intro w hSw
      (try dsimp only at hSw)
      go_simp
      (try with_reducible rfl)
    (try simp only [Act.put, List.setIfInBounds_toArray, List.set_cons_zero, List.set_cons_succ])
    refine wpAnyH_take (i := 1) (oi := ?oi1) (v := ?v1) ?hi1 (by kernel_rfl) (by kernel_rfl) (by kernel_rfl) roomy_take (Or.inl ⟨?hw1, ?hy1⟩) (by assumption) ?rest1
    case hi1 => simp only [List.getElem?_toArray, List.getElem?_cons_succ, List.getElem?_cons_zero]; rfl
    case hw1 => rfl
    case hy1 =>
      intro w hSw
      (try dsimp only at hSw)
      go_simp
      (try with_reducible rfl)
    (try simp only [Act.put, List.setIfInBounds_toArray, List.set_cons_zero, List.set_cons_succ])
    refine wpAnyH_take (i := 2) (oi := ?oi2) (v := ?v2) ?hi2 (by kernel_rfl) (by kernel_rfl) (by kernel_rfl) roomy_take (Or.inl ⟨?hw2, ?hy2⟩) (by assumption) ?rest2
    case hi2 => simp only [List.getElem?_toArray, List.getElem?_cons_succ, List.getElem?_cons_zero]; rfl
    case hw2 => rfl
    case hy2 =>
      intro w hSw
      (try dsimp only at hSw)
      go_simp
      (try with_reducible rfl)
    (try simp only [Act.put, List.setIfInBounds_toArray, List.set_cons_zero, List.set_cons_succ])
    refine wpAnyH_take (i := 3) (oi := ?oi3) (v := ?v3) ?hi3 (by kernel_rfl) (by kernel_rfl) (by kernel_rfl) roomy_take (Or.inl ⟨?hw3, ?hy3⟩) (by assumption) ?rest3
    case hi3 => simp only [List.getElem?_toArray, List.getElem?_cons_succ, List.getElem?_cons_zero]; rfl
    case hw3 => rfl
    case hy3 =>
      intro w hSw
      (try dsimp only at hSw)
      go_simp
      (try with_reducible rfl)
    (try simp only [Act.put, List.setIfInBounds_toArray, List.set_cons_zero, List.set_cons_succ])
    refine wpAnyH_take (i := 4) (oi := ?oi4) (v := ?v4) ?hi4 (by kernel_rfl) (by kernel_rfl) (by kernel_rfl) roomy_take (Or.inl ⟨?hw4, ?hy4⟩) (by assumption) ?rest4
    case hi4 => simp only [List.getElem?_toArray, List.getElem?_cons_succ, List.getElem?_cons_zero]; rfl
    case hw4 => rfl
    case hy4 =>
      intro w hSw
      (try dsimp only at hSw)
      go_simp
      (try with_reducible rfl)
    (try simp only [Act.put, List.setIfInBounds_toArray, List.set_cons_zero, List.set_cons_succ])
    refine wpAnyH_take (i := 5) (oi := ?oi5) (v := ?v5) ?hi5 (by kernel_rfl) (by kernel_rfl) (by kernel_rfl) roomy_take (Or.inl ⟨?hw5, ?hy5⟩) (by assumption) ?rest5
    case hi5 => simp only [List.getElem?_toArray, List.getElem?_cons_succ, List.getElem?_cons_zero]; rfl
    case hw5 => rfl
    case hy5 =>
      intro w hSw
      (try dsimp only at hSw)
      go_simp
      (try with_reducible rfl)
    (try simp only [Act.put, List.setIfInBounds_toArray, List.set_cons_zero, List.set_cons_succ])
    refine wpAnyH_take (i := 6) (oi := ?oi6) (v := ?v6) ?hi6 (by kernel_rfl) (by kernel_rfl) (by kernel_rfl) roomy_take (Or.inl ⟨?hw6, ?hy6⟩) (by assumption) ?rest6
    case hi6 => simp only [List.getElem?_toArray, List.getElem?_cons_succ, List.getElem?_cons_zero]; rfl
    case hw6 => rfl
    case hy6 =>
      intro w hSw
      (try dsimp only at hSw)
      go_simp
      (try with_reducible rfl)
    (try simp only [Act.put, List.setIfInBounds_toArray, List.set_cons_zero, List.set_cons_succ])
    refine wpAnyH_take (i := 7) (oi := ?oi7) (v := ?v7) ?hi7 (by kernel_rfl) (by kernel_rfl) (by kernel_rfl) roomy_take (Or.inl ⟨?hw7, ?hy7⟩) (by assumption) ?rest7
    case hi7 => simp only [List.getElem?_toArray, List.getElem?_cons_succ, List.getElem?_cons_zero]; rfl
    case hw7 => rfl
    case hy7 =>
      intro w hSw
      (try dsimp only at hSw)
      go_simp
      (try with_reducible rfl)
    (try simp only [Act.put, List.setIfInBounds_toArray, List.set_cons_zero, List.set_cons_succ])
    refine wpAnyH_ready (rs := [8]) (by kernel_rfl) (by simp) ?_
    refine AllReadyH.cons (o := ?oi8) ?hi8 ?rest8 AllReadyH.nil
    case hi8 => simp only [List.getElem?_toArray, List.getElem?_cons_succ, List.getElem?_cons_zero]; rfl
    intro K hK
    go_simp
    (with_reducible refine (HA.out _).mono ?_)
    rintro e yw ⟨rfl, b5⟩
    have b5 := undrew b5
    have E2 := Lib.hid (chain E0.out b5)
    clear b5
    (try go_wp2_with fail)
    refine hK.out _ _ ?_ (fun hHeld => ?_)
    · (try dsimp only)
      exact ⟨keep1 E2.out c0, keep1 E2.out q0, keep1 E2.out q1, keep1 E2.out q2, keep1 E2.out q3, keep1 E2.out q4, keep1 E2.out q5⟩
    clear hK K
    (try simp only [Act.put, List.setIfInBounds_toArray, List.set_cons_zero, List.set_cons_succ])
    refine wpAnyH_ready (rs := [9]) (by kernel_rfl) (by simp) ?_
    refine AllReadyH.cons (o := ?oi9) ?hi9 ?rest9 AllReadyH.nil
    case hi9 => simp only [List.getElem?_toArray, List.getElem?_cons_succ, List.getElem?_cons_zero]; rfl
    intro K hK
    go_simp
    refine hK.out _ _ ?_ (fun hHeld => ?_)
    · (try dsimp only)
      exact ⟨keep1 E2.out c0, keep1 E2.out q0, keep1 E2.out q1, keep1 E2.out q2, keep1 E2.out q3, keep1 E2.out q4, keep1 E2.out q5⟩
    clear hK K
    (try simp only [Act.put, List.setIfInBounds_toArray, List.set_cons_zero, List.set_cons_succ])
    refine wpAnyH_done (by kernel_rfl) ?_ _
    refine roomy_done ?_
    (try dsimp only [Exit.then])
    have HF := Lib.hid (di_step (x := x) (r := r0) (v1 := v1) (v2 := v2) HI.out E2.out (B := w2.heap.size) (by omega) (by have := HBw.out; omega) l3)
    obtain ⟨z1, z2, z3, g1, g2, g3, F1, F2⟩ := HF.out
    obtain rfl := bi_one g1 (H1.out.below E2.out)
    obtain rfl := bi_one g2 (H2.out.below E2.out)
    obtain rfl := bi_one g3 (H3.out.below E2.out)
    obtain ⟨k1, m1⟩ := g1
    obtain ⟨k2, m2⟩ := g2
    obtain ⟨k3, m3⟩ := g3
    have F1 := Lib.hid F1
    have F2 := Lib.hid F2
    clear c0 q0 q1 q2 q3 q4 q5 cB HF HI E2 H1 H2 H3 hS0
    have n12 : ¬ (w.heap.size + 1 = w.heap.size + 1 + 1) := by omega
    have n13 : ¬ (w.heap.size + 1 = w.heap.size + 1 + 1 + 1) := by omega
    have n23 : ¬ (w.heap.size + 1 + 1 = w.heap.size + 1 + 1 + 1) := by omega
    have n21 : ¬ (w.heap.size + 1 + 1 = w.heap.size + 1) := by omega
    have n31 : ¬ (w.heap.size + 1 + 1 + 1 = w.heap.size + 1) := by omega
    have n32 : ¬ (w.heap.size + 1 + 1 + 1 = w.heap.size + 1 + 1) := by omega
    by_cases hgt : z3 < r0
    · have HZ := Lib.hid (F2.out (by have := HG.out; rw [if_pos hgt] at this; exact this))
      clear F1 F2 HG
      gi_wp2
      exact HZ.out
    · have HZ := Lib.hid (F1.out (by have := HG.out; rw [if_neg hgt] at this; exact this))
      clear F1 F2 HG
      gi_wp2
      first | exact HZ.out | (have h9 := HZ.out; rw [hz2] at h9; exact h9)
  case done =>
    rintro D xs W hD hxs ⟨⟨d1, d2, d3, h1, h2, h3, hgood⟩, c0, cB, cR, c4⟩ hK
    have hg := hgood _ hxs
    have g1 : (dD c ds N).1 = d1 := by rw [← hg]
    have g2 : (dD c ds N).2.1 = d2 := by rw [← hg]
    have g3 : (dD c ds N).2.2 = d3 := by rw [← hg]
    have G1 := Lib.hid g1
    have G2 := Lib.hid g2
    have G3 := Lib.hid g3
    have C4 := Lib.hid c4
    have HKD := Lib.hid hK
    obtain ⟨k1, m1⟩ := h1
    obtain ⟨k2, m2⟩ := h2
    obtain ⟨k3, m3⟩ := h3
    clear hgood c0 cB cR c4 hg g1 g2 g3 hK
    have hmx : Try.prog.follows .mixedOrders = true := by kernel_rfl
    have n12 : ¬ (w.heap.size + 1 = w.heap.size + 1 + 1) := by omega
    have n13 : ¬ (w.heap.size + 1 = w.heap.size + 1 + 1 + 1) := by omega
    have n23 : ¬ (w.heap.size + 1 + 1 = w.heap.size + 1 + 1 + 1) := by omega
    have n21 : ¬ (w.heap.size + 1 + 1 = w.heap.size + 1) := by omega
    have n31 : ¬ (w.heap.size + 1 + 1 + 1 = w.heap.size + 1) := by omega
    have n32 : ¬ (w.heap.size + 1 + 1 + 1 = w.heap.size + 1 + 1) := by omega
    gi_wp2
    refine wide_held (S := (fun W' => W'.cell? ⟨w.heap.size + 1, 0, none⟩ = some (.int .i64 d1) ∧ W'.cell? ⟨w.heap.size + 1 + 1, 0, none⟩ = some (.int .i64 d2) ∧ W'.cell? ⟨w.heap.size + 1 + 1 + 1, 0, none⟩ = some (.int .i64 d3))) hmx (by intro i o h c e; rcases i with _ | _ | _ | _ | _ | _ | _ | i <;> simp at h <;> subst h <;> simp at e) ?_ ?_
    · exact ⟨k1, k2, k3⟩
    intro hS0
    refine wpAnyH_take (i := 0) (oi := ?pi0) (v := ?pv0) ?ph0 (by kernel_rfl) (by kernel_rfl) (by kernel_rfl) roomy_take (Or.inl ⟨?pw0, ?py0⟩) (by assumption) ?pt0
    case ph0 => simp only [List.getElem?_toArray, List.getElem?_cons_succ, List.getElem?_cons_zero]; rfl
    case pw0 => rfl
    case py0 =>
      intro w hSw
      (try dsimp only at hSw)
      go_simp
      (try with_reducible rfl)
    (try simp only [Act.put, List.setIfInBounds_toArray, List.set_cons_zero, List.set_cons_succ])
    refine wpAnyH_take (i := 1) (oi := ?pi1) (v := ?pv1) ?ph1 (by kernel_rfl) (by kernel_rfl) (by kernel_rfl) roomy_take (Or.inl ⟨?pw1, ?py1⟩) (by assumption) ?pt1
    case ph1 => simp only [List.getElem?_toArray, List.getElem?_cons_succ, List.getElem?_cons_zero]; rfl
    case pw1 => rfl
    case py1 =>
      intro w hSw
      (try dsimp only at hSw)
      go_simp
      (try with_reducible rfl)
    (try simp only [Act.put, List.setIfInBounds_toArray, List.set_cons_zero, List.set_cons_succ])
    refine wpAnyH_take (i := 2) (oi := ?pi2) (v := ?pv2) ?ph2 (by kernel_rfl) (by kernel_rfl) (by kernel_rfl) roomy_take (Or.inl ⟨?pw2, ?py2⟩) (by assumption) ?pt2
    case ph2 => simp only [List.getElem?_toArray, List.getElem?_cons_succ, List.getElem?_cons_zero]; rfl
    case pw2 => rfl
    case py2 =>
      intro w hSw
      (try dsimp only at hSw)
      go_simp
      (try with_reducible rfl)
    (try simp only [Act.put, List.setIfInBounds_toArray, List.set_cons_zero, List.set_cons_succ])
    refine wpAnyH_ready (rs := [3]) (by kernel_rfl) (by simp) ?_
    refine AllReadyH.cons (o := ?pi3) ?ph3 ?pt3 AllReadyH.nil
    case ph3 => simp only [List.getElem?_toArray, List.getElem?_cons_succ, List.getElem?_cons_zero]; rfl
    intro K hK
    go_simp
    refine hK.out _ _ ?_ (fun hHeld => ?_)
    · (try dsimp only)
      refine ⟨?_, ?_, ?_⟩ <;> simp [go_sem, *]
    clear hK K
    (try simp only [Act.put, List.setIfInBounds_toArray, List.set_cons_zero, List.set_cons_succ])
    refine wpAnyH_ready (rs := [4]) (by kernel_rfl) (by simp) ?_
    refine AllReadyH.cons (o := ?pi4) ?ph4 ?pt4 AllReadyH.nil
    case ph4 => simp only [List.getElem?_toArray, List.getElem?_cons_succ, List.getElem?_cons_zero]; rfl
    intro K hK
    go_simp
    refine hK.out _ _ ?_ (fun hHeld => ?_)
    · (try dsimp only)
      refine ⟨?_, ?_, ?_⟩ <;> simp [go_sem, *]
    clear hK K
    (try simp only [Act.put, List.setIfInBounds_toArray, List.set_cons_zero, List.set_cons_succ])
    refine wpAnyH_ready (rs := [5]) (by kernel_rfl) (by simp) ?_
    refine AllReadyH.cons (o := ?pi5) ?ph5 ?pt5 AllReadyH.nil
    case ph5 => simp only [List.getElem?_toArray, List.getElem?_cons_succ, List.getElem?_cons_zero]; rfl
    intro K hK
    go_simp
    refine hK.out _ _ ?_ (fun hHeld => ?_)
    · (try dsimp only)
      refine ⟨?_, ?_, ?_⟩ <;> simp [go_sem, *]
    clear hK K
    (try simp only [Act.put, List.setIfInBounds_toArray, List.set_cons_zero, List.set_cons_succ])
    refine wpAnyH_ready (rs := [6]) (by kernel_rfl) (by simp) ?_
    refine AllReadyH.cons (o := ?pi6) ?ph6 ?pt6 AllReadyH.nil
    case ph6 => simp only [List.getElem?_toArray, List.getElem?_cons_succ, List.getElem?_cons_zero]; rfl
    intro K hK
    go_simp
    refine hK.out _ _ ?_ (fun hHeld => ?_)
    · (try dsimp only)
      refine ⟨?_, ?_, ?_⟩ <;> simp [go_sem, *]
    clear hK K
    (try simp only [Act.put, List.setIfInBounds_toArray, List.set_cons_zero, List.set_cons_succ])
    refine wpAnyH_done (by kernel_rfl) ?_ _
    refine roomy_done ?_
    (try dsimp only [Exit.then])
    refine any_world (p := fun W => _) _ ?_
    intro W9 hW9
    have a1 : BI W9 (w.heap.size + 1) d1 := by rw [hW9]; exact (((BI.set ⟨k1, m1⟩ d1).far (by omega) _).far (by omega) _)
    have a2 : BI W9 (w.heap.size + 1 + 1) d2 := by rw [hW9]; exact (((BI.far ⟨k2, m2⟩ (by omega) _).set d2).far (by omega) _)
    have a3 : BI W9 (w.heap.size + 1 + 1 + 1) d3 := by rw [hW9]; exact ((BI.far ⟨k3, m3⟩ (by omega) _).far (by omega) _).set d3
    have hK8 : W9.heap[D]? = some (.deferred (some [])) := by rw [hW9]; exact (((KeepsOthers.setCell _ _ _).trans (KeepsOthers.setCell _ _ _)).trans (KeepsOthers.setCell _ _ _)).same D _ HKD.out rfl
    have hB9 : Below w.heap.size w W9 := by
      rw [hW9]
      exact (((C4.out.setCell (p := ⟨w.heap.size + 1, 0, none⟩) (by simp only; omega) _).setCell (p := ⟨w.heap.size + 1 + 1, 0, none⟩) (by simp only; omega) _).setCell (p := ⟨w.heap.size + 1 + 1 + 1, 0, none⟩) (by simp only; omega) _).drew
    have hgr := grownBy_putObj' W9 D (.deferred none)
    have hr9 : ∀ r, some D = some r → ∃ o : Obj, W9.heap[r]? = some o ∧ o.isCells = false := fun r e => by cases e; exact ⟨_, hK8, rfl⟩
    have z1 := (a1.kept hgr hr9).1
    have z2 := (a2.kept hgr hr9).1
    have z3 := (a3.kept hgr hr9).1
    have HK8 := Lib.hid hK8
    have HB9 := Lib.hid hB9
    clear hW9 a1 a2 a3 hK8 hB9 hgr hr9 k1 k2 k3 m1 m2 m3 C4 HKD hS0
    gi_wp2
    refine ⟨by simp, .inl ⟨_, _, rfl, run_takeDeferred HK8.out, ?_⟩⟩
    refine ⟨.tuple #[.int .i64 d1, .int .i64 d2, .int .i64 d3, .int .i64 0], (by simp [results, Try.results7, go_sem, z1, z2, z3]), (by rw [G1.out, G2.out, G3.out]), ?_⟩
    exact HB9.out.trans (belowK_b (w := w) (Nat.le_refl _) _ D _ _ (by omega) HK8.out rfl rfl)
  case stop =>
    rintro D c2 pre W _ _ h _
    exact h.elim
end Go.Proofs.Ytpkfngfenkcjoaa

/- hull.Extent: the walks. -/
set_option linter.all false
namespace Go.Proofs.Ytpkfngfenkcjoaa
open Go.RowKit

set_option maxRecDepth 100000 in
set_option maxHeartbeats 4000000 in
theorem ext_bad1 (p : Option Addr) (n cap : Nat) (p1 p2 p3 : Int) (w : World) (H0 : ∀ w', Below w.heap.size w w' → Calls Try.prog 19 #[.slice p n cap] w' (Ret (.bool false) w')) :
    Calls Try.prog 8 #[.slice p n cap, vv p1 p2 p3] w (Ret (.tuple #[.int .i64 0, .int .i64 0, .int .i64 2]) w) := by
  have H0 := Lib.hid H0
  go_enter Try.func8, Try.ntmps8
  go_upto_region 1 with (fail)
  obtain ⟨u0, hu⟩ : ∃ u0 : World, u0 = w.alloc (.cells #[.int .i64 p1, .int .i64 p2, .int .i64 p3] 24) := ⟨_, rfl⟩
  have E : Hid (Below w.heap.size w u0) := by rw [hu]; exact below_one _ _
  have VP : Hid (V3 u0 w.heap.size p1 p2 p3) := by rw [hu]; exact (vf_made _ _ _ _).1
  obtain ⟨gp, hgp⟩ : ∃ g, g = w.heap.size := ⟨_, rfl⟩
  rw [← hgp] at VP
  rw [← hu, ← hgp]
  clear hu hgp
  obtain ⟨e0, e1, e2⟩ := VP.out
  go_wp2_with fail
  refine (H0.out _ (by first | exact E.out | exact E.out.drew)).mono ?_
  rintro e y ⟨rfl, b⟩
  have E := Lib.hid (chain E.out b)
  have VP := Lib.hid (VP.out.below b)
  clear b
  go_wp2
  refine bodyPost_ret (v := .tuple #[.int .i64 0, .int .i64 0, .int .i64 2]) (by simp [results, Try.results8, go_sem]) rfl ⟨rfl, by first | exact E.out | exact E.out.drew⟩

set_option maxRecDepth 100000 in
set_option maxHeartbeats 4000000 in
theorem ext_bad2 (p : Option Addr) (n cap : Nat) (p1 p2 p3 : Int) (w : World) (H0 : ∀ w', Below w.heap.size w w' → Calls Try.prog 19 #[.slice p n cap] w' (Ret (.bool true) w')) (H1 : ∀ w', Calls Try.prog 24 #[vv p1 p2 p3] w' (Ret (.bool false) w')) :
    Calls Try.prog 8 #[.slice p n cap, vv p1 p2 p3] w (Ret (.tuple #[.int .i64 0, .int .i64 0, .int .i64 2]) w) := by
  have H0 := Lib.hid H0
  have H1 := Lib.hid H1
  go_enter Try.func8, Try.ntmps8
  go_upto_region 1 with (fail)
  obtain ⟨u0, hu⟩ : ∃ u0 : World, u0 = w.alloc (.cells #[.int .i64 p1, .int .i64 p2, .int .i64 p3] 24) := ⟨_, rfl⟩
  have E : Hid (Below w.heap.size w u0) := by rw [hu]; exact below_one _ _
  have VP : Hid (V3 u0 w.heap.size p1 p2 p3) := by rw [hu]; exact (vf_made _ _ _ _).1
  obtain ⟨gp, hgp⟩ : ∃ g, g = w.heap.size := ⟨_, rfl⟩
  rw [← hgp] at VP
  rw [← hu, ← hgp]
  clear hu hgp
  obtain ⟨e0, e1, e2⟩ := VP.out
  go_wp2_with fail
  refine (H0.out _ (by first | exact E.out | exact E.out.drew)).mono ?_
  rintro e y ⟨rfl, b⟩
  have E := Lib.hid (chain E.out b)
  have VP := Lib.hid (VP.out.below b)
  clear b
  clear e0 e1 e2
  obtain ⟨e0, e1, e2⟩ := VP.out
  go_wp2_with fail
  refine (H1.out _).mono ?_
  rintro e y ⟨rfl, b⟩
  have E := Lib.hid (chain E.out b)
  have VP := Lib.hid (VP.out.below b)
  clear b
  go_wp2
  refine bodyPost_ret (v := .tuple #[.int .i64 0, .int .i64 0, .int .i64 2]) (by simp [results, Try.results8, go_sem]) rfl ⟨rfl, by first | exact E.out | exact E.out.drew⟩

set_option maxRecDepth 100000 in
set_option maxHeartbeats 4000000 in
theorem ext_walk (L : List T3) (v : Value) (p1 p2 p3 : Int) (w : World) (hl : Rv w v L) (hmx : L.length ≤ 10000) (d : ∀ j, j < L.length → Int) (lo hi : Nat → Int) (hlo0 : lo 0 = 9223372036854775807) (hhi0 : hi 0 = -9223372036854775808)
    (hlo : ∀ k (hk : k < L.length), min (lo k) (d k hk) = lo (k + 1)) (hhi : ∀ k (hk : k < L.length), max (hi k) (d k hk) = hi (k + 1))
    (H0 : ∀ w', Below w.heap.size w w' → Calls Try.prog 19 #[v] w' (Ret (.bool true) w')) (H1 : ∀ w', Calls Try.prog 24 #[vv p1 p2 p3] w' (Ret (.bool true) w'))
    (HD : ∀ k (hk : k < L.length) w', Calls Try.prog 25 #[vv p1 p2 p3, vv L[k].1 L[k].2.1 L[k].2.2] w' (Ret (.int .i64 (d k hk)) w')) :
    Calls Try.prog 8 #[v, vv p1 p2 p3] w (Ret (.tuple #[.int .i64 (lo L.length), .int .i64 (hi L.length), .int .i64 0]) w) := by
  obtain ⟨p, b, off, cap, rfl, h2, h3, h4, h5⟩ := hl
  have H4 := Lib.hid h4
  have H5 := Lib.hid h5
  have H0 := Lib.hid H0
  have H1 := Lib.hid H1
  have HD := Lib.hid HD
  have HLO := Lib.hid hlo
  have HHI := Lib.hid hhi
  clear h4 h5 h2 h3 hlo hhi
  obtain ⟨n, hn⟩ : ∃ n, n = L.length := ⟨_, rfl⟩
  rw [← hn] at hmx ⊢
  rw [← hn] at H0
  have HN := Lib.hid hn
  have HL0 := Lib.hid hlo0
  have HH0 := Lib.hid hhi0
  clear hn hlo0 hhi0
  go_enter Try.func8, Try.ntmps8
  go_upto_region 1 with (fail)
  obtain ⟨u0, hu⟩ : ∃ u0 : World, u0 = w.alloc (.cells #[.int .i64 p1, .int .i64 p2, .int .i64 p3] 24) := ⟨_, rfl⟩
  have E : Hid (Below w.heap.size w u0) := by rw [hu]; exact below_one _ _
  have VP : Hid (V3 u0 w.heap.size p1 p2 p3) := by rw [hu]; exact (vf_made _ _ _ _).1
  obtain ⟨gp, hgp⟩ : ∃ g, g = w.heap.size := ⟨_, rfl⟩
  rw [← hgp] at VP
  rw [← hu, ← hgp]
  clear hu hgp
  obtain ⟨e0, e1, e2⟩ := VP.out
  go_wp2_with fail
  refine (H0.out _ (by first | exact E.out | exact E.out.drew)).mono ?_
  rintro e y ⟨rfl, b⟩
  have E := Lib.hid (chain E.out b)
  have VP := Lib.hid (VP.out.below b)
  clear b
  clear e0 e1 e2
  obtain ⟨e0, e1, e2⟩ := VP.out
  go_wp2_with fail
  refine (H1.out _).mono ?_
  rintro e y ⟨rfl, b⟩
  have E := Lib.hid (chain E.out b)
  have VP := Lib.hid (VP.out.below b)
  clear b
  go_wp2
  clear e0 e1 e2
  go_loopw [4, 5, 8, 9, 20] (fun lv hv _ _ iv wr => ∃ (wz : World) (k : Nat), wz = wr ∧ k ≤ n ∧ iv = .int .i64 (k : Int) ∧ lv = .int .i64 (lo k) ∧ hv = .int .i64 (hi k) ∧ Hid (V3 wz gp p1 p2 p3) ∧ Hid (Below w.heap.size w wz))
    (fun _ _ _ _ iv _ => n - (intOf iv).toNat)
  case atStart => exact ⟨_, 0, rfl, Nat.zero_le _, rfl, by rw [HL0.out], by rw [HH0.out], VP.out, E.out⟩
  case round =>
    clear VP E
    obtain ⟨wz, k, rfl, hk, rfl, rfl, rfl, VP, hbl⟩ := hrel
    by_cases hlt : k < n
    · have hkl : k < L.length := by have h5 : n = L.length := HN.out; omega
      obtain ⟨x, y, z, hL⟩ : ∃ x y z, L[k] = (x, y, z) := ⟨_, _, _, rfl⟩
      obtain rfl := H4.out (by omega)
      have c0 : wz.cell? ⟨b, off + k * 3, none⟩ = some (.int .i64 x) := by
        have := keep1 hbl.out (H5.out k hkl).1
        simpa [hL] using this
      have c1 : wz.cell? ⟨b, off + k * 3 + 1, none⟩ = some (.int .i64 y) := by
        have := keep1 hbl.out (H5.out k hkl).2.1
        simpa [hL] using this
      have c2 : wz.cell? ⟨b, off + k * 3 + 2, none⟩ = some (.int .i64 z) := by
        have := keep1 hbl.out (H5.out k hkl).2.2
        simpa [hL] using this
      have HDk : Hid (∀ w', Calls Try.prog 25 #[vv p1 p2 p3, vv x y z] w' (Ret (.int .i64 (d k hkl)) w')) := by
        have := HD.out k hkl
        rw [hL] at this
        exact this
      have hlo1 := HLO.out k hkl
      have hhi1 := HHI.out k hkl
      have KL := Lib.hid hlo1
      have KH := Lib.hid hhi1
      clear hL hlo1 hhi1
      generalize d k hkl = r at *
      generalize lo k = lk at *
      generalize hi k = hk' at *
      clear hkl
      go_upto_region 7 with (fail)
      obtain ⟨u0, hu⟩ : ∃ u0 : World, u0 = wz.alloc (.cells #[.int .i64 x, .int .i64 y, .int .i64 z] 24) := ⟨_, rfl⟩
      have VB : Hid (V3 u0 wz.heap.size x y z) := by rw [hu]; exact (vf_made _ _ _ _).1
      have HB2 : Hid (Below w.heap.size w u0) := by rw [hu]; exact hbl.out.alloc hbl.out.size _
      have VP : Hid (V3 u0 gp p1 p2 p3) := by rw [hu]; exact VP.out.below (below_one _ _)
      obtain ⟨gx, hg⟩ : ∃ g, g = wz.heap.size := ⟨_, rfl⟩
      rw [← hg] at VB
      rw [← hu, ← hg]
      clear hu hg c0 c1 c2
      obtain ⟨e0, e1, e2⟩ := VP.out
      obtain ⟨e3, e4, e5⟩ := VB.out
      go_wp2_with fail
      refine (HDk.out _).mono ?_
      rintro e y5 ⟨rfl, b5⟩
      have HB2 := Lib.hid (chain HB2.out b5)
      have VP := Lib.hid (VP.out.below b5)
      clear b5 e0 e1 e2 e3 e4 e5
      go_wp2
      go_roundw
      case rel => exact ⟨_, k + 1, rfl, by omega, by go_num, by rw [← KL.out], by rw [← KH.out], VP.out, HB2.out⟩
      case measure => simp [intOf]; omega
    · obtain rfl : k = n := by omega
      generalize lo k = lk at *
      generalize hi k = hk' at *
      go_wp2
      refine bodyPost_ret (v := .tuple #[.int .i64 lk, .int .i64 hk', .int .i64 0]) (by simp [results, Try.results8, go_sem]) rfl ⟨rfl, hbl.out⟩

/-! Valid, whole. -/
/-- The turn of three vectors, seen from above. -/
def t3 (a b c : T3) : Int := cmpI (tz a.1 a.2.1 b.1 b.2.1 c.1 c.2.1) 0
theorem turn3_any {a b c : T3} (ha : inV 16777216 a.1 a.2.1 a.2.2 = true) (hb : inV 16777216 b.1 b.2.1 b.2.2 = true) (hc : inV 16777216 c.1 c.2.1 c.2.2 = true) (w : World) :
    Calls Try.prog 37 #[vv a.1 a.2.1 a.2.2, vv b.1 b.2.1 b.2.2, vv c.1 c.2.1 c.2.2] w (Ret (.int .i64 (t3 a b c)) w) :=
  turn_way _ _ _ _ _ _ _ _ _ _ (fun w => Turn_any ha hb hc w) w
theorem inV_up {x y z : Int} (h : inV 1048576 x y z = true) : inV 16777216 x y z = true := by
  rw [inV_iff] at *
  omega
/-- What goes round once. -/
def rnd (L : List T3) : Prop := (∀ k (h : k < L.length), t3 L[k] (L[(k + 1) % L.length]'(Nat.mod_lt _ (by omega))) (L[(k + 1 + 1) % L.length]'(Nat.mod_lt _ (by omega))) = 1) ∧
  (∀ k (h : k + 1 < L.length), 0 < k → t3 L[0] L[k] L[k + 1] = 1)
/-- What Valid answers. -/
def VH (L : List T3) : Prop := 0 < L.length ∧ L.length ≤ 10000 ∧ inL 1048576 L = true ∧ (∀ a ∈ L, a.2.2 = 0) ∧ (∀ k (h : k < L.length), 0 < k → c3 L[0] L[k] < 0) ∧ (L.length ≤ 2 ∨ rnd L)
theorem inL_mem {m : Int} {L : List T3} (h : inL m L = true) : ∀ a ∈ L, inV m a.1 a.2.1 a.2.2 = true := by
  unfold inL at h
  rw [List.all_eq_true] at h
  exact h
theorem least_any (L : List T3) (v : Value) (w : World) (h : Rv w v L) (hp : 0 < L.length) (hmx : L.length ≤ 10000) (res : Bool) (hT : (∀ k (h : k < L.length), 0 < k → c3 L[0] L[k] < 0) → res = true) (hF : ∀ k (h : k < L.length), 0 < k → ¬ c3 L[0] L[k] < 0 → res = false) :
    Calls Try.prog 40 #[v] w (Ret (.bool res) w) := by
  obtain ⟨a, r, rfl⟩ : ∃ a r, L = a :: r := by cases L with | nil => simp at hp | cons a r => exact ⟨a, r, rfl⟩
  obtain ⟨p, b, off, cap, rfl, h2, h3, h4, h5⟩ := h
  obtain rfl := h4 hp
  have h0 := h5 0 hp
  simp only [Nat.zero_mul, Nat.add_zero, List.getElem_cons_zero] at h0
  refine firstIsLeast_walk r a.1 a.2.1 a.2.2 b off cap r.length w rfl (by simp at h2; omega) h3 (by simp at hmx; omega) h0.1 h0.2.1 h0.2.2 (fun k hk => ?_) (fun j hj => c3 a r[j]) res (fun k hk h => ?_) (fun h => hT fun k hk h0 => ?_) (fun k hk w => Compare_any w)
  · have := h5 (k + 1) (by simp; omega)
    rw [show off + (k + 1) * 3 = off + 3 + k * 3 by omega] at this
    simpa using this
  · exact hF (k + 1) (by simp; omega) (by omega) (by simp; omega)
  · obtain ⟨j, rfl⟩ : ∃ j, k = j + 1 := ⟨k - 1, by omega⟩
    have := h j (by simpa using hk)
    simpa using this
theorem round_any (L : List T3) (v : Value) (w : World) (h : Rv w v L) (hp : 0 < L.length) (hmx : L.length ≤ 10000) (hv : inL 1048576 L = true) (res : Bool) (hT : rnd L → res = true) (hF : ¬ rnd L → res = false) :
    Calls Try.prog 41 #[v] w (Ret (.bool res) w) := by
  obtain ⟨p, b, off, cap, rfl, h2, h3, h4, h5⟩ := id h
  obtain rfl := h4 hp
  have hm : ∀ k, k % L.length < L.length := fun k => Nat.mod_lt _ hp
  have hV : ∀ k (hk : k < L.length), inV 16777216 L[k].1 L[k].2.1 L[k].2.2 = true := fun k hk => inV_up (inL_mem hv _ (List.getElem_mem hk))
  refine round_walk L b off cap L.length w rfl hmx hp hp (fun k hk => h5 k hk) (fun k => if hk : k < L.length then t3 L[k] (L[(k + 1) % L.length]'(hm _)) (L[(k + 1 + 1) % L.length]'(hm _)) else 1) (fun k => if hk : k < L.length then t3 L[0] L[k] (L[(k + 1) % L.length]'(hm _)) else 1)
    (fun k => L[(k + 1) % L.length]'(hm _)) (fun k => L[(k + 1 + 1) % L.length]'(hm _)) res ?_ ?_ ?_ ?_ ?_ ?_ ?_
  · intro k hk hne
    rw [dif_pos hk] at hne
    exact hF fun hr => hne (hr.1 k hk)
  · intro k h0 hk hne
    rw [dif_pos (by omega)] at hne
    refine hF fun hr => hne ?_
    have := hr.2 k hk h0
    simp only [Nat.mod_eq_of_lt hk]
    exact this
  · intro h1 h6
    refine hT ⟨fun k hk => ?_, fun k hk h0 => ?_⟩
    · have := h1 k hk
      rwa [dif_pos hk] at this
    · have := h6 k h0 hk
      rw [dif_pos (by omega)] at this
      simp only [Nat.mod_eq_of_lt hk] at this
      exact this
  · intro k hk w' hb
    exact after_any L _ k w' (h.below hb) (by omega) hp (by omega)
  · intro k hk w' hb
    have := after_any L _ (k + 1) w' (h.below hb) (by omega) hp (by omega)
    rwa [Int.natCast_add] at this
  · intro k hk w'
    rw [dif_pos hk]
    exact turn3_any (hV _ _) (hV _ _) (hV _ _) w'
  · intro k hk w' h0
    rw [dif_pos (by omega)]
    exact turn3_any (hV _ _) (hV _ _) (hV _ _) w'
theorem valid_yes (L : List T3) (v : Value) (w : World) (h : Rv w v L) (hv : VH L) : Calls Try.prog 19 #[v] w (Ret (.bool true) w) := by
  obtain ⟨h1, h2, h3, h4, h5, h6⟩ := hv
  obtain ⟨p, b, off, cap, rfl, -⟩ := id h
  have HP : ∀ w', Below w.heap.size w w' → Calls Try.prog 32 #[.slice p L.length cap] w' (Ret (.bool true) w') := fun w' hb => by
    have := allPoints_any L _ w' (h.below hb)
    rwa [decide_eq_true h2, h3] at this
  have HF : ∀ w', Below w.heap.size w w' → Calls Try.prog 39 #[.slice p L.length cap] w' (Ret (.bool true) w') := fun w' hb => by
    have := allFlat_any L _ w' (h.below hb) h2
    rwa [List.all_eq_true.2 (fun a ha => by simpa using h4 a ha)] at this
  have HL : ∀ w', Below w.heap.size w w' → Calls Try.prog 40 #[.slice p L.length cap] w' (Ret (.bool true) w') := fun w' hb =>
    least_any L _ w' (h.below hb) h1 h2 true (fun _ => rfl) (fun k hk h0 hn => absurd (h5 k hk h0) hn)
  by_cases h7 : L.length ≤ 2
  · exact valid_4 p L.length cap w (by omega) (by omega) HP HF HL
  · exact valid_5t p L.length cap w (by omega) (by omega) HP HF HL (fun w' hb => round_any L _ w' (h.below hb) h1 h2 h3 true (fun _ => rfl) (fun hn => absurd (h6.resolve_left h7) hn))
theorem valid_no (L : List T3) (v : Value) (w : World) (h : Rv w v L) (hv : ¬ VH L) : Calls Try.prog 19 #[v] w (Ret (.bool false) w) := by
  obtain ⟨p, b, off, cap, rfl, -⟩ := id h
  by_cases h1 : 0 < L.length
  · by_cases h2 : L.length ≤ 10000 ∧ inL 1048576 L = true
    · have HP : ∀ w', Below w.heap.size w w' → Calls Try.prog 32 #[.slice p L.length cap] w' (Ret (.bool true) w') := fun w' hb => by
        have := allPoints_any L _ w' (h.below hb)
        rwa [decide_eq_true h2.1, h2.2] at this
      by_cases h4 : ∀ a ∈ L, a.2.2 = 0
      · have HF : ∀ w', Below w.heap.size w w' → Calls Try.prog 39 #[.slice p L.length cap] w' (Ret (.bool true) w') := fun w' hb => by
          have := allFlat_any L _ w' (h.below hb) h2.1
          rwa [List.all_eq_true.2 (fun a ha => by simpa using h4 a ha)] at this
        by_cases h5 : ∀ k (h : k < L.length), 0 < k → c3 L[0] L[k] < 0
        · have HL : ∀ w', Below w.heap.size w w' → Calls Try.prog 40 #[.slice p L.length cap] w' (Ret (.bool true) w') := fun w' hb =>
            least_any L _ w' (h.below hb) h1 h2.1 true (fun _ => rfl) (fun k hk h0 hn => absurd (h5 k hk h0) hn)
          have h6 : ¬ (L.length ≤ 2 ∨ rnd L) := fun h6 => hv ⟨h1, h2.1, h2.2, h4, h5, h6⟩
          exact valid_5f p L.length cap w (by omega) (by omega) HP HF HL (fun w' hb => round_any L _ w' (h.below hb) h1 h2.1 h2.2 false (fun hr => absurd (.inr hr) h6) (fun _ => rfl))
        · exact valid_3 p L.length cap w (by omega) HP HF (fun w' hb => least_any L _ w' (h.below hb) h1 h2.1 false (fun hh => absurd hh h5) (fun _ _ _ _ => rfl))
      · refine valid_2 p L.length cap w (by omega) HP (fun w' hb => ?_)
        have := allFlat_any L _ w' (h.below hb) h2.1
        rwa [show (L.all fun a => decide (a.2.2 = 0)) = false from by rw [← Bool.not_eq_true, List.all_eq_true]; simpa using h4] at this
    · refine valid_1 p L.length cap w (by omega) (fun w' hb => ?_)
      have := allPoints_any L _ w' (h.below hb)
      rwa [show (decide (L.length ≤ 10000) && inL 1048576 L) = false from by rw [← Bool.not_eq_true, Bool.and_eq_true, decide_eq_true_eq]; exact h2] at this
  · exact valid_0 p L.length cap w (by omega)
end Go.Proofs.Ytpkfngfenkcjoaa

/- Hulls: corners are different; the corners in order. -/
set_option linter.all false
namespace Go.Proofs.Ytpkfngfenkcjoaa.Hl

theorem IsH.ne {S h : List P2} (H : IsH S h) {i k : Nat} (hk : k < h.length) (hik : i < k) : h[i] ≠ h[k] := by
  intro e
  rcases Nat.lt_or_ge h.length 3 with hl | hl
  · have e2 : h.length = 2 := by omega
    obtain rfl : i = 0 := by omega
    obtain rfl : k = 1 := by omega
    exact H.ne2 e2 e
  · by_cases e1 : k = i + 1
    · subst e1
      obtain ⟨j, hj, j1, j2⟩ : ∃ j, j < h.length ∧ j ≠ i ∧ j ≠ i + 1 := by
        rcases Nat.lt_or_ge (i + 2) h.length with g | g
        · exact ⟨i + 2, g, by omega, by omega⟩
        · exact ⟨0, by omega, by omega, by omega⟩
      have := H.turn hl i hk j hj j1 j2
      rw [← e, tn_aa] at this
      omega
    · have := H.turn hl i (by omega) k hk (by omega) e1
      rw [← e, tn_aba] at this
      omega
theorem IsH.nodup {S h : List P2} (H : IsH S h) : h.Nodup := by
  rw [List.Nodup, List.pairwise_iff_getElem]
  intro i j hi hj hij
  exact H.ne hj hij
/-- A sorted list that has the hull's corners: as long, and its first one is the hull's. -/
theorem IsH.sorted {S h C : List P2} (H : IsH S h) (hC : Srt C) (hm : ∀ q, q ∈ C ↔ q ∈ h) : C.length = h.length ∧ ∃ h0 : 0 < C.length, C[0] = h[0]'H.pos := by
  have hl : C.length = h.length := same_length hC.nodup H.nodup hm
  refine ⟨hl, by have := H.pos; omega, ?_⟩
  refine hC.least ((hm _).2 (List.getElem_mem H.pos)) (fun p hp => H.first p (H.sub p ((hm p).1 hp))) (by have := H.pos; omega)
/-- The uncovered points of S are the corners. -/
theorem IsH.mem_iff {S h : List P2} (H : IsH S h) (q : P2) : (q ∈ S ∧ ¬ cov S q) ↔ q ∈ h := by
  constructor
  · rintro ⟨h1, h2⟩
    exact Classical.byContradiction fun h3 => h2 (H.other h1 h3)
  · exact fun h1 => ⟨H.sub q h1, H.corner q h1⟩
theorem cov_iff {S F : List P2} (h : ∀ q, q ∈ F ↔ q ∈ S) (p : P2) : cov F p ↔ cov S p := by
  unfold cov
  simp only [h]
end Go.Proofs.Ytpkfngfenkcjoaa.Hl
