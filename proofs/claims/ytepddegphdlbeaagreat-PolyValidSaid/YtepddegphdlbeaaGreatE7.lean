/- What the theorem leans on, part 7: LehR, LehG, ProdZ, Zz, Pl1, Pl2, Pl3, Pl4, Same, Pw. -/
import Derived.Test.YtepddegphdlbeaaGreatE6
import Derived.Test.YtepddegphdlbeaaGreatE2
import Derived.Test.YtepddegphdlbeaaGreatE5
import Derived.Below

/- The function wide.reducePair: Lehmer's method. -/
namespace Go.Proofs.YtepddegphdlbeaaGreat
open Go.RowKit

theorem Rd.uniq {w : World} {v : Value} {xs ys : List Nat} (h : Rd w v xs) (k : Rd w v ys) : xs = ys := by
  obtain ⟨p, b, off, cap, h1, h2, h3, h4, h5, h6⟩ := h
  obtain ⟨q, c, o, cp, k1, k2, k3, k4, k5, k6⟩ := k
  rw [h1] at k1
  obtain ⟨rfl, hl, rfl⟩ := Value.slice.inj k1
  refine List.ext_getElem hl fun i hx hy => ?_
  have e1 := h4 (by intro e; rw [e] at hx; exact absurd hx (Nat.not_lt_zero _))
  have e2 := k4 (by intro e; rw [e] at hy; exact absurd hy (Nat.not_lt_zero _))
  rw [e1] at e2
  obtain ⟨rfl, rfl⟩ : b = c ∧ off = o := by simpa using e2
  have e3 := h6 i hx
  rw [k6 i hy] at e3
  have e4 := (Value.int.inj (Option.some.inj e3)).2
  omega
open Classical in
/-- The number that a slice of limbs reads as. -/
noncomputable def numW (w : World) (v : Value) : Nat := if h : ∃ n, Rd w v (Nm.dg W n) then h.choose else 0
theorem numW_eq {w : World} {v : Value} {n : Nat} (h : Rd w v (Nm.dg W n)) : numW w v = n := by
  have hx : ∃ n, Rd w v (Nm.dg W n) := ⟨n, h⟩
  unfold numW
  rw [dif_pos hx]
  have e := hx.choose_spec.uniq h
  have e2 := congrArg (Nm.val W) e
  rwa [Nm.val_dg W2, Nm.val_dg W2] at e2
theorem dgW_mono {a b : Nat} (h : a ≤ b) : (Nm.dg W a).length ≤ (Nm.dg W b).length := by
  refine Nm.len_le_of_val W2 (Nm.nrm_dg W2 a) ?_
  rw [Nm.val_dg W2]
  have h1 := Nm.val_lt (Nm.dig_dg W2 b)
  rw [Nm.val_dg W2] at h1
  omega

/-- A block of N limbs that begins with the limbs of a number. -/
def NB (w : World) (g N m : Nat) : Prop := (∃ l, Arr w g l ∧ l.length = N ∧ l.take (Nm.dg W m).length = Nm.dg W m) ∧ (Nm.dg W m).length ≤ N
theorem NB.rd {w : World} {g N m : Nat} (h : NB w g N m) (hN : N ≤ 1000000000) : Rd w (.slice (some ⟨g, 0, none⟩) (Nm.dg W m).length N) (Nm.dg W m) := by
  obtain ⟨⟨l, h1, h2, h3⟩, h4⟩ := h
  have := Rd.of_arr h1 0 (Nm.dg W m).length N (by omega) h4 (by unfold maxLen; omega)
  rwa [List.drop_zero, h3] at this
theorem NB.cells {w : World} {g N m : Nat} (h : NB w g N m) : ∀ k (hk : k < (Nm.dg W m).length), w.cell? ⟨g, 0 + k, none⟩ = some (.int .u64 ((Nm.dg W m)[k] : Int)) := by
  obtain ⟨⟨l, h1, h2, h3⟩, h4⟩ := h
  intro k hk
  rw [Nat.zero_add, h1.cell k (by omega)]
  have : (l.take (Nm.dg W m).length)[k]'(by rw [h3]; exact hk) = (Nm.dg W m)[k] := by simp [h3]
  rw [List.getElem_take] at this
  rw [this]
theorem NB.keep {w w' : World} {g N m : Nat} (h : NB w g N m) (he : w'.heap[g]? = w.heap[g]?) : NB w' g N m := by
  obtain ⟨⟨l, h1, h2⟩, h4⟩ := h
  exact ⟨⟨l, h1.keep he, h2⟩, h4⟩
theorem NB.lt {w : World} {g N m : Nat} (h : NB w g N m) : g < w.heap.size := by
  obtain ⟨⟨l, h1, h2⟩, h4⟩ := h
  exact h1.lt
/-- A block of N limbs. -/
def FB (w : World) (g N : Nat) : Prop := ∃ l, Arr w g l ∧ l.length = N
theorem FB.keep {w w' : World} {g N : Nat} (h : FB w g N) (he : w'.heap[g]? = w.heap[g]?) : FB w' g N := by
  obtain ⟨l, h1, h2⟩ := h
  exact ⟨l, h1.keep he, h2⟩
theorem FB.lt {w : World} {g N : Nat} (h : FB w g N) : g < w.heap.size := by
  obtain ⟨l, h1, h2⟩ := h
  exact h1.lt
theorem NB.fb {w : World} {g N m : Nat} (h : NB w g N m) : FB w g N := by
  obtain ⟨⟨l, h1, h2, _⟩, h4⟩ := h
  exact ⟨l, h1, h2⟩

/-- The four buffers. -/
structure Four (w : World) (N gx gy gX gY m n : Nat) : Prop where
  x : NB w gx N m
  y : NB w gy N n
  X : FB w gX N
  Y : FB w gY N
  xy : gx ≠ gy
  xX : gx ≠ gX
  xY : gx ≠ gY
  yX : gy ≠ gX
  yY : gy ≠ gY
  XY : gX ≠ gY

theorem Four.below {w w' : World} {N gx gy gX gY m n : Nat} (h : Four w N gx gy gX gY m n) (b : Below w.heap.size w w') : Four w' N gx gy gX gY m n :=
  ⟨h.x.keep (b.block _ h.x.lt), h.y.keep (b.block _ h.y.lt), h.X.keep (b.block _ h.X.lt), h.Y.keep (b.block _ h.Y.lt), h.xy, h.xX, h.xY, h.yX, h.yY, h.XY⟩
/-- Euclid's step: the rest lies where the first number lay. -/
theorem Four.euclid {w w' : World} {N gx gy gX gY m n r : Nat} (h : Four w N gx gy gX gY m n) (o : Only gx w w') {l : List Nat} (hl : l.length = N) (ha : Arr w' gx (Nm.dg W r ++ l.drop (Nm.dg W r).length)) (hr : (Nm.dg W r).length ≤ N) : Four w' N gy gx gX gY n r :=
  ⟨h.y.keep (o.block _ (fun e => h.xy e.symm)), ⟨⟨_, ha, by simp; omega, by rw [List.take_left]⟩, hr⟩, h.X.keep (o.block _ (fun e => h.xX e.symm)), h.Y.keep (o.block _ (fun e => h.xY e.symm)), fun e => h.xy e.symm, h.yX, h.yY, h.xX, h.xY, h.XY⟩
theorem NB.of_trim {w : World} {g N n p : Nat} {s l : List Nat} (ha : Arr w g (s ++ l.drop n)) (hs : s.length = n) (hn : n ≤ N) (hl : l.length = N) (hd : Nm.Dig W s) (hv : Nm.val W s = p) : NB w g N p := by
  have e : Nm.trimL s = Nm.dg W p := by rw [Nm.trimL_dg W2 hd, hv]
  have h1 := Nm.trimL_le s
  have h2 := Nm.trimL_is_take s
  rw [e] at h1 h2
  refine ⟨⟨_, ha, by simp; omega, ?_⟩, by omega⟩
  rw [List.take_append_of_le_length h1]
  exact h2.symm
/-- Lehmer's step: both numbers lie in the other buffers. -/
theorem Four.lehmer {w a b : World} {N gx gy gX gY m n p q k : Nat} (h : Four w N gx gy gX gY m n) (o1 : Only gX w a) (o2 : Only gY a b) (h1 : NB a gX N p) (h2 : NB b gY N q) : Four b N gX gY gx gy p q :=
  ⟨h1.keep (o2.block _ h.XY), h2, (h.x.fb.keep (o1.block _ h.xX)).keep (o2.block _ h.xY), (h.y.fb.keep (o1.block _ h.yX)).keep (o2.block _ h.yY), h.XY, fun e => h.xX e.symm, fun e => h.yX e.symm, fun e => h.xY e.symm, fun e => h.yY e.symm, h.xy⟩

theorem Four.drew {w : World} {N gx gy gX gY m n : Nat} (h : Four w N gx gy gX gY m n) : Four w.drew N gx gy gX gY m n := ⟨h.x.keep rfl, h.y.keep rfl, h.X.keep rfl, h.Y.keep rfl, h.xy, h.xX, h.xY, h.yX, h.yY, h.XY⟩
theorem Four.drewN {w : World} {N gx gy gX gY m n : Nat} (h : Four w N gx gy gX gY m n) (k : Nat) : Four (w.drewN k) N gx gy gX gY m n := ⟨h.x.keep rfl, h.y.keep rfl, h.X.keep rfl, h.Y.keep rfl, h.xy, h.xX, h.xY, h.yX, h.yY, h.XY⟩
theorem Four.swap {w : World} {N gx gy gX gY m n : Nat} (h : Four w N gx gy gX gY m n) : Four w N gx gy gY gX m n := ⟨h.x, h.y, h.Y, h.X, h.xy, h.xY, h.xX, h.yY, h.yX, fun e => h.XY e.symm⟩
theorem four_made {w0 w : World} {N gx gy m n : Nat} (hx : NB w gx N m) (hy : NB w gy N n) (hxy : gx ≠ gy) (hb : Below gx w0 w) :
    let u := ((w.alloc (.cells (uv (List.replicate N 0)).toArray 129)).alloc (.cells (uv (List.replicate N 0)).toArray 129)).drew
    Four u N gx gy w.heap.size (w.heap.size + 1) m n ∧ gx ≤ w.heap.size ∧ gx ≤ w.heap.size + 1 ∧ Below gx w0 u := by
  intro u
  obtain ⟨a1, a2, a3⟩ := two_made w w (Below.refl _ _) (List.replicate N 0) (List.replicate N 0)
  have kx := hx.lt
  have ky := hy.lt
  have hl : (List.replicate N 0 : List Nat).length = N := by simp
  refine ⟨Four.drew ⟨hx.keep (a3.block _ kx), hy.keep (a3.block _ ky), ⟨_, a1, hl⟩, ⟨_, a2, hl⟩, hxy, by omega, by omega, by omega, by omega, by omega⟩, by omega, by omega, ?_⟩
  exact (hb.trans (a3.mono (Nat.le_of_lt kx))).drew

theorem Four.wroteX {w w' : World} {N gx gy gX gY m n : Nat} (h : Four w N gx gy gX gY m n) (o : Only gX w w') (f : FB w' gX N) : Four w' N gx gy gX gY m n :=
  ⟨h.x.keep (o.block _ h.xX), h.y.keep (o.block _ h.yX), f, h.Y.keep (o.block _ (fun e => h.XY e.symm)), h.xy, h.xX, h.xY, h.yX, h.yY, h.XY⟩
/-- A block that begins with k limbs that say a number. -/
def DB (w : World) (g N k p : Nat) : Prop := ∃ (s l : List Nat), Arr w g (s ++ l.drop k) ∧ s.length = k ∧ l.length = N ∧ Nm.Dig W s ∧ Nm.val W s = p ∧ k ≤ N
theorem DB.keep {w w' : World} {g N k p : Nat} (h : DB w g N k p) (he : w'.heap[g]? = w.heap[g]?) : DB w' g N k p := by
  obtain ⟨s, l, h1, h2⟩ := h
  exact ⟨s, l, h1.keep he, h2⟩
theorem DB.nb {w : World} {g N k p : Nat} (h : DB w g N k p) : NB w g N p := by
  obtain ⟨s, l, h1, h2, h3, h4, h5, h6⟩ := h
  exact NB.of_trim h1 h2 h6 h3 h4 h5
theorem DB.trim {w : World} {g N k p : Nat} (h : DB w g N k p) (hN : N ≤ 1000000000) : Calls Tryz.prog 159 #[.slice (some ⟨g, 0, none⟩) k N] w fun e w' => e = .returned (.slice (some ⟨g, 0, none⟩) (Nm.dg W p).length N) ∧ w = w' := by
  obtain ⟨s, l, h1, h2, h3, h4, h5, h6⟩ := h
  have := trim_some g 0 N s w (by omega) (by unfold maxLen; omega) fun k hk => by
    rw [Nat.zero_add, h1.cell k (by simp; omega), List.getElem_append_left hk]
  rwa [h2, Nm.trimL_dg W2 h4, h5] at this
theorem diff_nb {w : World} {g ga gb N k a b u v D : Nat} (hA : NB w ga N a) (hB : NB w gb N b) (hF : FB w g N) (na : ga ≠ g) (nb : gb ≠ g) (la : (Nm.dg W a).length ≤ k) (lb : (Nm.dg W b).length ≤ k) (hk : k ≤ N) (hN : N ≤ 1000000000)
    (hD : D + b * v = a * u) (hlt : D < W ^ k) (du : u < W) (dv : v < W) :
    Calls Tryz.prog 170 #[.slice (some ⟨g, 0, none⟩) k N, .slice (some ⟨ga, 0, none⟩) (Nm.dg W a).length N, .slice (some ⟨gb, 0, none⟩) (Nm.dg W b).length N, .int .u64 (u : Int), .int .u64 (v : Int)] w
      (fun e w' => e = .returned (.tuple #[]) ∧ DB w' g N k D ∧ Only g w w') := by
  obtain ⟨l, hl1, hl2⟩ := hF
  refine (difference_any l (Nm.dg W a) (Nm.dg W b) g k N (some ⟨ga, 0, none⟩) ga 0 N (some ⟨gb, 0, none⟩) gb 0 N u v D w hk (by omega) (by omega) la lb (fun _ => rfl) (fun _ => rfl) na nb hl1 hA.cells hB.cells
    (Nm.dig_dg W2 a) (Nm.dig_dg W2 b) du dv (by rw [Nm.val_dg W2, Nm.val_dg W2]; exact hD) hlt).mono ?_
  rintro e w' ⟨rfl, s, h1, h2, h3, h4, h5⟩
  exact ⟨rfl, ⟨s, l, h4, h1, hl2, h2, h3, hk⟩, h5⟩

def RedPost (G : Nat) (w : World) (e : Ending) (w' : World) : Prop :=
  ∃ v1 v2 m n, e = .returned (.tuple #[v1, v2]) ∧ Rd w' v1 (Nm.dg W m) ∧ Rd w' v2 (Nm.dg W n) ∧ Nat.gcd m n = G ∧ (Nm.dg W n).length ≤ 1 ∧ n ≤ m ∧ (Nm.dg W m).length ≤ 900000000 ∧ Below w.heap.size w w'

set_option maxRecDepth 100000 in
set_option maxHeartbeats 4000000 in
theorem reducePair_any (v1 v2 : Value) (m0 n0 : Nat) (w : World) (h1 : Rd w v1 (Nm.dg W m0)) (h2 : Rd w v2 (Nm.dg W n0)) (hle : n0 ≤ m0) (l1 : (Nm.dg W m0).length ≤ 900000000) :
    Calls Tryz.prog 154 #[v1, v2] w (RedPost (Nat.gcd m0 n0) w) := by
  obtain ⟨N, hN⟩ : ∃ N, (Nm.dg W m0).length = N := ⟨_, rfl⟩
  have l2 := dgW_mono hle
  have H1 := Lib.hid h1
  have H2 := Lib.hid h2
  obtain ⟨G, hG⟩ : ∃ G, Nat.gcd m0 n0 = G := ⟨_, rfl⟩
  rw [hG]
  obtain ⟨p1, b1, o1, c1, rfl, hr1⟩ := h1
  obtain ⟨p2, b2, o2, c2, rfl, hr2⟩ := h2
  rw [hN] at H1 l1 l2 ⊢
  have HM := Lib.hid (And.intro hG (And.intro hle (And.intro hN l2)))
  have mk0 := mk_limbs0 N (by omega)
  have mk1 := fun w => mk_limbs N w (by omega)
  clear hr1 hr2 hG hle hN
  generalize hM : (Nm.dg W n0).length = M at *
  have HMM := Lib.hid hM
  clear hM
  obtain ⟨w1, hw1⟩ : ∃ w1 : World, w1 = w.alloc (.cells (uv (List.replicate N 0)).toArray 129) := ⟨_, rfl⟩
  have hb1 : Hid (Below w.heap.size w w1) := by rw [hw1]; exact (Below.refl _ _).alloc (Nat.le_refl _) _
  have ha1 : Hid (Arr w1 w.heap.size (List.replicate N 0)) := by rw [hw1]; exact Arr.made w _
  have Hw1 := Lib.hid hw1
  clear hw1
  go_enter Tryz.func154, Tryz.ntmps154
  go_wp2_with (at_builtin; rw [← Hw1.out]; refine wpList_append_row rfl (.tmp 13) (.tmp 14) rfl w.heap.size N (List.replicate N 0) (Nm.dg W m0) _ rfl ha1.out (by simp) rfl (H1.out.below hb1.out (Nat.le_refl _)) (by have := HM.out.2.2.1; omega) ?_)
  intro w2 har2 ho2
  have n2 : Hid (NB w2 w.heap.size N m0) := ⟨⟨_, har2, by simp; have := HM.out.2.2.1; omega, by rw [List.take_left]⟩, by have := HM.out.2.2.1; omega⟩
  have hb2 := Lib.hid (ho2.below hb1.out (Nat.le_refl _))
  have hgt : Hid (w.heap.size < w2.heap.size) := n2.out.lt
  clear har2 ho2 ha1 hb1 Hw1
  obtain ⟨w3, hw3⟩ : ∃ w3 : World, w3 = w2.alloc (.cells (uv (List.replicate N 0)).toArray 129) := ⟨_, rfl⟩
  have hb3 : Hid (Below w.heap.size w w3) := by rw [hw3]; exact hb2.out.alloc hb2.out.size _
  have ha3 : Hid (Arr w3 w2.heap.size (List.replicate N 0)) := by rw [hw3]; exact Arr.made w2 _
  have n3 : Hid (NB w3 w.heap.size N m0) := by rw [hw3]; exact n2.out.keep (Below.heap_alloc w2 _ _ n2.out.lt)
  have Hw3 := Lib.hid hw3
  clear hw3
  go_wp2_with (at_builtin; rw [← Hw3.out]; refine wpList_append_row rfl (.tmp 18) (.tmp 19) rfl w2.heap.size N (List.replicate N 0) (Nm.dg W n0) _ rfl ha3.out (by simp) rfl (H2.out.below hb3.out (Nat.le_refl _)) (by have := HM.out.2.2.2; have := HM.out.2.2.1; have := HMM.out; omega) ?_)
  intro w4 har4 ho4
  have n4 : Hid (NB w4 w2.heap.size N n0) := ⟨⟨_, har4, by simp; have := HM.out.2.2.1; have := HM.out.2.2.2; have := HMM.out; omega, by rw [List.take_left]⟩, by have := HM.out.2.2.1; have := HM.out.2.2.2; have := HMM.out; omega⟩
  have n4x : Hid (NB w4 w.heap.size N m0) := n3.out.keep (ho4.block _ (Nat.ne_of_lt hgt.out))
  have hb4 := Lib.hid (ho4.below hb3.out (Nat.le_of_lt hgt.out))
  obtain ⟨gx, hgx⟩ : ∃ gx, w.heap.size = gx := ⟨_, rfl⟩
  obtain ⟨gy, hgy⟩ : ∃ gy, w2.heap.size = gy := ⟨_, rfl⟩
  rw [hgx] at n4x hgt hb4 ⊢
  rw [hgy] at n4 hgt ⊢
  have HGX := Lib.hid hgx
  clear har4 ho4 ha3 hb3 Hw3 n3 n2 hb2 hgx hgy
  go_wp2
  go_cut [6, 7] (fun xv yv wx => ∃ gX gY : Nat, xv = .slice (some ⟨gX, 0, none⟩) N N ∧ yv = .slice (some ⟨gY, 0, none⟩) N N ∧ Hid (Four wx N gx gy gX gY m0 n0 ∧ gx ≤ gX ∧ gx ≤ gY ∧ Below gx w wx))
  case first =>
    rename_i J0 K0 hRJ hMK
    go_region
    all_goals
      refine hMK _ _ (Met.intro (hRJ _ _ ?_))
      (repeat apply Exists.intro)
      refine ⟨?_, rfl⟩
      first
        | exact ⟨_, _, rfl, rfl, four_made n4x.out n4.out (Nat.ne_of_lt hgt.out) hb4.out⟩
        | exact ⟨_, _, rfl, rfl, (four_made n4x.out n4.out (Nat.ne_of_lt hgt.out) hb4.out).1.swap, (four_made n4x.out n4.out (Nat.ne_of_lt hgt.out) hb4.out).2.2.1, (four_made n4x.out n4.out (Nat.ne_of_lt hgt.out) hb4.out).2.1, (four_made n4x.out n4.out (Nat.ne_of_lt hgt.out) hb4.out).2.2.2⟩
  obtain ⟨gX, gY, rfl, rfl, hcut⟩ := hcut
  clear n4 n4x hb4 mk0 mk1 H1 H2
  go_wp2_with fail
  go_loopw [4, 5, 6, 7] (fun xv yv Xv Yv wr => ∃ (wz : World) (gx' gy' gX' gY' m n LX LY : Nat), wz = wr ∧ xv = .slice (some ⟨gx', 0, none⟩) (Nm.dg W m).length N ∧ yv = .slice (some ⟨gy', 0, none⟩) (Nm.dg W n).length N ∧ Xv = .slice (some ⟨gX', 0, none⟩) LX N ∧ Yv = .slice (some ⟨gY', 0, none⟩) LY N ∧ LX ≤ N ∧ LY ≤ N ∧
      Hid (Four wz N gx' gy' gX' gY' m n) ∧ Hid (gx ≤ gx' ∧ gx ≤ gy' ∧ gx ≤ gX' ∧ gx ≤ gY') ∧ Hid (Nat.gcd m n = G ∧ n ≤ m) ∧ Hid (Below gx w wz))
    (fun xv yv _ _ wr => numW wr xv + numW wr yv)
  case atStart => exact ⟨_, gx, gy, gX, gY, m0, n0, N, N, rfl, rfl, by rw [HMM.out], rfl, rfl, Nat.le_refl _, Nat.le_refl _, hcut.out.1, ⟨Nat.le_refl _, Nat.le_of_lt hgt.out, hcut.out.2.1, hcut.out.2.2.1⟩, ⟨HM.out.1, HM.out.2.1⟩, hcut.out.2.2.2⟩
  case round =>
    clear hcut
    obtain ⟨wz, gx', gy', gX', gY', m, n, LX, LY, rfl, rfl, rfl, rfl, rfl, hLX, hLY, hf, hg, hgc, hbl⟩ := hrel
    obtain ⟨lm, hlm⟩ : ∃ lm, (Nm.dg W m).length = lm := ⟨_, rfl⟩
    obtain ⟨ln, hln⟩ : ∃ ln, (Nm.dg W n).length = ln := ⟨_, rfl⟩
    have hfx := hf.out.x.2
    have hfy := hf.out.y.2
    have hmn := dgW_mono hgc.out.2
    rw [hlm] at hfx hmn ⊢
    rw [hln] at hfy hmn ⊢
    by_cases h1 : 1 < ln
    · have h1' : (1 : Int) < (ln : Int) := by omega
      have hS := surest_any (Nm.dg W m) (Nm.dg W n) (some ⟨gx', 0, none⟩) gx' 0 N (some ⟨gy', 0, none⟩) gy' 0 N (lm - 2) wz (by omega) (by omega) (fun _ => rfl) (fun _ => rfl) hf.out.x.cells hf.out.y.cells (Nm.dig_dg W2 m) (Nm.dig_dg W2 n) (Nm.nrm_dg W2 m) (Nm.nrm_dg W2 n) (by rw [Nm.val_dg W2, Nm.val_dg W2]; exact hgc.out.2)
      rw [Nm.val_dg W2, Nm.val_dg W2, hlm, hln] at hS
      have HS := Lib.hid hS
      clear hS
      have hn0 : 0 < n := by
        rcases Nat.eq_zero_or_pos n with h | h
        · rw [h, Nm.dg_zero] at hln; simp at hln; omega
        · exact h
      go_wp2_with fail
      refine HS.out.mono ?_
      rintro e w5 ⟨ev, u0, v0, u1, v1, rfl, hst, bu0, bv0, bu1, bv1, b5⟩
      have b5 := Lib.hid b5
      obtain ⟨w6, hw6⟩ : ∃ w6 : World, w6 = w5.alloc (.cells #[.int .u64 (u0 : Int), .int .u64 (v0 : Int), .int .u64 (u1 : Int), .int .u64 (v1 : Int), .bool ev] 177) := ⟨_, rfl⟩
      have hs6 : Hid (SB w6 w5.heap.size u0 v0 u1 v1 ev) := by rw [hw6]; exact heap_alloc_new w5 _
      have HF6 : Hid (Four w6 N gx' gy' gX' gY' m n) := by rw [hw6]; exact (hf.out.below b5.out).below ((Below.refl w5.heap.size w5).alloc (Nat.le_refl _) _)
      have Hw6 := Lib.hid hw6
      have HSZ : Hid (gx ≤ wz.heap.size) := Nat.le_trans hg.out.1 (Nat.le_of_lt hf.out.x.lt)
      have HSZ5 : Hid (gx ≤ w5.heap.size) := Nat.le_trans HSZ.out b5.out.size
      have HSZ6 : Hid (gx ≤ w6.heap.size) := by rw [hw6]; exact Nat.le_trans HSZ5.out (by simp)
      have HB6 : Hid (Below gx w w6) := by rw [hw6]; exact (hbl.out.trans (b5.out.mono HSZ.out)).alloc HSZ5.out _
      obtain ⟨k0, k1, k2, k3, k4⟩ := hs6.out.cells
      clear hw6 k0 k2 k3 k4 HS
      by_cases hv : v0 = 0
      · have hvj : ((v0 : Int) == 0) = true := by simp [hv]
        clear hv
        have HD := Lib.hid (divOK_any m n hn0 (by omega) (by omega) _ _ w6 (HF6.out.x.rd (by omega)) (HF6.out.y.rd (by omega)))
        rw [hlm, hln] at HD
        clear hst
        go_wp2_with fail
        rw [← Hw6.out]
        go_wp2_with fail
        refine HD.out.mono ?_
        rintro e w7 ⟨vq, vr, rfl, hq, hr, b7⟩
        have HR := Lib.hid hr
        have HF7 := Lib.hid (HF6.out.below b7)
        have hrl : (Nm.dg W (m % n)).length ≤ N := by have := dgW_mono (Nat.le_of_lt (Nat.mod_lt m hn0)); omega
        obtain ⟨l, hA7, hl7⟩ := HF7.out.x.fb
        have HA7 := Lib.hid hA7
        have HB7 := Lib.hid (HB6.out.trans (b7.mono HSZ6.out))
        clear hq hr b7 hA7 k1
        go_wp2_with (at_builtin; refine wpList_append_row rfl (.tmp 44) (.tmp 45) rfl gx' N l (Nm.dg W (m % n)) _ rfl HA7.out hl7 rfl HR.out hrl ?_)
        intro w8 har8 ho8
        have HF8 := Lib.hid (HF7.out.euclid ho8 hl7 har8 hrl)
        have HB8 := Lib.hid (ho8.below HB7.out hg.out.1)
        have HNUM : Hid (numW w8 (.slice (some ⟨gy', 0, none⟩) ln N) + numW w8 (.slice (some ⟨gx', 0, none⟩) (Nm.dg W (m % n)).length N) < numW wz (.slice (some ⟨gx', 0, none⟩) lm N) + numW wz (.slice (some ⟨gy', 0, none⟩) ln N)) := by
          show _ < _
          have e1 := HF8.out.x.rd (by omega)
          have e2 := HF8.out.y.rd (by omega)
          rw [hln] at e1
          have e3 := hf.out.x.rd (by omega)
          have e4 := hf.out.y.rd (by omega)
          rw [hlm] at e3
          rw [hln] at e4
          rw [numW_eq e1, numW_eq e2, numW_eq e3, numW_eq e4]
          have := Nat.mod_lt m hn0
          have := hgc.out.2
          omega
        have HGG : Hid (Nat.gcd n (m % n) = G ∧ m % n ≤ n) := ⟨by have h5 := hgc.out.1; rw [Nat.gcd_comm, Nat.gcd_rec] at h5; rw [Nat.gcd_comm]; exact h5, Nat.le_of_lt (Nat.mod_lt m hn0)⟩
        clear har8 ho8
        go_wp2
        go_roundw
        case rel => exact ⟨_, gy', gx', gX', gY', n, m % n, LX, LY, rfl, by rw [hln], rfl, rfl, rfl, hLX, hLY, HF8, ⟨hg.out.2.1, hg.out.1, hg.out.2.2.1, hg.out.2.2.2⟩, HGG, HB8⟩
        case measure => exact HNUM.out
      · have hvi : ¬ (v0 : Int) = 0 := by omega
        have hvj : ((v0 : Int) == 0) = false := by simp; omega
        obtain ⟨p, q, hs, hqp, hpq, hgg⟩ := (hst.resolve_left hv).gcd hv
        have hmW := Nm.val_lt (Nm.dig_dg W2 m)
        rw [Nm.val_dg W2, hlm] at hmW
        have HPW : Hid (p < W ^ lm) := by show _ < _; omega
        have HQW : Hid (q < W ^ lm) := by show _ < _; omega
        go_wp2_with fail
        rw [← Hw6.out]
        clear hmW
        cases ev with
        | true =>
          simp only [if_true] at hs
          have D1 := Lib.hid (fun wA (h : Four wA N gx' gy' gX' gY' m n) => diff_nb (g := gX') (ga := gx') (gb := gy') (k := lm) (u := u0) (v := v0) (D := p) h.x h.y h.X h.xX h.yX (by omega) (by omega) hfx (by omega) (by rw [Nat.mul_comm, Nat.mul_comm m]; exact hs.1) HPW.out bu0 bv0)
          have D2 := Lib.hid (fun wA (h : Four wA N gx' gy' gX' gY' m n) => diff_nb (g := gY') (ga := gy') (gb := gx') (k := lm) (u := v1) (v := u1) (D := q) h.y h.x h.Y h.yY h.xY (by omega) (by omega) hfx (by omega) (by rw [Nat.mul_comm, Nat.mul_comm n]; exact hs.2) HQW.out bv1 bu1)
          rw [hlm, hln] at D1 D2
          clear hs hst
          go_wp2_with fail
          go_quiet (fail)
          obtain ⟨wA, hwA⟩ : ∃ wA : World, wA = w6.drewN nq := ⟨_, rfl⟩
          have hfA : Hid (Four wA N gx' gy' gX' gY' m n) := by rw [hwA]; exact HF6.out.drewN nq
          have hbA : Hid (Below w6.heap.size w6 wA) := by rw [hwA]; exact belowDrewN (Below.refl _ _) nq
          have hsA : Hid (SB wA w5.heap.size u0 v0 u1 v1 true) := by rw [hwA]; exact hs6.out
          rw [← hwA]
          have HwA := Lib.hid hwA
          clear hwA k1
          obtain ⟨k0, k1, k2, k3, k4⟩ := hsA.out.cells
          go_wp2_with fail
          refine (D1.out _ hfA.out).mono ?_
          rintro e wB ⟨rfl, db, ob⟩
          have hfB := Lib.hid (hfA.out.wroteX ob db.nb.fb)
          have DB1 := Lib.hid db
          have hbB := Lib.hid ob
          have hsB : Hid (SB wB w5.heap.size u0 v0 u1 v1 true) := (ob.block _ (Ne.symm (Nat.ne_of_lt (Nat.lt_of_lt_of_le hf.out.X.lt b5.out.size)))).trans hsA.out
          clear db ob k0 k1 k2 k3 k4
          obtain ⟨k0, k1, k2, k3, k4⟩ := hsB.out.cells
          go_wp2_with fail
          refine (D2.out _ hfB.out).mono ?_
          rintro e wC ⟨rfl, db, ob⟩
          have DB2 := Lib.hid db
          have hbC := Lib.hid ob
          have DB3 := Lib.hid (DB1.out.keep (ob.block _ hf.out.XY))
          have T1 := Lib.hid (DB3.out.trim (by omega))
          have T2 := Lib.hid (DB2.out.trim (by omega))
          have HF9 := Lib.hid (hfA.out.lehmer (k := 0) hbB.out hbC.out DB1.out.nb DB2.out.nb)
          have HB9 : Hid (Below gx w wC) := hbC.out.below (hbB.out.below (HB6.out.trans (hbA.out.mono HSZ6.out)) hg.out.2.2.1) hg.out.2.2.2
          have HNUM : Hid (numW wC (.slice (some ⟨gX', 0, none⟩) (Nm.dg W p).length N) + numW wC (.slice (some ⟨gY', 0, none⟩) (Nm.dg W q).length N) < numW wz (.slice (some ⟨gx', 0, none⟩) lm N) + numW wz (.slice (some ⟨gy', 0, none⟩) ln N)) := by
            show _ < _
            rw [numW_eq (HF9.out.x.rd (by omega)), numW_eq (HF9.out.y.rd (by omega)), ← hlm, ← hln, numW_eq (hf.out.x.rd (by omega)), numW_eq (hf.out.y.rd (by omega))]
            omega
          clear db ob k0 k1 k2 k3 k4 D1 D2 DB1 DB2 hbB hbC
          go_wp2_with fail
          refine T1.out.mono ?_
          rintro e w' ⟨rfl, rfl⟩
          go_wp2_with fail
          refine T2.out.mono ?_
          rintro e w' ⟨rfl, rfl⟩
          go_wp2
          go_roundw
          case rel => exact ⟨_, gX', gY', gx', gy', p, q, lm, ln, rfl, rfl, rfl, rfl, rfl, hfx, hfy, HF9, ⟨hg.out.2.2.1, hg.out.2.2.2, hg.out.1, hg.out.2.1⟩, ⟨hgg.trans hgc.out.1, hqp⟩, HB9⟩
          case measure => exact HNUM.out
        | false =>
          simp only [Bool.false_eq_true, if_false] at hs
          have D1 := Lib.hid (fun wA (h : Four wA N gx' gy' gX' gY' m n) => diff_nb (g := gX') (ga := gy') (gb := gx') (k := lm) (u := v0) (v := u0) (D := p) h.y h.x h.X h.yX h.xX (by omega) (by omega) hfx (by omega) (by rw [Nat.mul_comm, Nat.mul_comm n]; exact hs.1) HPW.out bv0 bu0)
          have D2 := Lib.hid (fun wA (h : Four wA N gx' gy' gX' gY' m n) => diff_nb (g := gY') (ga := gx') (gb := gy') (k := lm) (u := u1) (v := v1) (D := q) h.x h.y h.Y h.xY h.yY (by omega) (by omega) hfx (by omega) (by rw [Nat.mul_comm, Nat.mul_comm m]; exact hs.2) HQW.out bu1 bv1)
          rw [hlm, hln] at D1 D2
          clear hs hst
          go_wp2_with fail
          go_quiet (fail)
          obtain ⟨wA, hwA⟩ : ∃ wA : World, wA = w6.drewN nq := ⟨_, rfl⟩
          have hfA : Hid (Four wA N gx' gy' gX' gY' m n) := by rw [hwA]; exact HF6.out.drewN nq
          have hbA : Hid (Below w6.heap.size w6 wA) := by rw [hwA]; exact belowDrewN (Below.refl _ _) nq
          have hsA : Hid (SB wA w5.heap.size u0 v0 u1 v1 false) := by rw [hwA]; exact hs6.out
          rw [← hwA]
          have HwA := Lib.hid hwA
          clear hwA k1
          obtain ⟨k0, k1, k2, k3, k4⟩ := hsA.out.cells
          go_wp2_with fail
          refine (D1.out _ hfA.out).mono ?_
          rintro e wB ⟨rfl, db, ob⟩
          have hfB := Lib.hid (hfA.out.wroteX ob db.nb.fb)
          have DB1 := Lib.hid db
          have hbB := Lib.hid ob
          have hsB : Hid (SB wB w5.heap.size u0 v0 u1 v1 false) := (ob.block _ (Ne.symm (Nat.ne_of_lt (Nat.lt_of_lt_of_le hf.out.X.lt b5.out.size)))).trans hsA.out
          clear db ob k0 k1 k2 k3 k4
          obtain ⟨k0, k1, k2, k3, k4⟩ := hsB.out.cells
          go_wp2_with fail
          refine (D2.out _ hfB.out).mono ?_
          rintro e wC ⟨rfl, db, ob⟩
          have DB2 := Lib.hid db
          have hbC := Lib.hid ob
          have DB3 := Lib.hid (DB1.out.keep (ob.block _ hf.out.XY))
          have T1 := Lib.hid (DB3.out.trim (by omega))
          have T2 := Lib.hid (DB2.out.trim (by omega))
          have HF9 := Lib.hid (hfA.out.lehmer (k := 0) hbB.out hbC.out DB1.out.nb DB2.out.nb)
          have HB9 : Hid (Below gx w wC) := hbC.out.below (hbB.out.below (HB6.out.trans (hbA.out.mono HSZ6.out)) hg.out.2.2.1) hg.out.2.2.2
          have HNUM : Hid (numW wC (.slice (some ⟨gX', 0, none⟩) (Nm.dg W p).length N) + numW wC (.slice (some ⟨gY', 0, none⟩) (Nm.dg W q).length N) < numW wz (.slice (some ⟨gx', 0, none⟩) lm N) + numW wz (.slice (some ⟨gy', 0, none⟩) ln N)) := by
            show _ < _
            rw [numW_eq (HF9.out.x.rd (by omega)), numW_eq (HF9.out.y.rd (by omega)), ← hlm, ← hln, numW_eq (hf.out.x.rd (by omega)), numW_eq (hf.out.y.rd (by omega))]
            omega
          clear db ob k0 k1 k2 k3 k4 D1 D2 DB1 DB2 hbB hbC
          go_wp2_with fail
          refine T1.out.mono ?_
          rintro e w' ⟨rfl, rfl⟩
          go_wp2_with fail
          refine T2.out.mono ?_
          rintro e w' ⟨rfl, rfl⟩
          go_wp2
          go_roundw
          case rel => exact ⟨_, gX', gY', gx', gy', p, q, lm, ln, rfl, rfl, rfl, rfl, rfl, hfx, hfy, HF9, ⟨hg.out.2.2.1, hg.out.2.2.2, hg.out.1, hg.out.2.1⟩, ⟨hgg.trans hgc.out.1, hqp⟩, HB9⟩
          case measure => exact HNUM.out
    · have h1' : ¬ (1 : Int) < (ln : Int) := by omega
      have HE : Hid (RedPost G w (.returned (.tuple #[.slice (some ⟨gx', 0, none⟩) lm N, .slice (some ⟨gy', 0, none⟩) ln N])) wz) := by
        have e3 := hf.out.x.rd (by omega)
        have e4 := hf.out.y.rd (by omega)
        rw [hlm] at e3
        rw [hln] at e4
        exact ⟨_, _, m, n, rfl, e3, e4, hgc.out.1, by omega, hgc.out.2, by omega, by rw [HGX.out]; exact hbl.out⟩
      go_wp2
      go_ret2
      exact HE.out
end Go.Proofs.YtepddegphdlbeaaGreat

/- The function wide.commonDivisor for any two magnitudes. -/
namespace Go.Proofs.YtepddegphdlbeaaGreat
open Go.RowKit

set_option maxRecDepth 100000 in
set_option maxHeartbeats 2000000 in
theorem commonDivisor_big (v1 v2 : Value) (m n : Nat) (w : World) (sw : Bool) (h1 : Rd w v1 (Nm.dg W m)) (h2 : Rd w v2 (Nm.dg W n)) (l1 : (Nm.dg W m).length ≤ 900000000) (hm : n ≤ m) (hsw : sw = true → n < m) (hn : 1 < (Nm.dg W n).length) :
    Calls Tryz.prog 143 (if sw = true then #[v2, v1] else #[v1, v2]) w (Gives (Nat.gcd m n) w) := by
  have l2 := dgW_mono hm
  have HC1 := compareLimbs_any v1 v2 _ _ w h1 h2 (by omega) (by omega) (Nm.dig_dg W2 m) (Nm.dig_dg W2 n) (Nm.nrm_dg W2 m) (Nm.nrm_dg W2 n)
  have HC2 := compareLimbs_any v2 v1 _ _ w h2 h1 (by omega) (by omega) (Nm.dig_dg W2 n) (Nm.dig_dg W2 m) (Nm.nrm_dg W2 n) (Nm.nrm_dg W2 m)
  rw [Nm.val_dg W2, Nm.val_dg W2] at HC1 HC2
  have HRP := Lib.hid (fun k => reducePair_any v1 v2 m n (w.drewN k) (h1.drewN k) (h2.drewN k) hm l1)
  obtain ⟨p1, b1, o1, c1, rfl, hr1⟩ := h1
  obtain ⟨p2, b2, o2, c2, rfl, hr2⟩ := h2
  have l3 := dgW_mono hm
  clear hr1 hr2
  generalize Nat.gcd m n = G at *
  have Hcc0 : Hid (∃ cc : Int, ((sw = true ∧ cc < 0) ∨ (sw = false ∧ 0 ≤ cc)) ∧ Calls Tryz.prog 151 (if sw = true then #[.slice p2 (Nm.dg W n).length c2, .slice p1 (Nm.dg W m).length c1] else #[.slice p1 (Nm.dg W m).length c1, .slice p2 (Nm.dg W n).length c2]) w (CmpPost cc w)) := by
    cases sw with
    | false => exact ⟨_, Or.inr ⟨rfl, cmpN_ge hm⟩, HC1⟩
    | true => exact ⟨_, Or.inl ⟨rfl, by rw [cmpN_lt (hsw rfl)]; decide⟩, HC2⟩
  clear HC1 HC2 hm hsw
  generalize (Nm.dg W m).length = lm at *
  generalize (Nm.dg W n).length = ln at *
  obtain ⟨cc, hcc, hcall⟩ := Hcc0.out
  clear Hcc0 l2 l3
  have HC := Lib.hid hcall
  clear hcall
  have hn2 : (1 : Int) < (ln : Int) := by omega
  rcases hcc with ⟨rfl, hcc⟩ | ⟨rfl, hcc⟩
  · simp only [if_true] at HC ⊢
    go_enter Tryz.func143, Tryz.ntmps143
    go_wp2_with fail
    refine HC.out.mono ?_
    rintro e w' ⟨rfl, k, rfl⟩
    go_wp2_with fail
    refine (HRP.out k).mono ?_
    rintro e w6 ⟨va, vb, m', n', rfl, ha, hb, hg, hl, hle, hlm, hbl⟩
    have HA := Lib.hid ha
    have hbb := Lib.hid hbl
    have HBl : Hid (Below w.heap.size w w6) := (belowDrewN (Below.refl _ _) k).trans hbl
    obtain ⟨pa, ba, oa, ca, rfl, hra⟩ := ha
    rcases Nat.eq_zero_or_pos n' with h0 | h0
    · subst h0
      rw [Nat.gcd_zero_right] at hg
      subst hg
      rw [Nm.dg_zero] at hb
      obtain ⟨pb, bb, ob, cb, rfl, hrb⟩ := hb
      clear hrb hra hbl hle hl hlm
      go_wp2
      go_ret
      exact ⟨_, rfl, HA.out, HBl.out⟩
    · have hn' : n' < W := by
        have h3 := Nm.val_lt (Nm.dig_dg W2 n')
        rw [Nm.val_dg W2] at h3
        have h4 : W ^ (Nm.dg W n').length ≤ W ^ 1 := Nat.pow_le_pow_right W0 hl
        rw [Nat.pow_one] at h4
        omega
      have HRm := Lib.hid (fun W' (hb : Below w6.heap.size w6 W') => remainderWord_any _ _ n' W' (HA.out.below hb (Nat.le_refl _)) (by omega) (Nm.dig_dg W2 m') hn' h0)
      rw [Nm.val_dg W2] at HRm
      have hmod := Nat.mod_lt m' h0
      have HCw := Lib.hid (fun W' => commonWord_any n' (m' % n') W' hn' (Nat.lt_trans hmod hn'))
      have hgcd : Nat.gcd n' (m' % n') = G := by rw [Nat.gcd_comm n', ← Nat.gcd_rec, Nat.gcd_comm]; exact hg
      rw [hgcd] at HCw
      have hg0 : G ≠ 0 := fun h => by rw [← hg] at h; have := Nat.eq_zero_of_gcd_eq_zero_right h; omega
      have hgW : G < W := by rw [← hg]; exact Nat.lt_of_le_of_lt (Nat.gcd_le_right m' h0) hn'
      have HD := Lib.hid (dg_one hg0 hgW)
      rw [dg_one (by omega) hn'] at hb
      obtain ⟨p3, b3, o3, c3, rfl, _, _, hp3, _, hx3⟩ := hb
      obtain rfl := hp3 (by simp)
      have e3 := hx3 0 (by simp)
      simp only [List.getElem_cons_zero, Nat.add_zero, List.length_singleton] at e3
      simp only [List.length_singleton]
      generalize m' % n' = rm at *
      clear hp3 hx3 hgcd hg0 hgW hmod hra hbl hg hle hl hlm HC HRP
      generalize (Nm.dg W m').length = lm' at *
      go_wp2_with fail
      go_region_held3 (fun W' => W'.cell? ⟨b3, o3, none⟩ = some (.int .u64 (n' : Int))) (go_keep)
        (first
          | (go_at_call 156; (with_reducible refine (HRm.out _ ?_).mono ?_); (exact belowDrewN (Below.refl _ _) _); rintro e w1 ⟨rfl, n1, rfl⟩)
          | (go_at_call 155; (with_reducible refine (HCw.out _).mono ?_); rintro e w1 ⟨rfl, n1, rfl⟩))
      go_wp2
      go_ret
      exact ⟨_, rfl, by rw [HD.out]; exact Rd.one (w6.drewN _) G, (belowDrewN HBl.out _).alloc (by have := HBl.out.size; exact this) _⟩
  · simp only [Bool.false_eq_true, if_false] at HC ⊢
    go_enter Tryz.func143, Tryz.ntmps143
    go_wp2_with fail
    refine HC.out.mono ?_
    rintro e w' ⟨rfl, k, rfl⟩
    go_wp2_with fail
    refine (HRP.out k).mono ?_
    rintro e w6 ⟨va, vb, m', n', rfl, ha, hb, hg, hl, hle, hlm, hbl⟩
    have HA := Lib.hid ha
    have hbb := Lib.hid hbl
    have HBl : Hid (Below w.heap.size w w6) := (belowDrewN (Below.refl _ _) k).trans hbl
    obtain ⟨pa, ba, oa, ca, rfl, hra⟩ := ha
    rcases Nat.eq_zero_or_pos n' with h0 | h0
    · subst h0
      rw [Nat.gcd_zero_right] at hg
      subst hg
      rw [Nm.dg_zero] at hb
      obtain ⟨pb, bb, ob, cb, rfl, hrb⟩ := hb
      clear hrb hra hbl hle hl hlm
      go_wp2
      go_ret
      exact ⟨_, rfl, HA.out, HBl.out⟩
    · have hn' : n' < W := by
        have h3 := Nm.val_lt (Nm.dig_dg W2 n')
        rw [Nm.val_dg W2] at h3
        have h4 : W ^ (Nm.dg W n').length ≤ W ^ 1 := Nat.pow_le_pow_right W0 hl
        rw [Nat.pow_one] at h4
        omega
      have HRm := Lib.hid (fun W' (hb : Below w6.heap.size w6 W') => remainderWord_any _ _ n' W' (HA.out.below hb (Nat.le_refl _)) (by omega) (Nm.dig_dg W2 m') hn' h0)
      rw [Nm.val_dg W2] at HRm
      have hmod := Nat.mod_lt m' h0
      have HCw := Lib.hid (fun W' => commonWord_any n' (m' % n') W' hn' (Nat.lt_trans hmod hn'))
      have hgcd : Nat.gcd n' (m' % n') = G := by rw [Nat.gcd_comm n', ← Nat.gcd_rec, Nat.gcd_comm]; exact hg
      rw [hgcd] at HCw
      have hg0 : G ≠ 0 := fun h => by rw [← hg] at h; have := Nat.eq_zero_of_gcd_eq_zero_right h; omega
      have hgW : G < W := by rw [← hg]; exact Nat.lt_of_le_of_lt (Nat.gcd_le_right m' h0) hn'
      have HD := Lib.hid (dg_one hg0 hgW)
      rw [dg_one (by omega) hn'] at hb
      obtain ⟨p3, b3, o3, c3, rfl, _, _, hp3, _, hx3⟩ := hb
      obtain rfl := hp3 (by simp)
      have e3 := hx3 0 (by simp)
      simp only [List.getElem_cons_zero, Nat.add_zero, List.length_singleton] at e3
      simp only [List.length_singleton]
      generalize m' % n' = rm at *
      clear hp3 hx3 hgcd hg0 hgW hmod hra hbl hg hle hl hlm HC HRP
      generalize (Nm.dg W m').length = lm' at *
      go_wp2_with fail
      go_region_held3 (fun W' => W'.cell? ⟨b3, o3, none⟩ = some (.int .u64 (n' : Int))) (go_keep)
        (first
          | (go_at_call 156; (with_reducible refine (HRm.out _ ?_).mono ?_); (exact belowDrewN (Below.refl _ _) _); rintro e w1 ⟨rfl, n1, rfl⟩)
          | (go_at_call 155; (with_reducible refine (HCw.out _).mono ?_); rintro e w1 ⟨rfl, n1, rfl⟩))
      go_wp2
      go_ret
      exact ⟨_, rfl, by rw [HD.out]; exact Rd.one (w6.drewN _) G, (belowDrewN HBl.out _).alloc (by have := HBl.out.size; exact this) _⟩

/-- The common divisor of any two magnitudes. -/
theorem gcdOK_any (m n : Nat) (l1 : (Nm.dg W m).length ≤ 900000000) (l2 : (Nm.dg W n).length ≤ 900000000) : GcdOK m n := by
  by_cases h : m < W ∨ n < W
  · exact gcdOK_small m n h (by omega) (by omega)
  · intro v1 v2 w h1 h2
    have big : ∀ k, ¬ k < W → 1 < (Nm.dg W k).length := fun k hk => by
      rcases Nat.lt_or_ge 1 (Nm.dg W k).length with g | g
      · exact g
      · have h3 := Nm.val_lt (Nm.dig_dg W2 k)
        rw [Nm.val_dg W2] at h3
        have h4 : W ^ (Nm.dg W k).length ≤ W ^ 1 := Nat.pow_le_pow_right W0 g
        rw [Nat.pow_one] at h4
        omega
    rcases Nat.lt_or_ge m n with g | g
    · rw [Nat.gcd_comm]
      exact commonDivisor_big v2 v1 n m w true h2 h1 l2 (Nat.le_of_lt g) (fun _ => g) (big m (by omega))
    · exact commonDivisor_big v1 v2 m n w false h1 h2 l1 g (fun h => by cases h) (big n (by omega))
end Go.Proofs.YtepddegphdlbeaaGreat

/- Products, quotients and common divisors of short wide integers, as integers. -/
namespace Go.Proofs.YtepddegphdlbeaaGreat
open Go.RowKit

theorem sg_mul2 (a b : Bool) (m n : Nat) : sg (a != b) (m * n) = sg a m * sg b n := by
  cases a <;> cases b <;> simp [sg, Int.neg_mul, Int.mul_neg]
theorem sg_zero_iff {b : Bool} {n : Nat} : sg b n = 0 ↔ n = 0 := by unfold sg; split <;> omega
theorem er1_sg {a b : Bool} {m n : Nat} (h0 : 0 < n) : sg false (er1 a m n) = sg a m % sg b n := by
  have hr := Nat.mod_lt m h0
  have hdm := Nat.div_add_mod m n
  have hn : sg a m % sg b n = sg a m % (n : Int) := by
    cases b with
    | false => rfl
    | true => show sg a m % (-(n : Int)) = _; rw [Int.emod_neg]
  rw [hn]
  unfold er1
  cases a with
  | false =>
    rw [if_neg (by simp)]
    simp [sg]
  | true =>
    by_cases hz : m % n = 0
    · rw [if_neg (by simp [hz])]
      show ((m % n : Nat) : Int) = (-(m : Int)) % (n : Int)
      rw [hz]
      have : (n : Int) ∣ -(m : Int) := Int.dvd_neg.2 (Int.natCast_dvd_natCast.2 (Nat.dvd_of_mod_eq_zero hz))
      rw [Int.emod_eq_zero_of_dvd this]; rfl
    · rw [if_pos ⟨rfl, hz⟩]
      show ((n - m % n : Nat) : Int) = (-(m : Int)) % (n : Int)
      have e : -(m : Int) = ((n - m % n : Nat) : Int) + (n : Int) * (-((m / n + 1 : Nat) : Int)) := by
        have h1 : (n : Int) * (-((m / n + 1 : Nat) : Int)) = -((n * (m / n) : Nat) : Int) - n := by push_cast; grind
        rw [h1]; omega
      rw [e, Int.add_mul_emod_self_left, Int.emod_eq_of_lt (by omega) (by omega)]
theorem eq1_sg {a b : Bool} {m n : Nat} (h0 : 0 < n) : sg (a != b) (eq1 a m n) = sg a m / sg b n := by
  have hr := Nat.mod_lt m h0
  have hdm := Nat.div_add_mod m n
  have key : sg a m / (n : Int) = sg a (eq1 a m n) := by
    unfold eq1
    cases a with
    | false =>
      rw [if_neg (by simp)]
      simp [sg]
    | true =>
      by_cases hz : m % n = 0
      · rw [if_neg (by simp [hz])]
        show (-(m : Int)) / (n : Int) = -((m / n : Nat) : Int)
        have e : -(m : Int) = (n : Int) * (-((m / n : Nat) : Int)) := by
          rw [Int.mul_neg, ← Int.natCast_mul]; omega
        rw [e, Int.mul_ediv_cancel_left _ (by omega)]
      · rw [if_pos ⟨rfl, hz⟩]
        show (-(m : Int)) / (n : Int) = -((m / n + 1 : Nat) : Int)
        have e : -(m : Int) = ((n - m % n : Nat) : Int) + (n : Int) * (-((m / n + 1 : Nat) : Int)) := by
          have h1 : (n : Int) * (-((m / n + 1 : Nat) : Int)) = -((n * (m / n) : Nat) : Int) - n := by push_cast; grind
          rw [h1]; omega
        rw [e, Int.add_mul_ediv_left _ _ (by omega), Int.ediv_eq_zero_of_lt (by omega) (by omega), Int.zero_add]
  cases b with
  | false =>
    show sg (a != false) _ = sg a m / (n : Int)
    rw [key]; cases a <;> rfl
  | true =>
    show sg (a != true) _ = sg a m / (-(n : Int))
    rw [Int.ediv_neg, key]
    cases a <;> simp [sg]

/-- Sizes. -/
theorem fits_k {n k : Nat} (hk : k ≤ 8192) (h : n < 256 ^ k) : n < Top ∧ (Nm.dg D9 n).length ≤ 100000 := ⟨lt_topk (by omega) h, Nat.le_trans (dg9_256 h) (by omega)⟩
theorem quo_z {a b : Bool} {s t : ByteArray} (h1 : vld a s = true) (h2 : vld b t = true) (h0 : sg b (bv t) ≠ 0) (w : World) :
    Calls Tryz.prog 144 #[.agg #[.bool a, .string s], .agg #[.bool b, .string t]] w fun e w' => e = .returned (.tuple #[.agg #[.bool (zb (sg a (bv s) / sg b (bv t))), .string (zs (sg a (bv s) / sg b (bv t)))], .agg #[.bool (zb (sg a (bv s) % sg b (bv t))), .string (zs (sg a (bv s) % sg b (bv t)))], .int .i64 0]) ∧ Below w.heap.size w w' := by
  have hn : 0 < bv t := by
    rcases Nat.eq_zero_or_pos (bv t) with g | g
    · exact absurd (sg_zero_iff.2 g) h0
    · exact g
  have h := Quo_valid a b s t w (divOK_any _ _ hn (Nat.le_trans (len_top (bv_lt h1)) (by decide)) (Nat.le_trans (len_top (bv_lt h2)) (by decide))) h1 h2 hn
  unfold Q3Post at h
  rwa [wd_sg, wd_sg, eq1_sg hn, er1_sg (b := b) hn] at h
theorem gcd_z {a b : Bool} {s t : ByteArray} (h1 : vld a s = true) (h2 : vld b t = true) (w : World) :
    Calls Tryz.prog 127 #[.agg #[.bool a, .string s], .agg #[.bool b, .string t]] w fun e w' => e = .returned (.tuple #[.agg #[.bool (zb (Nat.gcd (sg a (bv s)).natAbs (sg b (bv t)).natAbs : Nat)), .string (zs (Nat.gcd (sg a (bv s)).natAbs (sg b (bv t)).natAbs : Nat))], .int .i64 0]) ∧ Below w.heap.size w w' := by
  have h := GCD_valid a b s t w (gcdOK_any _ _ (Nat.le_trans (len_top (bv_lt h1)) (by decide)) (Nat.le_trans (len_top (bv_lt h2)) (by decide))) h1 h2
  have ht := gcd_top (bv_lt h1) (bv_lt h2)
  unfold WPost at h
  rw [wres_ok _ ht, werr_ok ht, wd_sg] at h
  rw [sg_abs, sg_abs]
  exact h
end Go.Proofs.YtepddegphdlbeaaGreat

/- wide's functions in terms of integers: what goes in and what comes out are the wide integers of integers. -/
namespace Go.Proofs.YtepddegphdlbeaaGreat
open Go.RowKit

theorem zvt {z : Int} (h : z.natAbs < Top) : vld (zb z) (zs z) = true := zb_zs_valid h
theorem sgzz (z : Int) : sg (zb z) (bv (zs z)) = z := by rw [bv_zs]; exact sg_z z
theorem zz_add (x y : Int) (w : World) (hx : x.natAbs < Top) (hy : y.natAbs < Top) (h : (x + y).natAbs < Top) :
    Calls Tryz.prog 120 #[Z x, Z y] w (Ret (.tuple #[Z (x + y), .int .i64 0]) w) := by
  have h1 := Add_valid (zb x) (zb y) (zs x) (zs y) w (zvt hx) (zvt hy)
  have e : (pls (zb x) (bv (zs x)) (zb y) (bv (zs y))).2 = (x + y).natAbs := by
    rw [← sg_abs (pls (zb x) (bv (zs x)) (zb y) (bv (zs y))).1 (pls (zb x) (bv (zs x)) (zb y) (bv (zs y))).2, pls_sg, sgzz, sgzz]
  have ht : (pls (zb x) (bv (zs x)) (zb y) (bv (zs y))).2 < Top := by rw [e]; exact h
  unfold WPost at h1
  rw [wres_ok _ ht, werr_ok ht, wd_sg, pls_sg, sgzz, sgzz] at h1
  exact h1
theorem zz_sub (x y : Int) (w : World) (hx : x.natAbs < Top) (hy : y.natAbs < Top) (h : (x - y).natAbs < Top) :
    Calls Tryz.prog 121 #[Z x, Z y] w (Ret (.tuple #[Z (x - y), .int .i64 0]) w) := by
  have h1 := Sub_valid (zb x) (zb y) (zs x) (zs y) w (zvt hx) (zvt hy)
  have e : (pls (zb x) (bv (zs x)) (!(zb y)) (bv (zs y))).2 = (x - y).natAbs := by
    rw [← sg_abs (pls (zb x) (bv (zs x)) (!(zb y)) (bv (zs y))).1 (pls (zb x) (bv (zs x)) (!(zb y)) (bv (zs y))).2, pls_sg, sg_not, sgzz, sgzz, Int.sub_eq_add_neg]
  have ht : (pls (zb x) (bv (zs x)) (!(zb y)) (bv (zs y))).2 < Top := by rw [e]; exact h
  unfold WPost at h1
  rw [wres_ok _ ht, werr_ok ht, wd_sg, pls_sg, sg_not, sgzz, sgzz, ← Int.sub_eq_add_neg] at h1
  exact h1
theorem zz_mul (x y : Int) (w : World) (hx : x.natAbs < Top) (hy : y.natAbs < Top) (h : (x * y).natAbs < Top) :
    Calls Tryz.prog 126 #[Z x, Z y] w (Ret (.tuple #[Z (x * y), .int .i64 0]) w) := by
  have h1 := Mul_valid (zb x) (zb y) (zs x) (zs y) w (zvt hx) (zvt hy)
  have ht : bv (zs x) * bv (zs y) < Top := by rw [bv_zs, bv_zs, ← Int.natAbs_mul]; exact h
  unfold WPost at h1
  rw [wres_ok _ ht, werr_ok ht, wd_sg, sg_mul2, sgzz, sgzz] at h1
  exact h1
theorem zz_quo (x y : Int) (w : World) (hx : x.natAbs < Top) (hy : y.natAbs < Top) (h0 : y ≠ 0) :
    Calls Tryz.prog 144 #[Z x, Z y] w (Ret (.tuple #[Z (x / y), Z (x % y), .int .i64 0]) w) := by
  have h := quo_z (zvt hx) (zvt hy) (by rw [sgzz]; exact h0) w
  rw [sgzz, sgzz] at h
  exact h
theorem zz_sign (x : Int) (w : World) (hx : x.natAbs < Top) : Calls Tryz.prog 70 #[Z x] w (Ret (.int .i64 x.sign) w) := by
  have h := Sign_any (zb x) (zs x) w (Nat.le_trans (vld_size (zvt hx)) (by decide))
  rw [sgV_sg (zvt hx), sgzz] at h
  exact h
end Go.Proofs.YtepddegphdlbeaaGreat

/- Plain facts on polynomials with integer coefficients: lists of integers, the lowest power first. -/
namespace Go.Proofs.YtepddegphdlbeaaGreat.Pl

/-- A coefficient, 0 beyond the list. -/
def cf (p : List Int) (k : Nat) : Int := p[k]?.getD 0
/-- The value at an integer. -/
def ev : List Int → Int → Int
  | [], _ => 0
  | a :: p, x => a + x * ev p x
def trim : List Int → List Int
  | [] => []
  | a :: p => match trim p with
    | [] => if a = 0 then [] else [a]
    | b :: l => a :: b :: l
/-- The last coefficient is not 0. -/
def Nrm (p : List Int) : Prop := ∀ h : 0 < p.length, p[p.length - 1] ≠ 0
def scl (c : Int) (p : List Int) : List Int := p.map (c * ·)
def add : List Int → List Int → List Int
  | [], q => q
  | a :: p, [] => a :: p
  | a :: p, b :: q => (a + b) :: add p q
def mul : List Int → List Int → List Int
  | [], _ => []
  | a :: p, q => add (scl a q) (0 :: mul p q)

theorem cf_nil (k : Nat) : cf [] k = 0 := by simp [cf]
theorem cf_cons_zero (a : Int) (p : List Int) : cf (a :: p) 0 = a := by simp [cf]
theorem cf_cons_succ (a : Int) (p : List Int) (k : Nat) : cf (a :: p) (k + 1) = cf p k := by simp [cf]
theorem cf_lt {p : List Int} {k : Nat} (h : k < p.length) : cf p k = p[k] := by simp [cf, List.getElem?_eq_getElem h]
theorem cf_ge {p : List Int} {k : Nat} (h : p.length ≤ k) : cf p k = 0 := by simp [cf, List.getElem?_eq_none h]
theorem ext_cf {p q : List Int} (hl : p.length = q.length) (h : ∀ k, k < p.length → cf p k = cf q k) : p = q := by
  apply List.ext_getElem hl
  intro k h1 h2
  have := h k h1
  rwa [cf_lt h1, cf_lt h2] at this
theorem cf_map_range (f : Nat → Int) (n k : Nat) : cf ((List.range n).map f) k = if k < n then f k else 0 := by
  by_cases h : k < n
  · rw [cf_lt (by simpa using h), if_pos h]; simp
  · rw [cf_ge (by simpa using h), if_neg h]

theorem trim_length (p : List Int) : (trim p).length ≤ p.length := by
  induction p with
  | nil => simp [trim]
  | cons a p ih =>
    simp only [trim]
    split
    · split <;> simp
    · next h => rw [h] at ih; simpa using ih
theorem cf_trim (p : List Int) (k : Nat) : cf (trim p) k = cf p k := by
  induction p generalizing k with
  | nil => rfl
  | cons a p ih =>
    simp only [trim]
    split
    · next h =>
      have h0 : ∀ j, cf p j = 0 := fun j => by rw [← ih, h]; exact cf_nil j
      split
      · next h1 => cases k with
        | zero => rw [cf_nil, cf_cons_zero, h1]
        | succ k => rw [cf_nil, cf_cons_succ, h0]
      · cases k with
        | zero => rw [cf_cons_zero, cf_cons_zero]
        | succ k => rw [cf_cons_succ, cf_cons_succ, h0, cf_nil]
    · next b l h =>
      cases k with
      | zero => rw [cf_cons_zero, cf_cons_zero]
      | succ k => rw [cf_cons_succ, cf_cons_succ, ← ih, h]
theorem nrm_nil : Nrm [] := fun h => absurd h (by simp)
theorem nrm_cons {a b : Int} {l : List Int} (h : Nrm (b :: l)) : Nrm (a :: b :: l) := by
  intro _
  have := h (by simp)
  simpa using this
theorem nrm_trim (p : List Int) : Nrm (trim p) := by
  induction p with
  | nil => exact nrm_nil
  | cons a p ih =>
    simp only [trim]
    split
    · split
      · exact nrm_nil
      · next h => intro _; simpa using h
    · next b l h => rw [h] at ih; exact nrm_cons ih
theorem nrm_cf {p : List Int} (h : Nrm p) (h0 : 0 < p.length) : cf p (p.length - 1) ≠ 0 := by
  rw [cf_lt (by omega)]; exact h h0
/-- A list without zeros at the end is told by its coefficients. -/
theorem nrm_ext {p q : List Int} (hp : Nrm p) (hq : Nrm q) (h : ∀ k, cf p k = cf q k) : p = q := by
  have hl : p.length = q.length := by
    rcases Nat.lt_trichotomy p.length q.length with g | g | g
    · exact absurd ((h _).symm.trans (cf_ge (by omega))) (nrm_cf hq (by omega))
    · exact g
    · exact absurd ((h _).trans (cf_ge (by omega))) (nrm_cf hp (by omega))
  exact ext_cf hl fun k _ => h k
theorem trim_nrm {p : List Int} (h : Nrm p) : trim p = p := nrm_ext (nrm_trim p) h (cf_trim p)
theorem trim_ext {p q : List Int} (h : ∀ k, cf p k = cf q k) : trim p = trim q :=
  nrm_ext (nrm_trim p) (nrm_trim q) fun k => by rw [cf_trim, cf_trim, h]
theorem trim_take {p : List Int} {k : Nat} (hk : k ≤ p.length) (hz : ∀ i (h : i < p.length), k ≤ i → p[i] = 0) (hn : Nrm (p.take k)) : trim p = p.take k := by
  apply nrm_ext (nrm_trim p) hn
  intro j
  rw [cf_trim]
  by_cases h : j < k
  · rw [cf_lt (by omega), cf_lt (by simp; omega)]; simp
  · rw [cf_ge (p := p.take k) (by simp; omega)]
    by_cases h2 : j < p.length
    · rw [cf_lt h2]; exact hz j h2 (by omega)
    · exact cf_ge (by omega)
theorem nrm_take_last {p : List Int} {j : Nat} (hj : j < p.length) (hx : p[j] ≠ 0) : Nrm (p.take (j + 1)) := by
  intro h
  have : (p.take (j + 1)).length - 1 = j := by simp; omega
  simp only [this]
  simpa using hx
theorem cf_scl (c : Int) (p : List Int) (k : Nat) : cf (scl c p) k = c * cf p k := by
  unfold cf scl
  rw [List.getElem?_map]
  cases p[k]? <;> simp
theorem scl_length (c : Int) (p : List Int) : (scl c p).length = p.length := by simp [scl]
theorem cf_add (p q : List Int) (k : Nat) : cf (add p q) k = cf p k + cf q k := by
  induction p generalizing q k with
  | nil => simp [add, cf_nil]
  | cons a p ih =>
    cases q with
    | nil => simp [add, cf_nil]
    | cons b q =>
      cases k with
      | zero => simp [add, cf_cons_zero]
      | succ k => simp only [add, cf_cons_succ]; exact ih q k
theorem add_length (p q : List Int) : (add p q).length = max p.length q.length := by
  induction p generalizing q with
  | nil => simp [add]
  | cons a p ih =>
    cases q with
    | nil => simp [add]
    | cons b q => simp [add, ih]
theorem mul_length (p q : List Int) (hp : p ≠ []) (hq : q ≠ []) : (mul p q).length = p.length + q.length - 1 := by
  induction p with
  | nil => exact absurd rfl hp
  | cons a p ih =>
    have hq1 : 0 < q.length := List.length_pos_iff.2 hq
    simp only [mul, add_length, scl_length, List.length_cons]
    cases p with
    | nil => simp [mul]; omega
    | cons b p => rw [ih (by simp)]; simp; omega
theorem ev_scl (c : Int) (p : List Int) (x : Int) : ev (scl c p) x = c * ev p x := by
  induction p with
  | nil => simp [scl, ev]
  | cons a p ih =>
    have : scl c (a :: p) = c * a :: scl c p := rfl
    rw [this, ev, ev, ih]; grind
/-- What the first i rows give to the coefficient k of a product. -/
def conv (p q : List Int) : Nat → Nat → Int
  | 0, _ => 0
  | i + 1, k => conv p q i k + (if i ≤ k then cf p i * cf q (k - i) else 0)
theorem conv_cons (a : Int) (p q : List Int) (i k : Nat) : conv (a :: p) q (i + 1) k = a * cf q k + (if k = 0 then 0 else conv p q i (k - 1)) := by
  induction i with
  | zero => simp [conv, cf_cons_zero]
  | succ i ih =>
    rw [conv, ih, cf_cons_succ]
    by_cases hk : k = 0
    · subst hk; simp
    · rw [if_neg hk, if_neg hk, conv]
      by_cases h : i + 1 ≤ k
      · rw [if_pos h, if_pos (by omega), show k - 1 - i = k - (i + 1) by omega]; omega
      · rw [if_neg h, if_neg (by omega)]; omega
theorem cf_mul (p q : List Int) (k : Nat) : cf (mul p q) k = conv p q p.length k := by
  induction p generalizing k with
  | nil => simp [mul, cf_nil, conv]
  | cons a p ih =>
    rw [List.length_cons, conv_cons, mul, cf_add, cf_scl]
    cases k with
    | zero => simp [cf_cons_zero]
    | succ k => rw [cf_cons_succ, ih]; simp
end Go.Proofs.YtepddegphdlbeaaGreat.Pl

namespace Go.Proofs.YtepddegphdlbeaaGreat.Pl

/-- Times a power of the variable. -/
def shift (m : Nat) (p : List Int) : List Int := List.replicate m 0 ++ p
theorem cf_shift (m : Nat) (p : List Int) (k : Nat) : cf (shift m p) k = if m ≤ k then cf p (k - m) else 0 := by
  unfold cf shift
  by_cases h : m ≤ k
  · rw [if_pos h, List.getElem?_append_right (by simpa using h)]; simp
  · rw [if_neg h, List.getElem?_append_left (by simp; omega), List.getElem?_replicate, if_pos (by omega)]; rfl
/-- The leading coefficient. -/
def lead (q : List Int) : Int := cf q (q.length - 1)
theorem lead_ne {q : List Int} (h : Nrm q) (h0 : q ≠ []) : lead q ≠ 0 := nrm_cf h (List.length_pos_iff.2 h0)

/-- One step of the pseudo-division: a times the rest, less c times q below the rest's last coefficient. -/
def step (a c : Int) (q r : List Int) : List Int :=
  (List.range (r.length - 1)).map fun i => a * cf r i - (if r.length - q.length ≤ i then c * cf q (i - (r.length - q.length)) else 0)
theorem step_length (a c : Int) (q r : List Int) : (step a c q r).length = r.length - 1 := by simp [step]
theorem cf_step (a c : Int) (q r : List Int) (k : Nat) : cf (step a c q r) k = if k < r.length - 1 then a * cf r k - (if r.length - q.length ≤ k then c * cf q (k - (r.length - q.length)) else 0) else 0 := cf_map_range _ _ _
theorem step_sum {a c : Int} {q r : List Int} (hq : 0 < q.length) (hl : q.length ≤ r.length) (ht : a * lead r = c * lead q) (k : Nat) :
    a * cf r k = cf (step a c q r) k + c * cf (shift (r.length - q.length) q) k := by
  rw [cf_step, cf_shift]
  by_cases h : k < r.length - 1
  · rw [if_pos h]
    split
    · omega
    · simp
  · rw [if_neg h]
    by_cases h2 : k = r.length - 1
    · subst h2
      rw [if_pos (by omega), show r.length - 1 - (r.length - q.length) = q.length - 1 by omega, Int.zero_add]
      exact ht
    · rw [cf_ge (p := r) (by omega)]
      split
      · rw [cf_ge (p := q) (by omega)]; simp
      · simp
/-- n steps of the pseudo-division by q. -/
def prem (q : List Int) : Nat → List Int → List Int
  | 0, r => r
  | n + 1, r => prem q n (step (lead q) (lead r) q r)
/-- The pseudo-remainder. -/
def rest (p q : List Int) : List Int := trim (prem q (p.length + 1 - q.length) p)
theorem prem_length (q : List Int) (n : Nat) (r : List Int) (h : n ≤ r.length) : (prem q n r).length = r.length - n := by
  induction n generalizing r with
  | zero => rfl
  | succ n ih => rw [prem, ih _ (by rw [step_length]; omega), step_length]; omega
theorem rest_short {p q : List Int} (hp : Nrm p) (h : p.length < q.length) : rest p q = p := by
  unfold rest
  rw [show p.length + 1 - q.length = 0 by omega]
  exact trim_nrm hp
theorem rest_nrm (p q : List Int) : Nrm (rest p q) := nrm_trim _
theorem rest_length {p q : List Int} (hq : 0 < q.length) : (rest p q).length < q.length := by
  unfold rest
  have h1 := trim_length (prem q (p.length + 1 - q.length) p)
  have h2 := prem_length q (p.length + 1 - q.length) p (by omega)
  omega
/-- g divides a multiple of p. -/
def Dv (g p : List Int) : Prop := ∃ c : Int, c ≠ 0 ∧ ∃ t : List Int, ∀ x, c * ev p x = ev t x * ev g x
theorem Dv.refl (g : List Int) : Dv g g := ⟨1, by decide, [1], fun x => by simp [ev]⟩
theorem Dv.nil (g : List Int) : Dv g [] := ⟨1, by decide, [], fun x => by simp [ev]⟩
theorem Dv.scl {g p : List Int} (c : Int) (h : Dv g p) : Dv g (scl c p) := by
  obtain ⟨d, hd, t, ht⟩ := h
  exact ⟨d, hd, Pl.scl c t, fun x => by rw [ev_scl, ev_scl]; have := ht x; grind⟩
/-- The division of the program and of the reference: from the highest coefficient down. -/
def dvs (q : List Int) : Nat → List Int → Option (List Int)
  | 0, r => if trim r = [] then some [] else none
  | n + 1, r => if lead r % lead q = 0 then (dvs q n (step 1 (lead r / lead q) q r)).map (· ++ [lead r / lead q]) else none
end Go.Proofs.YtepddegphdlbeaaGreat.Pl

namespace Go.Proofs.YtepddegphdlbeaaGreat.Pl

/-- The greatest common divisor of the coefficients. -/
def cont (p : List Int) : Nat := p.foldl (fun g a => Nat.gcd g a.natAbs) 0
theorem foldl_gcd_dvd (p : List Int) (g : Nat) : p.foldl (fun g a => Nat.gcd g a.natAbs) g ∣ g ∧ ∀ a ∈ p, p.foldl (fun g a => Nat.gcd g a.natAbs) g ∣ a.natAbs := by
  induction p generalizing g with
  | nil => exact ⟨Nat.dvd_refl g, fun a h => by cases h⟩
  | cons b p ih =>
    obtain ⟨h1, h2⟩ := ih (Nat.gcd g b.natAbs)
    refine ⟨Nat.dvd_trans h1 (Nat.gcd_dvd_left _ _), fun a ha => ?_⟩
    rcases List.mem_cons.1 ha with rfl | ha
    · exact Nat.dvd_trans h1 (Nat.gcd_dvd_right _ _)
    · exact h2 a ha
theorem foldl_gcd_mul (c : Nat) (p : List Int) (g : Nat) (s : Int) (hs : s.natAbs = c) : (scl s p).foldl (fun g a => Nat.gcd g a.natAbs) (c * g) = c * p.foldl (fun g a => Nat.gcd g a.natAbs) g := by
  induction p generalizing g with
  | nil => rfl
  | cons b p ih =>
    show (scl s p).foldl _ (Nat.gcd (c * g) (s * b).natAbs) = _
    rw [Int.natAbs_mul, hs, Nat.gcd_mul_left, ih]
    rfl
theorem cont_scl (s : Int) (p : List Int) : cont (scl s p) = s.natAbs * cont p := by
  have := foldl_gcd_mul s.natAbs p 0 s rfl
  rwa [Nat.mul_zero] at this
theorem cont_dvd {p : List Int} {a : Int} (h : a ∈ p) : (cont p : Int) ∣ a := Int.ofNat_dvd_left.2 ((foldl_gcd_dvd p 0).2 a h)
theorem cont_dvd_cf (p : List Int) (k : Nat) : (cont p : Int) ∣ cf p k := by
  by_cases h : k < p.length
  · rw [cf_lt h]; exact cont_dvd (List.getElem_mem h)
  · rw [cf_ge (by omega)]; exact Int.dvd_zero _
theorem cont_pos {p : List Int} (hp : Nrm p) (h0 : p ≠ []) : 0 < cont p := by
  rcases Nat.eq_zero_or_pos (cont p) with h | h
  · have := cont_dvd_cf p (p.length - 1)
    rw [h] at this
    exact absurd (Int.zero_dvd.1 this) (nrm_cf hp (List.length_pos_iff.2 h0))
  · exact h
/-- The primitive part. -/
def prim (p : List Int) : List Int := p.map (· / (cont p : Int))
theorem prim_length (p : List Int) : (prim p).length = p.length := by simp [prim]
theorem cf_prim (p : List Int) (k : Nat) : cf (prim p) k = cf p k / (cont p : Int) := by
  unfold cf prim
  rw [List.getElem?_map]
  cases p[k]? <;> simp
theorem scl_prim (p : List Int) : scl (cont p) (prim p) = p := by
  apply ext_cf (by simp [scl, prim])
  intro k _
  rw [cf_scl, cf_prim]
  exact Int.mul_ediv_cancel' (cont_dvd_cf p k)
theorem prim_nrm {p : List Int} (hp : Nrm p) : Nrm (prim p) := by
  intro h
  rw [prim_length] at h
  have h1 : cf (prim p) (p.length - 1) ≠ 0 := by
    intro e
    have h2 := congrArg (fun l => cf l (p.length - 1)) (scl_prim p)
    simp only [cf_scl] at h2
    rw [e, Int.mul_zero] at h2
    exact nrm_cf hp h h2.symm
  rw [cf_lt (by rw [prim_length]; omega)] at h1
  simpa [prim_length] using h1
theorem prim_scl {p : List Int} {c : Int} (hc : c ≠ 0) : prim (scl c p) = scl c.sign (prim p) := by
  apply ext_cf (by simp [scl, prim])
  intro k _
  rw [cf_prim, cf_scl, cf_scl, cf_prim, cont_scl]
  have e : c = c.sign * (c.natAbs : Int) := (Int.sign_mul_natAbs c).symm
  have hn : (c.natAbs : Int) ≠ 0 := by omega
  obtain ⟨d, hd⟩ := cont_dvd_cf p k
  have hcn : ((c.natAbs * cont p : Nat) : Int) = (c.natAbs : Int) * (cont p : Int) := by simp
  rw [hcn]
  have e5 : c * cf p k = c.sign * (c.natAbs : Int) * cf p k := by rw [← e]
  rw [e5]
  by_cases h0 : (cont p : Int) = 0
  · rw [h0]; simp
  · rw [hd, show c.sign * (c.natAbs : Int) * ((cont p : Int) * d) = (c.natAbs : Int) * (cont p : Int) * (c.sign * d) by grind,
      Int.mul_ediv_cancel_left _ (Int.mul_ne_zero hn h0), Int.mul_ediv_cancel_left _ h0]
theorem lead_scl (c : Int) (p : List Int) : lead (scl c p) = c * lead p := by unfold lead; rw [scl_length, cf_scl]
theorem scl_scl (c d : Int) (p : List Int) : scl c (scl d p) = scl (c * d) p := ext_cf (by simp [scl]) fun k _ => by rw [cf_scl, cf_scl, cf_scl, Int.mul_assoc]
theorem scl_one (p : List Int) : scl 1 p = p := ext_cf (by simp [scl]) fun k _ => by rw [cf_scl, Int.one_mul]
theorem scl_nrm {p : List Int} {c : Int} (hc : c ≠ 0) (hp : Nrm p) : Nrm (scl c p) := by
  intro h
  rw [scl_length] at h
  have h1 : cf (scl c p) (p.length - 1) ≠ 0 := by rw [cf_scl]; exact Int.mul_ne_zero hc (nrm_cf hp h)
  rw [cf_lt (by rw [scl_length]; omega)] at h1
  simpa [scl_length] using h1
theorem scl_nil (c : Int) : scl c [] = [] := rfl
theorem trim_scl {c : Int} (hc : c ≠ 0) (p : List Int) : trim (scl c p) = scl c (trim p) :=
  nrm_ext (nrm_trim _) (scl_nrm hc (nrm_trim p)) fun k => by rw [cf_trim, cf_scl, cf_scl, cf_trim]
/-- The primitive part with a positive leading coefficient. -/
def npr (p : List Int) : List Int := scl (lead p).sign (prim p)
theorem npr_length (p : List Int) : (npr p).length = p.length := by rw [npr, scl_length, prim_length]
theorem sign_ne {c : Int} (h : c ≠ 0) : c.sign ≠ 0 := by rwa [Ne, Int.sign_eq_zero_iff_zero]
theorem npr_scl {p : List Int} {c : Int} (hc : c ≠ 0) : npr (scl c p) = npr p := by
  unfold npr
  rw [lead_scl, prim_scl hc, scl_scl, Int.sign_mul]
  congr 1
  rcases Int.lt_trichotomy c 0 with h | h | h
  · rw [Int.sign_eq_neg_one_of_neg h]; omega
  · exact absurd h hc
  · rw [Int.sign_eq_one_of_pos h]; omega
theorem npr_prim {p : List Int} (hp : Nrm p) : npr (prim p) = npr p := by
  by_cases h : p = []
  · subst h; rfl
  · have hc : (cont p : Int) ≠ 0 := by have := cont_pos hp h; omega
    conv => rhs; rw [← scl_prim p, npr_scl hc]
theorem npr_sclE (p : List Int) (hp : Nrm p) (h : p ≠ []) : ∃ c : Int, c ≠ 0 ∧ p = scl c (npr p) := by
  have hl := lead_ne hp h
  refine ⟨(lead p).sign * cont p, Int.mul_ne_zero (sign_ne hl) (by have := cont_pos hp h; omega), ?_⟩
  rw [npr, scl_scl]
  have e : (lead p).sign * (cont p : Int) * (lead p).sign = cont p := by
    rcases Int.lt_trichotomy (lead p) 0 with g | g | g
    · rw [Int.sign_eq_neg_one_of_neg g]; omega
    · exact absurd g hl
    · rw [Int.sign_eq_one_of_pos g]; omega
  rw [e, scl_prim]
theorem npr_of_lead {p : List Int} (hp : Nrm p) (h0 : p ≠ []) : npr p = if lead p < 0 then scl (-1) (prim p) else prim p := by
  unfold npr
  split
  · next h => rw [Int.sign_eq_neg_one_of_neg h]
  · next h => rw [Int.sign_eq_one_of_pos (by have := lead_ne hp h0; omega), scl_one]

theorem step_scl (a c s : Int) (q r : List Int) : step a (s * c) q (scl s r) = scl s (step a c q r) := by
  apply ext_cf (by simp [scl, step])
  intro k _
  rw [cf_scl, cf_step, cf_step, scl_length, cf_scl]
  split
  · split <;> grind
  · simp
theorem prem_scl (q : List Int) (n : Nat) (s : Int) (r : List Int) : prem q n (scl s r) = scl s (prem q n r) := by
  induction n generalizing r with
  | zero => rfl
  | succ n ih => rw [prem, prem, lead_scl, step_scl, ih]
theorem step_scl_q (c a s : Int) (q r : List Int) : step (s * a) c (scl s q) r = scl s (step a c q r) := by
  apply ext_cf (by simp [scl, step])
  intro k _
  rw [cf_scl, cf_step, cf_step, scl_length]
  split
  · rw [cf_scl]; split <;> grind
  · simp
theorem prem_scl_q (q : List Int) (n : Nat) (s : Int) (r : List Int) : prem (scl s q) n r = scl (s ^ n) (prem q n r) := by
  induction n generalizing r with
  | zero => rw [prem, prem, Int.pow_zero, scl_one]
  | succ n ih => rw [prem, lead_scl, step_scl_q, ih, prem_scl, scl_scl, ← Int.pow_succ, prem]
theorem rest_scl {c d : Int} (hc : c ≠ 0) (hd : d ≠ 0) (p q : List Int) : ∃ e : Int, e ≠ 0 ∧ rest (scl c p) (scl d q) = scl e (rest p q) := by
  refine ⟨d ^ (p.length + 1 - q.length) * c, Int.mul_ne_zero (Int.pow_ne_zero hd) hc, ?_⟩
  unfold rest
  rw [scl_length, scl_length, prem_scl_q, prem_scl, scl_scl, trim_scl (Int.mul_ne_zero (Int.pow_ne_zero hd) hc)]
/-- The rest does not depend on factors. -/
theorem npr_rest {p q : List Int} (hp : Nrm p) (hq : Nrm q) : npr (rest (npr p) (npr q)) = npr (rest p q) := by
  by_cases h1 : p = []
  · subst h1
    by_cases h2 : q = []
    · subst h2; rfl
    · obtain ⟨d, hd, e⟩ := npr_sclE q hq h2
      obtain ⟨f, hf, e2⟩ := rest_scl (c := 1) (d := d) (by decide) hd [] (npr q)
      rw [scl_nil, ← e] at e2
      rw [e2, npr_scl hf]; rfl
  · obtain ⟨c, hc, e1⟩ := npr_sclE p hp h1
    by_cases h2 : q = []
    · subst h2
      obtain ⟨f, hf, e2⟩ := rest_scl (c := c) (d := 1) hc (by decide) (npr p) []
      rw [scl_nil, ← e1] at e2
      rw [e2, npr_scl hf]; rfl
    · obtain ⟨d, hd, e2⟩ := npr_sclE q hq h2
      obtain ⟨f, hf, e3⟩ := rest_scl (c := c) (d := d) hc hd (npr p) (npr q)
      rw [← e1, ← e2] at e3
      rw [e3, npr_scl hf]

/-- Euclid's algorithm on parts without factors. -/
def euc : Nat → List Int → List Int → List Int
  | 0, p, _ => p
  | n + 1, p, q => if q = [] then p else euc n q (npr (rest p q))
theorem euc_fuel (n m : Nat) (p q : List Int) (h1 : q.length ≤ n) (h2 : q.length ≤ m) : euc n p q = euc m p q := by
  induction n generalizing m p q with
  | zero =>
    obtain rfl := List.eq_nil_of_length_eq_zero (show q.length = 0 by omega)
    cases m <;> simp [euc]
  | succ n ih =>
    by_cases e : q = []
    · subst e; cases m <;> simp [euc]
    · have h0 := List.length_pos_iff.2 e
      obtain ⟨k, rfl⟩ : ∃ k, m = k + 1 := ⟨m - 1, by omega⟩
      have h3 := rest_length (p := p) h0
      rw [euc, euc, if_neg e, if_neg e]
      exact ih k _ _ (by rw [npr_length]; omega) (by rw [npr_length]; omega)
/-- The greatest common divisor of two polynomials. -/
def gcdP (p q : List Int) : List Int := euc q.length (npr p) (npr q)
theorem gcdP_nil (p : List Int) : gcdP p [] = npr p := rfl
theorem gcdP_step {p q : List Int} (hp : Nrm p) (hq : Nrm q) (h : q ≠ []) : gcdP p q = gcdP q (rest p q) := by
  have h0 := List.length_pos_iff.2 h
  obtain ⟨n, hn⟩ : ∃ n, q.length = n + 1 := ⟨q.length - 1, by omega⟩
  have hne : npr q ≠ [] := by intro e; have := npr_length q; rw [e] at this; simp at this; omega
  unfold gcdP
  rw [hn, euc, if_neg hne, npr_rest hp hq]
  have h1 := rest_length (p := p) h0
  exact euc_fuel _ _ _ _ (by rw [npr_length]; omega) (by rw [npr_length]; omega)
theorem gcdP_npr {p q p' q' : List Int} (h1 : npr p = npr p') (h2 : npr q = npr q') : gcdP p q = gcdP p' q' := by
  have hl : q.length = q'.length := by rw [← npr_length q, h2, npr_length]
  unfold gcdP
  rw [h1, h2, hl]
theorem cont_unit {p : List Int} (hp : Nrm p) (h : p.length = 1) : npr p = [1] := by
  obtain ⟨a, rfl⟩ : ∃ a, p = [a] := List.length_eq_one_iff.1 h
  have ha : a ≠ 0 := by have := hp (by simp); simpa using this
  have e1 : cont [a] = a.natAbs := by simp [cont]
  unfold npr prim lead
  rw [e1]
  simp only [scl, List.map, List.length_singleton, Nat.sub_self, cf_cons_zero, List.cons.injEq, and_true]
  rcases Int.lt_trichotomy a 0 with g | g | g
  · rw [Int.sign_eq_neg_one_of_neg g]
    have : (a.natAbs : Int) = -a := by omega
    rw [this, Int.ediv_neg, Int.ediv_self ha]; rfl
  · exact absurd g ha
  · rw [Int.sign_eq_one_of_pos g]
    have : (a.natAbs : Int) = a := by omega
    rw [this, Int.ediv_self ha]; rfl
/-- Both orders give the same, where the second one is longer. -/
theorem gcdP_swap {p q : List Int} (hp : Nrm p) (hq : Nrm q) (h : p.length < q.length) : gcdP p q = gcdP q p := by
  rw [gcdP_step hp hq (by intro e; subst e; simp at h), rest_short hp h]
/-- Where a rest is a constant, the divisor is 1. -/
theorem gcdP_const {p q : List Int} (hp : Nrm p) (hq : Nrm q) (h : q.length = 1) : gcdP p q = [1] := by
  have h1 : q ≠ [] := by intro e; subst e; simp at h
  rw [gcdP_step hp hq h1]
  have h2 := rest_length (p := p) (q := q) (by omega)
  rw [List.eq_nil_of_length_eq_zero (show (rest p q).length = 0 by omega), gcdP_nil, cont_unit hq h]
end Go.Proofs.YtepddegphdlbeaaGreat.Pl

namespace Go.Proofs.YtepddegphdlbeaaGreat.Pl

/-- The coefficients, each one times as many factors d as its power is below the degree. -/
def lev : List Int → Int → List Int
  | [], _ => []
  | a :: p, d => a * d ^ p.length :: lev p d
theorem lev_length (p : List Int) (d : Int) : (lev p d).length = p.length := by induction p <;> simp [lev, *]
theorem cf_lev (p : List Int) (d : Int) (k : Nat) : cf (lev p d) k = cf p k * d ^ (p.length - 1 - k) := by
  induction p generalizing k with
  | nil => simp [lev, cf_nil]
  | cons a p ih =>
    cases k with
    | zero => rw [lev, cf_cons_zero, cf_cons_zero]; simp
    | succ k => rw [lev, cf_cons_succ, cf_cons_succ, ih]; congr 2; simp; omega

/-- The polynomial of degree below M at n and d, homogeneous. -/
def hv (n d : Int) : List Int → Nat → Int
  | [], _ => 0
  | _ :: _, 0 => 0
  | a :: p, M + 1 => a * d ^ M + n * hv n d p M
/-- The value of a polynomial at n / d, times d to the power of the degree. -/
def vlu (p : List Int) (n d : Int) : Int := ev (lev p d) n
/-- The value at a polynomial a + b u, by Horner's scheme. -/
def pmul (p q : List Int) : List Int := if p = [] ∨ q = [] then [] else mul p q
def comp (a b : Int) : List Int → List Int
  | [] => []
  | x :: l => add (pmul (comp a b l) [a, b]) [x]
/-- Sizes: the greatest magnitude and the sum of all. -/
def mx (p : List Int) : Nat := p.foldr (fun a m => max a.natAbs m) 0
def sm (p : List Int) : Nat := p.foldr (fun a m => a.natAbs + m) 0
theorem mx_mem {p : List Int} {a : Int} (h : a ∈ p) : a.natAbs ≤ mx p := by
  induction p with
  | nil => cases h
  | cons b p ih =>
    have : mx (b :: p) = max b.natAbs (mx p) := rfl
    rw [this]
    rcases List.mem_cons.1 h with rfl | h
    · omega
    · have := ih h; omega
theorem mx_cf (p : List Int) (k : Nat) : (cf p k).natAbs ≤ mx p := by
  by_cases h : k < p.length
  · rw [cf_lt h]; exact mx_mem (List.getElem_mem h)
  · rw [cf_ge (by omega)]; simp
theorem mx_le {p : List Int} {B : Nat} (h : ∀ k, k < p.length → (cf p k).natAbs ≤ B) : mx p ≤ B := by
  induction p with
  | nil => exact Nat.zero_le _
  | cons b p ih =>
    have e : mx (b :: p) = max b.natAbs (mx p) := rfl
    have h0 := h 0 (by simp)
    rw [cf_cons_zero] at h0
    have := ih (fun k hk => by rw [← cf_cons_succ b p]; exact h (k + 1) (by simpa using hk))
    omega
theorem sm_le (p : List Int) : sm p ≤ p.length * mx p := by
  induction p with
  | nil => simp [sm]
  | cons b p ih =>
    have e : sm (b :: p) = b.natAbs + sm p := rfl
    have e2 : mx (b :: p) = max b.natAbs (mx p) := rfl
    rw [e, e2, List.length_cons, Nat.add_mul, Nat.one_mul]
    have : p.length * mx p ≤ p.length * max b.natAbs (mx p) := Nat.mul_le_mul_left _ (by omega)
    omega
theorem mx_le_sm (p : List Int) : mx p ≤ sm p := by
  induction p with
  | nil => simp [mx]
  | cons b p ih =>
    have e : sm (b :: p) = b.natAbs + sm p := rfl
    have e2 : mx (b :: p) = max b.natAbs (mx p) := rfl
    omega
theorem sm_take (p : List Int) (i : Nat) (h : i < p.length) : sm (p.take (i + 1)) = sm (p.take i) + (cf p i).natAbs := by
  induction p generalizing i with
  | nil => simp at h
  | cons b p ih =>
    cases i with
    | zero => simp [sm, cf_cons_zero]
    | succ i =>
      have e : ∀ l, sm (b :: l) = b.natAbs + sm l := fun _ => rfl
      rw [List.take_succ_cons, List.take_succ_cons, e, e, cf_cons_succ, ih i (by simpa using h)]; omega
theorem sm_take_le (p : List Int) (i : Nat) : sm (p.take i) ≤ sm p := by
  induction p generalizing i with
  | nil => simp
  | cons b p ih =>
    cases i with
    | zero => simp [sm]
    | succ i =>
      have e : ∀ l, sm (b :: l) = b.natAbs + sm l := fun _ => rfl
      rw [List.take_succ_cons, e, e]; have := ih i; omega
theorem conv_le (p q : List Int) (i k : Nat) (h : i ≤ p.length) : (conv p q i k).natAbs ≤ sm (p.take i) * mx q := by
  induction i with
  | zero => simp [conv]
  | succ i ih =>
    rw [conv, sm_take p i (by omega), Nat.add_mul]
    have h1 := ih (by omega)
    split
    · have h2 : (cf p i * cf q (k - i)).natAbs ≤ (cf p i).natAbs * mx q := by rw [Int.natAbs_mul]; exact Nat.mul_le_mul_left _ (mx_cf q _)
      omega
    · omega
theorem mx_scl (c : Int) (p : List Int) : mx (scl c p) ≤ c.natAbs * mx p := mx_le fun k _ => by
  rw [cf_scl, Int.natAbs_mul]; exact Nat.mul_le_mul_left _ (mx_cf p k)
theorem mx_step (a c : Int) (q r : List Int) : mx (step a c q r) ≤ a.natAbs * mx r + c.natAbs * mx q := mx_le fun k _ => by
  rw [cf_step]
  have h1 : (a * cf r k).natAbs ≤ a.natAbs * mx r := by rw [Int.natAbs_mul]; exact Nat.mul_le_mul_left _ (mx_cf r k)
  split
  · split
    · have h2 : (c * cf q (k - (r.length - q.length))).natAbs ≤ c.natAbs * mx q := by rw [Int.natAbs_mul]; exact Nat.mul_le_mul_left _ (mx_cf q _)
      omega
    · omega
  · simp
theorem mx_trim (p : List Int) : mx (trim p) ≤ mx p := mx_le fun k _ => by rw [cf_trim]; exact mx_cf p k
theorem mx_prem (q : List Int) (n : Nat) (r : List Int) : mx (prem q n r) ≤ (2 * mx q) ^ n * mx r := by
  induction n generalizing r with
  | zero => simp [prem]
  | succ n ih =>
    rw [prem]
    refine Nat.le_trans (ih _) ?_
    rw [Nat.pow_succ, Nat.mul_assoc]
    apply Nat.mul_le_mul_left
    refine Nat.le_trans (mx_step _ _ _ _) ?_
    have h1 : (lead q).natAbs * mx r ≤ mx q * mx r := Nat.mul_le_mul_right _ (mx_cf q _)
    have h2 : (lead r).natAbs * mx q ≤ mx r * mx q := Nat.mul_le_mul_right _ (mx_cf r _)
    rw [Nat.mul_comm (mx r)] at h2
    rw [Nat.mul_assoc]; omega
theorem cont_le {p : List Int} (h : p ≠ []) : cont p ≤ mx p := by
  cases p with
  | nil => exact absurd rfl h
  | cons a p =>
    by_cases ha : ∀ k, cf (a :: p) k = 0
    · have : cont (a :: p) = 0 := by
        have h2 : ∀ (l : List Int), (∀ k, cf l k = 0) → l.foldl (fun g a => Nat.gcd g a.natAbs) 0 = 0 := by
          intro l
          induction l with
          | nil => intro _; rfl
          | cons b l ih =>
            intro hl
            have h0 := hl 0
            rw [cf_cons_zero] at h0
            subst h0
            exact ih fun k => by rw [← cf_cons_succ 0 l, hl]
        exact h2 _ ha
      omega
    · obtain ⟨k, hk⟩ := Classical.not_forall.1 ha
      have h1 := cont_dvd_cf (a :: p) k
      have h2 := Int.natAbs_dvd_natAbs.2 h1
      rw [Int.natAbs_natCast] at h2
      exact Nat.le_trans (Nat.le_of_dvd (by omega) h2) (mx_cf _ k)
end Go.Proofs.YtepddegphdlbeaaGreat.Pl

/- A store of what a cell holds already changes nothing. No function is spoken of here. -/
namespace Go.Proofs.YtepddegphdlbeaaGreat

end Go.Proofs.YtepddegphdlbeaaGreat

/- How a list of wide integers lies in memory: read through a slice (Rw, Rp), and as a block of the call's own (Aw); the program's record of errors (Ck). No function is spoken of here. -/
namespace Go.Proofs.YtepddegphdlbeaaGreat
open Go.RowKit

/-- A slice value reads as a list of wide integers, valid or not. -/
def Rw (w : World) (v : Value) (L : List (Bool × ByteArray)) : Prop :=
  ∃ (p : Option Addr) (b off cap : Nat), v = .slice p L.length cap ∧ L.length ≤ cap ∧ cap ≤ maxLen ∧ (L ≠ [] → p = some ⟨b, off, none⟩) ∧
    ∀ k (h : k < L.length), w.cell? ⟨b, off + k * 2, none⟩ = some (.bool L[k].1) ∧ w.cell? ⟨b, off + k * 2 + 1, none⟩ = some (.string L[k].2)
theorem Rw.below {w w' : World} {v : Value} {L : List (Bool × ByteArray)} (h : Rw w v L) (hb : Below w.heap.size w w') : Rw w' v L := by
  obtain ⟨p, b, off, cap, h1, h2, h3, h4, h5⟩ := h
  exact ⟨p, b, off, cap, h1, h2, h3, h4, fun k hk => ⟨at_old hb (h5 k hk).1, at_old hb (h5 k hk).2⟩⟩
theorem Rw.drewN {w : World} {v : Value} {L : List (Bool × ByteArray)} (h : Rw w v L) (n : Nat) : Rw (w.drewN n) v L := h
theorem Rw.nil (w : World) : Rw w (.slice none 0 0) [] := ⟨none, 0, 0, 0, rfl, by simp, by simp, fun h => absurd rfl h, fun k h => absurd h (by simp)⟩
theorem Rw.len {w : World} {v : Value} {L : List (Bool × ByteArray)} (h : Rw w v L) : L.length ≤ 9223372036854775807 := by
  obtain ⟨p, b, off, cap, h1, h2, h3, h4, h5⟩ := h
  unfold maxLen at h3
  omega

/-- The wide integers of some integers. -/
def zl (p : List Int) : List (Bool × ByteArray) := p.map fun z => (zb z, zs z)
theorem zl_length (p : List Int) : (zl p).length = p.length := by simp [zl]
theorem zl_get (p : List Int) (k : Nat) (h : k < p.length) (h2 : k < (zl p).length) : (zl p)[k] = (zb p[k], zs p[k]) := by simp [zl]
theorem zl_ne {p : List Int} (h : p ≠ []) : zl p ≠ [] := by simpa [zl] using h
abbrev Rp (w : World) (v : Value) (p : List Int) : Prop := Rw w v (zl p)
/-- What a slice of integers gives to a walk. -/
theorem Rp.open_ {w : World} {v : Value} {p : List Int} (h : Rp w v p) : ∃ (a : Option Addr) (b off cap : Nat), v = .slice a p.length cap ∧ p.length ≤ cap ∧ cap ≤ maxLen ∧ (p ≠ [] → a = some ⟨b, off, none⟩) ∧
    ∀ k (h : k < p.length), w.cell? ⟨b, off + k * 2, none⟩ = some (.bool (zb p[k])) ∧ w.cell? ⟨b, off + k * 2 + 1, none⟩ = some (.string (zs p[k])) := by
  obtain ⟨a, b, off, cap, h1, h2, h3, h4, h5⟩ := h
  rw [zl_length] at h1 h2
  refine ⟨a, b, off, cap, h1, h2, h3, fun e => h4 (zl_ne e), fun k hk => ?_⟩
  have := h5 k (by rw [zl_length]; exact hk)
  rwa [zl_get p k hk] at this
theorem Rp.mk {w : World} {v : Value} {p : List Int} {a : Option Addr} {b off cap : Nat} (h1 : v = .slice a p.length cap) (h2 : p.length ≤ cap) (h3 : cap ≤ maxLen) (h4 : p ≠ [] → a = some ⟨b, off, none⟩)
    (h5 : ∀ k (h : k < p.length), w.cell? ⟨b, off + k * 2, none⟩ = some (.bool (zb p[k])) ∧ w.cell? ⟨b, off + k * 2 + 1, none⟩ = some (.string (zs p[k]))) : Rp w v p := by
  refine ⟨a, b, off, cap, by rw [zl_length]; exact h1, by rw [zl_length]; exact h2, h3, fun e => h4 fun e2 => e (by rw [e2]; rfl), fun k hk => ?_⟩
  have hk2 : k < p.length := by rwa [zl_length] at hk
  rw [zl_get p k hk2]
  exact h5 k hk2

/-- The integers as cells. -/
def wv (p : List Int) : List Value := p.flatMap fun z => [.bool (zb z), .string (zs z)]
theorem wv_length (p : List Int) : (wv p).length = p.length * 2 := by
  induction p with
  | nil => rfl
  | cons a p ih => simp only [wv, List.flatMap_cons, List.length_append, List.length_cons] at ih ⊢; simp at ih ⊢; omega
theorem wv_cons (a : Int) (p : List Int) : wv (a :: p) = .bool (zb a) :: .string (zs a) :: wv p := rfl
theorem wv_get (p : List Int) (k : Nat) (h : k < p.length) : (wv p)[k * 2]? = some (.bool (zb p[k])) ∧ (wv p)[k * 2 + 1]? = some (.string (zs p[k])) := by
  induction p generalizing k with
  | nil => simp at h
  | cons a p ih =>
    rw [wv_cons]
    cases k with
    | zero => simp
    | succ k =>
      have h' : k < p.length := by simpa using h
      obtain ⟨h1, h2⟩ := ih k h'
      rw [show (k + 1) * 2 = k * 2 + 1 + 1 by omega]
      simp only [List.getElem?_cons_succ, List.getElem_cons_succ]
      exact ⟨h1, h2⟩
theorem wv_set (p : List Int) (k : Nat) (z : Int) : ((wv p).set (k * 2) (.bool (zb z))).set (k * 2 + 1) (.string (zs z)) = wv (p.set k z) := by
  induction p generalizing k with
  | nil => rfl
  | cons a p ih =>
    rw [wv_cons]
    cases k with
    | zero => rfl
    | succ k =>
      rw [show (k + 1) * 2 = k * 2 + 1 + 1 by omega]
      simp only [List.set_cons_succ]
      rw [ih, wv_cons]

/-- A block of the call's own whose first cells hold these integers. -/
def Aw (w : World) (g : Nat) (p : List Int) : Prop := ∃ r : List Value, w.heap[g]? = some (.cells (wv p ++ r).toArray 44 (0, 0))
theorem Aw.lt {w : World} {g : Nat} {p : List Int} (h : Aw w g p) : g < w.heap.size := by obtain ⟨r, h⟩ := h; exact lt_of_block h
theorem Aw.cell {w : World} {g : Nat} {p : List Int} (h : Aw w g p) (k : Nat) (hk : k < p.length) : w.cell? ⟨g, k * 2, none⟩ = some (.bool (zb p[k])) ∧ w.cell? ⟨g, k * 2 + 1, none⟩ = some (.string (zs p[k])) := by
  obtain ⟨r, h⟩ := h
  obtain ⟨h1, h2⟩ := wv_get p k hk
  rw [cell_of_row w g _ _ _ _ h, cell_of_row w g _ _ _ _ h, List.getElem?_toArray, List.getElem?_toArray, List.getElem?_append_left (by rw [wv_length]; omega), List.getElem?_append_left (by rw [wv_length]; omega)]
  exact ⟨h1, h2⟩
theorem Aw.free {w : World} {g : Nat} {p : List Int} (h : Aw w g p) (k : Nat) : w.frozen? ⟨g, k, none⟩ = false := by obtain ⟨r, h⟩ := h; exact frozen_of_row w g k _ _ h
theorem Aw.set {w : World} {g : Nat} {p : List Int} (h : Aw w g p) (k : Nat) (hk : k < p.length) (z : Int) : Aw ((w.setCell ⟨g, k * 2, none⟩ (.bool (zb z))).setCell ⟨g, k * 2 + 1, none⟩ (.string (zs z))) g (p.set k z) := by
  obtain ⟨r, h⟩ := h
  have h1 := heap_setCell_same w g (k * 2) _ _ (.bool (zb z)) h
  have h2 := heap_setCell_same _ g (k * 2 + 1) _ _ (.string (zs z)) h1
  refine ⟨r, h2.trans ?_⟩
  rw [← wv_set]
  have e1 : k * 2 < (wv p).length := by rw [wv_length]; omega
  have e2 : k * 2 + 1 < (wv p).length := by rw [wv_length]; omega
  simp [List.set_append_left, e1, e2]
theorem Aw.keep {w w' : World} {g : Nat} {p : List Int} (h : Aw w g p) (he : w'.heap[g]? = w.heap[g]?) : Aw w' g p := by obtain ⟨r, h⟩ := h; exact ⟨r, he.trans h⟩
theorem Aw.below {w w' : World} {g : Nat} {p : List Int} (h : Aw w g p) (hb : Below w.heap.size w w') : Aw w' g p := h.keep (hb.block g h.lt)
theorem Aw.alloc {w : World} {g : Nat} {p : List Int} (h : Aw w g p) (o : Obj) : Aw (w.alloc o) g p := h.keep (Below.heap_alloc w o g h.lt)
theorem Aw.other {w : World} {g : Nat} {p : List Int} (h : Aw w g p) (a : Addr) (v : Value) (hn : g ≠ a.block) : Aw (w.setCell a v) g p := h.keep (heap_setCell_other w a g v hn)
theorem Aw.drewN {w : World} {g : Nat} {p : List Int} (h : Aw w g p) (n : Nat) : Aw (w.drewN n) g p := h
theorem Aw.made (w : World) (p : List Int) : Aw (w.alloc (.cells (wv p).toArray 44)) w.heap.size p := ⟨[], by rw [List.append_nil]; exact heap_alloc_new w _⟩
theorem wv_append (p q : List Int) : wv (p ++ q) = wv p ++ wv q := by simp [wv]
theorem Aw.take {w : World} {g : Nat} {p : List Int} (h : Aw w g p) (k : Nat) : Aw w g (p.take k) := by
  obtain ⟨r, h⟩ := h
  refine ⟨wv (p.drop k) ++ r, ?_⟩
  rw [← List.append_assoc, ← wv_append, List.take_append_drop]
  exact h
/-- A part of the call's own block. -/
theorem Rp.of_aw {w : World} {g : Nat} {p : List Int} (h : Aw w g p) (off n cap : Nat) (h1 : off + n ≤ p.length) (h2 : n ≤ cap) (h3 : cap ≤ maxLen) : Rp w (.slice (some ⟨g, off * 2, none⟩) n cap) ((p.drop off).take n) := by
  have hl : ((p.drop off).take n).length = n := by simp; omega
  refine Rp.mk (b := g) (off := off * 2) (by rw [hl]) (by omega) h3 (fun _ => rfl) fun k hk => ?_
  rw [hl] at hk
  have := h.cell (off + k) (by omega)
  rw [Nat.add_mul] at this
  simpa using this
theorem Rp.of_whole {w : World} {g : Nat} {p : List Int} (h : Aw w g p) (n cap : Nat) (h1 : p.length = n) (h2 : n ≤ cap) (h3 : cap ≤ maxLen) : Rp w (.slice (some ⟨g, 0, none⟩) n cap) p := by
  subst h1
  have := Rp.of_aw h 0 p.length cap (by omega) h2 h3
  rwa [Nat.zero_mul, List.drop_zero, List.take_length] at this
/-- The first ones of a slice. -/
theorem Rw.take {w : World} {a : Option Addr} {n cap : Nat} {L : List (Bool × ByteArray)} (h : Rw w (.slice a n cap) L) (m : Nat) (hm : m ≤ n) : Rw w (.slice a m cap) (L.take m) := by
  obtain ⟨a', b, off, cap', h1, h2, h3, h4, h5⟩ := h
  injection h1 with e1 e2 e3
  subst e1 e2 e3
  have e : (L.take m).length = m := by simp; omega
  refine ⟨a, b, off, cap, by rw [e], by omega, h3, fun hne => h4 (fun e0 => hne (by rw [e0]; simp)), fun k hk => ?_⟩
  rw [e] at hk
  simpa using h5 k (by omega)
theorem zl_take (p : List Int) (m : Nat) : (zl p).take m = zl (p.take m) := by simp [zl, List.map_take]

/-- The record of errors at block c holds e. -/
def Ck (w : World) (c : Nat) (e : Int) : Prop := w.heap[c]? = some (.cells #[.int .i64 e] 96 (0, 0))
theorem Ck.lt {w : World} {c : Nat} {e : Int} (h : Ck w c e) : c < w.heap.size := lt_of_block h
theorem Ck.cell {w : World} {c : Nat} {e : Int} (h : Ck w c e) : w.cell? ⟨c, 0, none⟩ = some (.int .i64 e) := by rw [cell_of_row w c 0 _ _ _ h]; rfl
theorem Ck.free {w : World} {c : Nat} {e : Int} (h : Ck w c e) : w.frozen? ⟨c, 0, none⟩ = false := frozen_of_row w c 0 _ _ h
theorem Ck.below {w w' : World} {c : Nat} {e : Int} (h : Ck w c e) (hb : Below w.heap.size w w') : Ck w' c e := (hb.block c h.lt).trans h
theorem Ck.set {w : World} {c : Nat} {e : Int} (h : Ck w c e) (e' : Int) : Ck (w.setCell ⟨c, 0, none⟩ (.int .i64 e')) c e' := heap_setCell_same w c 0 _ _ (.int .i64 e') h
theorem Ck.alloc {w : World} {c : Nat} {e : Int} (h : Ck w c e) (o : Obj) : Ck (w.alloc o) c e := (Below.heap_alloc w o c h.lt).trans h
theorem Ck.other {w : World} {c : Nat} {e : Int} (h : Ck w c e) (a : Addr) (v : Value) (hn : c ≠ a.block) : Ck (w.setCell a v) c e := (heap_setCell_other w a c v hn).trans h

/-- Of the blocks that there were, only c may have turned. -/
structure But (c : Nat) (w w' : World) : Prop where
  os : w'.os = w.os
  tape : w'.tape = w.tape
  output : w'.output = w.output
  size : w.heap.size ≤ w'.heap.size
  block : ∀ k, k < w.heap.size → k ≠ c → w'.heap[k]? = w.heap[k]?
theorem But.refl (c : Nat) (w : World) : But c w w := ⟨rfl, rfl, rfl, Nat.le_refl _, fun _ _ _ => rfl⟩
theorem But.of_below {c : Nat} {w w' : World} (h : Below w.heap.size w w') : But c w w' := ⟨h.os, h.tape, h.output, h.size, fun k hk _ => h.block k hk⟩
theorem But.trans {c : Nat} {u v w : World} (h : But c u v) (k : But c v w) : But c u w :=
  ⟨k.os.trans h.os, k.tape.trans h.tape, k.output.trans h.output, Nat.le_trans h.size k.size, fun i hi hn => (k.block i (Nat.lt_of_lt_of_le hi h.size) hn).trans (h.block i hi hn)⟩
theorem But.below {c : Nat} {w w' : World} {e : Int} (h : But c w w') (h1 : Ck w c e) (h2 : Ck w' c e) : Below w.heap.size w w' :=
  ⟨h.os, h.tape, h.output, h.size, fun k hk => by
    by_cases e : k = c
    · subst e; exact h2.trans h1.symm
    · exact h.block k hk e⟩
theorem But.low {c : Nat} {w w' : World} (h : But c w w') (hc : c ≤ w.heap.size) : Below c w w' := ⟨h.os, h.tape, h.output, h.size, fun k hk => h.block k (by omega) (by omega)⟩
theorem But.aw {c : Nat} {w w' : World} {g : Nat} {p : List Int} (h : But c w w') (ha : Aw w g p) (hn : g ≠ c) : Aw w' g p := ha.keep (h.block g ha.lt hn)
theorem But.set (c : Nat) (w : World) (v : Value) : But c w (w.setCell ⟨c, 0, none⟩ v) := ⟨rfl, rfl, rfl, by simp [World.setCell], fun k _ hn => Below.heap_setCell _ _ _ _ hn⟩
theorem But.alloc {c : Nat} {a b : World} (h : But c a b) (o : Obj) : But c a (b.alloc o) := h.trans (But.of_below ((Below.refl _ _).alloc (Nat.le_refl _) o))
theorem But.drewN {c : Nat} {a b : World} (h : But c a b) (n : Nat) : But c a (b.drewN n) := ⟨h.os, h.tape, h.output, h.size, h.block⟩
theorem But.new {c : Nat} {a b : World} (h : But c a b) {p : Addr} (hp : a.heap.size ≤ p.block) (v : Value) : But c a (b.setCell p v) :=
  ⟨h.os, h.tape, h.output, by simpa [World.setCell] using h.size, fun k hk hn => (Below.heap_setCell _ _ _ _ (by omega)).trans (h.block k hk hn)⟩
theorem Ck.drewN {w : World} {c : Nat} {e : Int} (h : Ck w c e) (n : Nat) : Ck (w.drewN n) c e := h
/-- A cell of another block than the record's. -/
theorem But.cell {c : Nat} {w w' : World} (h : But c w w') {a : Addr} {v : Value} (hc : w.cell? a = some v) (hn : a.block ≠ c) : w'.cell? a = some v :=
  (World.cell?_of_block (h.block a.block (World.block_lt_of_cell? w a hc) hn)).trans hc
theorem But.frozen {c : Nat} {w w' : World} (h : But c w w') {a : Addr} {v : Value} (hc : w.cell? a = some v) (hf : w.frozen? a = false) (hn : a.block ≠ c) : w'.frozen? a = false := by
  have e := h.block a.block (World.block_lt_of_cell? w a hc) hn
  unfold World.frozen? at hf ⊢
  rw [e]; exact hf
theorem belowN {B : Nat} {a b : World} (h : Below B a b) (n : Nat) : Below B a (b.drewN n) := ⟨h.os, h.tape, h.output, h.size, h.block⟩
/-- The record lies in no block of wide integers. -/
theorem Ck.ne {w : World} {c b o : Nat} {e : Int} {x : Bool} (h : Ck w c e) (hc : w.cell? ⟨b, o, none⟩ = some (.bool x)) : b ≠ c := by
  rintro rfl
  rw [cell_of_row w b o _ _ _ h] at hc
  cases o with
  | zero => simp at hc
  | succ o => simp at hc
theorem wv_rep (n : Nat) : madeCells #[.bool false, .string ⟨#[]⟩] (n * 2) = (wv (List.replicate n 0)).toArray := by
  apply Array.ext
  · simp [madeCells, wv_length]
  · intro i h1 h2
    have h3 : i < n * 2 := by simpa [madeCells] using h1
    have hk : i / 2 < (List.replicate n (0 : Int)).length := by simp; omega
    obtain ⟨g1, g2⟩ := wv_get (List.replicate n 0) (i / 2) hk
    have hz : (List.replicate n (0 : Int))[i / 2] = 0 := by simp
    rw [hz] at g1 g2
    have h4 : (wv (List.replicate n 0)).toArray[i] = (wv (List.replicate n 0))[i]'(by simpa using h2) := by simp
    rw [h4]
    rcases Nat.mod_two_eq_zero_or_one i with e | e
    · have e2 : i / 2 * 2 = i := by omega
      rw [e2, List.getElem?_eq_getElem (by simpa using h2)] at g1
      rw [Option.some.inj g1]
      simp [madeCells, e]
      rfl
    · have e2 : i / 2 * 2 + 1 = i := by omega
      rw [e2, List.getElem?_eq_getElem (by simpa using h2)] at g2
      rw [Option.some.inj g2]
      simp [madeCells, e]
      rfl
/-- What the making of a list of wide integers does. -/
theorem mk_wides (n : Nat) (w : World) (hn : n ≤ 1000) :
    (Instr.makeSlice 23 (.int .i64 (n : Int)) (.int .i64 (n : Int))).run Tryz.prog w = .ok (.slice (some ⟨w.heap.size, 0, none⟩) n n) (w.alloc (.cells (wv (List.replicate n 0)).toArray 44)) := by
  have hi : (Tryz.prog.info? 44).map (fun i => (i.zero, i.size, i.bytes)) = some (some (.agg #[.bool false, .string ⟨#[]⟩]), 2, 24) := by kernel_rfl
  obtain ⟨i, hi, hz, hs, hb⟩ := info_parts hi
  rw [run_make w 23 44 i (.agg #[.bool false, .string ⟨#[]⟩]) Tryz.underlying23 hi hz .i64 .i64 n n (by omega) (by omega) (by rw [hb]; omega) (by omega)]
  simp only [Int.toNat_natCast, hs]
  have hm : madeCells (Value.cells (.agg #[.bool false, .string ⟨#[]⟩])) (n * 2) = (wv (List.replicate n 0)).toArray := wv_rep n
  rw [hm]
theorem Aw.ne_ck {w : World} {g c : Nat} {p : List Int} {e : Int} (h : Aw w g p) (k : Ck w c e) : g ≠ c := by
  rintro rfl
  obtain ⟨r, h⟩ := h
  rw [Ck, h] at k
  injection k with k
  injection k with _ k
  exact absurd k (by decide)

end Go.Proofs.YtepddegphdlbeaaGreat
