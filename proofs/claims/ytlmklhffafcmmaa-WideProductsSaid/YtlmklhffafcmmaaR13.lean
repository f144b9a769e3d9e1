/- What the theorem leans on, part 13: LehR, LehG, ProdZ, LShiftA, LProd, LProdA. -/
import Derived.Test.YtlmklhffafcmmaaR12
import Derived.Test.YtlmklhffafcmmaaR3
import Derived.Test.YtlmklhffafcmmaaR11

/- The function wide.reducePair: Lehmer's method. -/
namespace Go.Proofs.Ytlmklhffafcmmaa
open Go.RowKit

theorem Rd.uniq {w : World} {v : Value} {xs ys : List Nat} (h : Rd w v xs) (k : Rd w v ys) : xs = ys := by
  obtain ⟨p, b, off, cap, h1, h2, h3, h4, h5, h6⟩ := h
  obtain ⟨q, c, o, cp, k1, k2, k3, k4, k5, k6⟩ := k
  rw [h1] at k1
  obtain ⟨rfl, hl, rfl⟩ := Value.slice.inj k1
  refine List.ext_getElem hl fun i hx hy => ?_
  have e1 := h4 (by intro e; rw [e] at hx; exact absurd hx (Nat.not_lt_zero _))
  have e2 := k4 (by intro e; rw [e] at hy; exact absurd hy (Nat.not_lt_zero _))
  rw [e1] at e2
  obtain ⟨rfl, rfl⟩ : b = c ∧ off = o := by simpa using e2
  have e3 := h6 i hx
  rw [k6 i hy] at e3
  have e4 := (Value.int.inj (Option.some.inj e3)).2
  omega
open Classical in
/-- The number that a slice of limbs reads as. -/
noncomputable def numW (w : World) (v : Value) : Nat := if h : ∃ n, Rd w v (Nm.dg W n) then h.choose else 0
theorem numW_eq {w : World} {v : Value} {n : Nat} (h : Rd w v (Nm.dg W n)) : numW w v = n := by
  have hx : ∃ n, Rd w v (Nm.dg W n) := ⟨n, h⟩
  unfold numW
  rw [dif_pos hx]
  have e := hx.choose_spec.uniq h
  have e2 := congrArg (Nm.val W) e
  rwa [Nm.val_dg W2, Nm.val_dg W2] at e2
theorem dgW_mono {a b : Nat} (h : a ≤ b) : (Nm.dg W a).length ≤ (Nm.dg W b).length := by
  refine Nm.len_le_of_val W2 (Nm.nrm_dg W2 a) ?_
  rw [Nm.val_dg W2]
  have h1 := Nm.val_lt (Nm.dig_dg W2 b)
  rw [Nm.val_dg W2] at h1
  omega

/-- A block of N limbs that begins with the limbs of a number. -/
def NB (w : World) (g N m : Nat) : Prop := (∃ l, Arr w g l ∧ l.length = N ∧ l.take (Nm.dg W m).length = Nm.dg W m) ∧ (Nm.dg W m).length ≤ N
theorem NB.rd {w : World} {g N m : Nat} (h : NB w g N m) (hN : N ≤ 1000000000) : Rd w (.slice (some ⟨g, 0, none⟩) (Nm.dg W m).length N) (Nm.dg W m) := by
  obtain ⟨⟨l, h1, h2, h3⟩, h4⟩ := h
  have := Rd.of_arr h1 0 (Nm.dg W m).length N (by omega) h4 (by unfold maxLen; omega)
  rwa [List.drop_zero, h3] at this
theorem NB.cells {w : World} {g N m : Nat} (h : NB w g N m) : ∀ k (hk : k < (Nm.dg W m).length), w.cell? ⟨g, 0 + k, none⟩ = some (.int .u64 ((Nm.dg W m)[k] : Int)) := by
  obtain ⟨⟨l, h1, h2, h3⟩, h4⟩ := h
  intro k hk
  rw [Nat.zero_add, h1.cell k (by omega)]
  have : (l.take (Nm.dg W m).length)[k]'(by rw [h3]; exact hk) = (Nm.dg W m)[k] := by simp [h3]
  rw [List.getElem_take] at this
  rw [this]
theorem NB.keep {w w' : World} {g N m : Nat} (h : NB w g N m) (he : w'.heap[g]? = w.heap[g]?) : NB w' g N m := by
  obtain ⟨⟨l, h1, h2⟩, h4⟩ := h
  exact ⟨⟨l, h1.keep he, h2⟩, h4⟩
theorem NB.lt {w : World} {g N m : Nat} (h : NB w g N m) : g < w.heap.size := by
  obtain ⟨⟨l, h1, h2⟩, h4⟩ := h
  exact h1.lt
/-- A block of N limbs. -/
def FB (w : World) (g N : Nat) : Prop := ∃ l, Arr w g l ∧ l.length = N
theorem FB.keep {w w' : World} {g N : Nat} (h : FB w g N) (he : w'.heap[g]? = w.heap[g]?) : FB w' g N := by
  obtain ⟨l, h1, h2⟩ := h
  exact ⟨l, h1.keep he, h2⟩
theorem FB.lt {w : World} {g N : Nat} (h : FB w g N) : g < w.heap.size := by
  obtain ⟨l, h1, h2⟩ := h
  exact h1.lt
theorem NB.fb {w : World} {g N m : Nat} (h : NB w g N m) : FB w g N := by
  obtain ⟨⟨l, h1, h2, _⟩, h4⟩ := h
  exact ⟨l, h1, h2⟩

/-- The four buffers. -/
structure Four (w : World) (N gx gy gX gY m n : Nat) : Prop where
  x : NB w gx N m
  y : NB w gy N n
  X : FB w gX N
  Y : FB w gY N
  xy : gx ≠ gy
  xX : gx ≠ gX
  xY : gx ≠ gY
  yX : gy ≠ gX
  yY : gy ≠ gY
  XY : gX ≠ gY

theorem Four.below {w w' : World} {N gx gy gX gY m n : Nat} (h : Four w N gx gy gX gY m n) (b : Below w.heap.size w w') : Four w' N gx gy gX gY m n :=
  ⟨h.x.keep (b.block _ h.x.lt), h.y.keep (b.block _ h.y.lt), h.X.keep (b.block _ h.X.lt), h.Y.keep (b.block _ h.Y.lt), h.xy, h.xX, h.xY, h.yX, h.yY, h.XY⟩
/-- Euclid's step: the rest lies where the first number lay. -/
theorem Four.euclid {w w' : World} {N gx gy gX gY m n r : Nat} (h : Four w N gx gy gX gY m n) (o : Only gx w w') {l : List Nat} (hl : l.length = N) (ha : Arr w' gx (Nm.dg W r ++ l.drop (Nm.dg W r).length)) (hr : (Nm.dg W r).length ≤ N) : Four w' N gy gx gX gY n r :=
  ⟨h.y.keep (o.block _ (fun e => h.xy e.symm)), ⟨⟨_, ha, by simp; omega, by rw [List.take_left]⟩, hr⟩, h.X.keep (o.block _ (fun e => h.xX e.symm)), h.Y.keep (o.block _ (fun e => h.xY e.symm)), fun e => h.xy e.symm, h.yX, h.yY, h.xX, h.xY, h.XY⟩
theorem NB.of_trim {w : World} {g N n p : Nat} {s l : List Nat} (ha : Arr w g (s ++ l.drop n)) (hs : s.length = n) (hn : n ≤ N) (hl : l.length = N) (hd : Nm.Dig W s) (hv : Nm.val W s = p) : NB w g N p := by
  have e : Nm.trimL s = Nm.dg W p := by rw [Nm.trimL_dg W2 hd, hv]
  have h1 := Nm.trimL_le s
  have h2 := Nm.trimL_is_take s
  rw [e] at h1 h2
  refine ⟨⟨_, ha, by simp; omega, ?_⟩, by omega⟩
  rw [List.take_append_of_le_length h1]
  exact h2.symm
/-- Lehmer's step: both numbers lie in the other buffers. -/
theorem Four.lehmer {w a b : World} {N gx gy gX gY m n p q k : Nat} (h : Four w N gx gy gX gY m n) (o1 : Only gX w a) (o2 : Only gY a b) (h1 : NB a gX N p) (h2 : NB b gY N q) : Four b N gX gY gx gy p q :=
  ⟨h1.keep (o2.block _ h.XY), h2, (h.x.fb.keep (o1.block _ h.xX)).keep (o2.block _ h.xY), (h.y.fb.keep (o1.block _ h.yX)).keep (o2.block _ h.yY), h.XY, fun e => h.xX e.symm, fun e => h.yX e.symm, fun e => h.xY e.symm, fun e => h.yY e.symm, h.xy⟩

theorem Four.drew {w : World} {N gx gy gX gY m n : Nat} (h : Four w N gx gy gX gY m n) : Four w.drew N gx gy gX gY m n := ⟨h.x.keep rfl, h.y.keep rfl, h.X.keep rfl, h.Y.keep rfl, h.xy, h.xX, h.xY, h.yX, h.yY, h.XY⟩
theorem Four.drewN {w : World} {N gx gy gX gY m n : Nat} (h : Four w N gx gy gX gY m n) (k : Nat) : Four (w.drewN k) N gx gy gX gY m n := ⟨h.x.keep rfl, h.y.keep rfl, h.X.keep rfl, h.Y.keep rfl, h.xy, h.xX, h.xY, h.yX, h.yY, h.XY⟩
theorem Four.swap {w : World} {N gx gy gX gY m n : Nat} (h : Four w N gx gy gX gY m n) : Four w N gx gy gY gX m n := ⟨h.x, h.y, h.Y, h.X, h.xy, h.xY, h.xX, h.yY, h.yX, fun e => h.XY e.symm⟩
theorem four_made {w0 w : World} {N gx gy m n : Nat} (hx : NB w gx N m) (hy : NB w gy N n) (hxy : gx ≠ gy) (hb : Below gx w0 w) :
    let u := ((w.alloc (.cells (uv (List.replicate N 0)).toArray 81)).alloc (.cells (uv (List.replicate N 0)).toArray 81)).drew
    Four u N gx gy w.heap.size (w.heap.size + 1) m n ∧ gx ≤ w.heap.size ∧ gx ≤ w.heap.size + 1 ∧ Below gx w0 u := by
  intro u
  obtain ⟨a1, a2, a3⟩ := two_made w w (Below.refl _ _) (List.replicate N 0) (List.replicate N 0)
  have kx := hx.lt
  have ky := hy.lt
  have hl : (List.replicate N 0 : List Nat).length = N := by simp
  refine ⟨Four.drew ⟨hx.keep (a3.block _ kx), hy.keep (a3.block _ ky), ⟨_, a1, hl⟩, ⟨_, a2, hl⟩, hxy, by omega, by omega, by omega, by omega, by omega⟩, by omega, by omega, ?_⟩
  exact (hb.trans (a3.mono (Nat.le_of_lt kx))).drew

theorem Four.wroteX {w w' : World} {N gx gy gX gY m n : Nat} (h : Four w N gx gy gX gY m n) (o : Only gX w w') (f : FB w' gX N) : Four w' N gx gy gX gY m n :=
  ⟨h.x.keep (o.block _ h.xX), h.y.keep (o.block _ h.yX), f, h.Y.keep (o.block _ (fun e => h.XY e.symm)), h.xy, h.xX, h.xY, h.yX, h.yY, h.XY⟩
/-- A block that begins with k limbs that say a number. -/
def DB (w : World) (g N k p : Nat) : Prop := ∃ (s l : List Nat), Arr w g (s ++ l.drop k) ∧ s.length = k ∧ l.length = N ∧ Nm.Dig W s ∧ Nm.val W s = p ∧ k ≤ N
theorem DB.keep {w w' : World} {g N k p : Nat} (h : DB w g N k p) (he : w'.heap[g]? = w.heap[g]?) : DB w' g N k p := by
  obtain ⟨s, l, h1, h2⟩ := h
  exact ⟨s, l, h1.keep he, h2⟩
theorem DB.nb {w : World} {g N k p : Nat} (h : DB w g N k p) : NB w g N p := by
  obtain ⟨s, l, h1, h2, h3, h4, h5, h6⟩ := h
  exact NB.of_trim h1 h2 h6 h3 h4 h5
theorem DB.trim {w : World} {g N k p : Nat} (h : DB w g N k p) (hN : N ≤ 1000000000) : Calls Try.prog 101 #[.slice (some ⟨g, 0, none⟩) k N] w fun e w' => e = .returned (.slice (some ⟨g, 0, none⟩) (Nm.dg W p).length N) ∧ w = w' := by
  obtain ⟨s, l, h1, h2, h3, h4, h5, h6⟩ := h
  have := trim_some g 0 N s w (by omega) (by unfold maxLen; omega) fun k hk => by
    rw [Nat.zero_add, h1.cell k (by simp; omega), List.getElem_append_left hk]
  rwa [h2, Nm.trimL_dg W2 h4, h5] at this
theorem diff_nb {w : World} {g ga gb N k a b u v D : Nat} (hA : NB w ga N a) (hB : NB w gb N b) (hF : FB w g N) (na : ga ≠ g) (nb : gb ≠ g) (la : (Nm.dg W a).length ≤ k) (lb : (Nm.dg W b).length ≤ k) (hk : k ≤ N) (hN : N ≤ 1000000000)
    (hD : D + b * v = a * u) (hlt : D < W ^ k) (du : u < W) (dv : v < W) :
    Calls Try.prog 116 #[.slice (some ⟨g, 0, none⟩) k N, .slice (some ⟨ga, 0, none⟩) (Nm.dg W a).length N, .slice (some ⟨gb, 0, none⟩) (Nm.dg W b).length N, .int .u64 (u : Int), .int .u64 (v : Int)] w
      (fun e w' => e = .returned (.tuple #[]) ∧ DB w' g N k D ∧ Only g w w') := by
  obtain ⟨l, hl1, hl2⟩ := hF
  refine (difference_any l (Nm.dg W a) (Nm.dg W b) g k N (some ⟨ga, 0, none⟩) ga 0 N (some ⟨gb, 0, none⟩) gb 0 N u v D w hk (by omega) (by omega) la lb (fun _ => rfl) (fun _ => rfl) na nb hl1 hA.cells hB.cells
    (Nm.dig_dg W2 a) (Nm.dig_dg W2 b) du dv (by rw [Nm.val_dg W2, Nm.val_dg W2]; exact hD) hlt).mono ?_
  rintro e w' ⟨rfl, s, h1, h2, h3, h4, h5⟩
  exact ⟨rfl, ⟨s, l, h4, h1, hl2, h2, h3, hk⟩, h5⟩

def RedPost (G : Nat) (w : World) (e : Ending) (w' : World) : Prop :=
  ∃ v1 v2 m n, e = .returned (.tuple #[v1, v2]) ∧ Rd w' v1 (Nm.dg W m) ∧ Rd w' v2 (Nm.dg W n) ∧ Nat.gcd m n = G ∧ (Nm.dg W n).length ≤ 1 ∧ n ≤ m ∧ (Nm.dg W m).length ≤ 900000000 ∧ Below w.heap.size w w'

set_option maxRecDepth 100000 in
set_option maxHeartbeats 4000000 in
theorem reducePair_any (v1 v2 : Value) (m0 n0 : Nat) (w : World) (h1 : Rd w v1 (Nm.dg W m0)) (h2 : Rd w v2 (Nm.dg W n0)) (hle : n0 ≤ m0) (l1 : (Nm.dg W m0).length ≤ 900000000) :
    Calls Try.prog 96 #[v1, v2] w (RedPost (Nat.gcd m0 n0) w) := by
  obtain ⟨N, hN⟩ : ∃ N, (Nm.dg W m0).length = N := ⟨_, rfl⟩
  have l2 := dgW_mono hle
  have H1 := Lib.hid h1
  have H2 := Lib.hid h2
  obtain ⟨G, hG⟩ : ∃ G, Nat.gcd m0 n0 = G := ⟨_, rfl⟩
  rw [hG]
  obtain ⟨p1, b1, o1, c1, rfl, hr1⟩ := h1
  obtain ⟨p2, b2, o2, c2, rfl, hr2⟩ := h2
  rw [hN] at H1 l1 l2 ⊢
  have HM := Lib.hid (And.intro hG (And.intro hle (And.intro hN l2)))
  have mk0 := mk_limbs0 N (by omega)
  have mk1 := fun w => mk_limbs N w (by omega)
  clear hr1 hr2 hG hle hN
  generalize hM : (Nm.dg W n0).length = M at *
  have HMM := Lib.hid hM
  clear hM
  obtain ⟨w1, hw1⟩ : ∃ w1 : World, w1 = w.alloc (.cells (uv (List.replicate N 0)).toArray 81) := ⟨_, rfl⟩
  have hb1 : Hid (Below w.heap.size w w1) := by rw [hw1]; exact (Below.refl _ _).alloc (Nat.le_refl _) _
  have ha1 : Hid (Arr w1 w.heap.size (List.replicate N 0)) := by rw [hw1]; exact Arr.made w _
  have Hw1 := Lib.hid hw1
  clear hw1
  go_enter Try.func96, Try.ntmps96
  go_wp2_with (at_builtin; rw [← Hw1.out]; refine wpList_append_row rfl (.tmp 13) (.tmp 14) rfl w.heap.size N (List.replicate N 0) (Nm.dg W m0) _ rfl ha1.out (by simp) rfl (H1.out.below hb1.out (Nat.le_refl _)) (by have := HM.out.2.2.1; omega) ?_)
  intro w2 har2 ho2
  have n2 : Hid (NB w2 w.heap.size N m0) := ⟨⟨_, har2, by simp; have := HM.out.2.2.1; omega, by rw [List.take_left]⟩, by have := HM.out.2.2.1; omega⟩
  have hb2 := Lib.hid (ho2.below hb1.out (Nat.le_refl _))
  have hgt : Hid (w.heap.size < w2.heap.size) := n2.out.lt
  clear har2 ho2 ha1 hb1 Hw1
  obtain ⟨w3, hw3⟩ : ∃ w3 : World, w3 = w2.alloc (.cells (uv (List.replicate N 0)).toArray 81) := ⟨_, rfl⟩
  have hb3 : Hid (Below w.heap.size w w3) := by rw [hw3]; exact hb2.out.alloc hb2.out.size _
  have ha3 : Hid (Arr w3 w2.heap.size (List.replicate N 0)) := by rw [hw3]; exact Arr.made w2 _
  have n3 : Hid (NB w3 w.heap.size N m0) := by rw [hw3]; exact n2.out.keep (Below.heap_alloc w2 _ _ n2.out.lt)
  have Hw3 := Lib.hid hw3
  clear hw3
  go_wp2_with (at_builtin; rw [← Hw3.out]; refine wpList_append_row rfl (.tmp 18) (.tmp 19) rfl w2.heap.size N (List.replicate N 0) (Nm.dg W n0) _ rfl ha3.out (by simp) rfl (H2.out.below hb3.out (Nat.le_refl _)) (by have := HM.out.2.2.2; have := HM.out.2.2.1; have := HMM.out; omega) ?_)
  intro w4 har4 ho4
  have n4 : Hid (NB w4 w2.heap.size N n0) := ⟨⟨_, har4, by simp; have := HM.out.2.2.1; have := HM.out.2.2.2; have := HMM.out; omega, by rw [List.take_left]⟩, by have := HM.out.2.2.1; have := HM.out.2.2.2; have := HMM.out; omega⟩
  have n4x : Hid (NB w4 w.heap.size N m0) := n3.out.keep (ho4.block _ (Nat.ne_of_lt hgt.out))
  have hb4 := Lib.hid (ho4.below hb3.out (Nat.le_of_lt hgt.out))
  obtain ⟨gx, hgx⟩ : ∃ gx, w.heap.size = gx := ⟨_, rfl⟩
  obtain ⟨gy, hgy⟩ : ∃ gy, w2.heap.size = gy := ⟨_, rfl⟩
  rw [hgx] at n4x hgt hb4 ⊢
  rw [hgy] at n4 hgt ⊢
  have HGX := Lib.hid hgx
  clear har4 ho4 ha3 hb3 Hw3 n3 n2 hb2 hgx hgy
  go_wp2
  go_cut [6, 7] (fun xv yv wx => ∃ gX gY : Nat, xv = .slice (some ⟨gX, 0, none⟩) N N ∧ yv = .slice (some ⟨gY, 0, none⟩) N N ∧ Hid (Four wx N gx gy gX gY m0 n0 ∧ gx ≤ gX ∧ gx ≤ gY ∧ Below gx w wx))
  case first =>
    rename_i J0 K0 hRJ hMK
    go_region
    all_goals
      refine hMK _ _ (Met.intro (hRJ _ _ ?_))
      (repeat apply Exists.intro)
      refine ⟨?_, rfl⟩
      first
        | exact ⟨_, _, rfl, rfl, four_made n4x.out n4.out (Nat.ne_of_lt hgt.out) hb4.out⟩
        | exact ⟨_, _, rfl, rfl, (four_made n4x.out n4.out (Nat.ne_of_lt hgt.out) hb4.out).1.swap, (four_made n4x.out n4.out (Nat.ne_of_lt hgt.out) hb4.out).2.2.1, (four_made n4x.out n4.out (Nat.ne_of_lt hgt.out) hb4.out).2.1, (four_made n4x.out n4.out (Nat.ne_of_lt hgt.out) hb4.out).2.2.2⟩
  obtain ⟨gX, gY, rfl, rfl, hcut⟩ := hcut
  clear n4 n4x hb4 mk0 mk1 H1 H2
  go_wp2_with fail
  go_loopw [4, 5, 6, 7] (fun xv yv Xv Yv wr => ∃ (wz : World) (gx' gy' gX' gY' m n LX LY : Nat), wz = wr ∧ xv = .slice (some ⟨gx', 0, none⟩) (Nm.dg W m).length N ∧ yv = .slice (some ⟨gy', 0, none⟩) (Nm.dg W n).length N ∧ Xv = .slice (some ⟨gX', 0, none⟩) LX N ∧ Yv = .slice (some ⟨gY', 0, none⟩) LY N ∧ LX ≤ N ∧ LY ≤ N ∧
      Hid (Four wz N gx' gy' gX' gY' m n) ∧ Hid (gx ≤ gx' ∧ gx ≤ gy' ∧ gx ≤ gX' ∧ gx ≤ gY') ∧ Hid (Nat.gcd m n = G ∧ n ≤ m) ∧ Hid (Below gx w wz))
    (fun xv yv _ _ wr => numW wr xv + numW wr yv)
  case atStart => exact ⟨_, gx, gy, gX, gY, m0, n0, N, N, rfl, rfl, by rw [HMM.out], rfl, rfl, Nat.le_refl _, Nat.le_refl _, hcut.out.1, ⟨Nat.le_refl _, Nat.le_of_lt hgt.out, hcut.out.2.1, hcut.out.2.2.1⟩, ⟨HM.out.1, HM.out.2.1⟩, hcut.out.2.2.2⟩
  case round =>
    clear hcut
    obtain ⟨wz, gx', gy', gX', gY', m, n, LX, LY, rfl, rfl, rfl, rfl, rfl, hLX, hLY, hf, hg, hgc, hbl⟩ := hrel
    obtain ⟨lm, hlm⟩ : ∃ lm, (Nm.dg W m).length = lm := ⟨_, rfl⟩
    obtain ⟨ln, hln⟩ : ∃ ln, (Nm.dg W n).length = ln := ⟨_, rfl⟩
    have hfx := hf.out.x.2
    have hfy := hf.out.y.2
    have hmn := dgW_mono hgc.out.2
    rw [hlm] at hfx hmn ⊢
    rw [hln] at hfy hmn ⊢
    by_cases h1 : 1 < ln
    · have h1' : (1 : Int) < (ln : Int) := by omega
      have hS := surest_any (Nm.dg W m) (Nm.dg W n) (some ⟨gx', 0, none⟩) gx' 0 N (some ⟨gy', 0, none⟩) gy' 0 N (lm - 2) wz (by omega) (by omega) (fun _ => rfl) (fun _ => rfl) hf.out.x.cells hf.out.y.cells (Nm.dig_dg W2 m) (Nm.dig_dg W2 n) (Nm.nrm_dg W2 m) (Nm.nrm_dg W2 n) (by rw [Nm.val_dg W2, Nm.val_dg W2]; exact hgc.out.2)
      rw [Nm.val_dg W2, Nm.val_dg W2, hlm, hln] at hS
      have HS := Lib.hid hS
      clear hS
      have hn0 : 0 < n := by
        rcases Nat.eq_zero_or_pos n with h | h
        · rw [h, Nm.dg_zero] at hln; simp at hln; omega
        · exact h
      go_wp2_with fail
      refine HS.out.mono ?_
      rintro e w5 ⟨ev, u0, v0, u1, v1, rfl, hst, bu0, bv0, bu1, bv1, b5⟩
      have b5 := Lib.hid b5
      obtain ⟨w6, hw6⟩ : ∃ w6 : World, w6 = w5.alloc (.cells #[.int .u64 (u0 : Int), .int .u64 (v0 : Int), .int .u64 (u1 : Int), .int .u64 (v1 : Int), .bool ev] 135) := ⟨_, rfl⟩
      have hs6 : Hid (SB w6 w5.heap.size u0 v0 u1 v1 ev) := by rw [hw6]; exact heap_alloc_new w5 _
      have HF6 : Hid (Four w6 N gx' gy' gX' gY' m n) := by rw [hw6]; exact (hf.out.below b5.out).below ((Below.refl w5.heap.size w5).alloc (Nat.le_refl _) _)
      have Hw6 := Lib.hid hw6
      have HSZ : Hid (gx ≤ wz.heap.size) := Nat.le_trans hg.out.1 (Nat.le_of_lt hf.out.x.lt)
      have HSZ5 : Hid (gx ≤ w5.heap.size) := Nat.le_trans HSZ.out b5.out.size
      have HSZ6 : Hid (gx ≤ w6.heap.size) := by rw [hw6]; exact Nat.le_trans HSZ5.out (by simp)
      have HB6 : Hid (Below gx w w6) := by rw [hw6]; exact (hbl.out.trans (b5.out.mono HSZ.out)).alloc HSZ5.out _
      obtain ⟨k0, k1, k2, k3, k4⟩ := hs6.out.cells
      clear hw6 k0 k2 k3 k4 HS
      by_cases hv : v0 = 0
      · have hvj : ((v0 : Int) == 0) = true := by simp [hv]
        clear hv
        have HD := Lib.hid (divOK_any m n hn0 (by omega) (by omega) _ _ w6 (HF6.out.x.rd (by omega)) (HF6.out.y.rd (by omega)))
        rw [hlm, hln] at HD
        clear hst
        go_wp2_with fail
        rw [← Hw6.out]
        go_wp2_with fail
        refine HD.out.mono ?_
        rintro e w7 ⟨vq, vr, rfl, hq, hr, b7⟩
        have HR := Lib.hid hr
        have HF7 := Lib.hid (HF6.out.below b7)
        have hrl : (Nm.dg W (m % n)).length ≤ N := by have := dgW_mono (Nat.le_of_lt (Nat.mod_lt m hn0)); omega
        obtain ⟨l, hA7, hl7⟩ := HF7.out.x.fb
        have HA7 := Lib.hid hA7
        have HB7 := Lib.hid (HB6.out.trans (b7.mono HSZ6.out))
        clear hq hr b7 hA7 k1
        go_wp2_with (at_builtin; refine wpList_append_row rfl (.tmp 44) (.tmp 45) rfl gx' N l (Nm.dg W (m % n)) _ rfl HA7.out hl7 rfl HR.out hrl ?_)
        intro w8 har8 ho8
        have HF8 := Lib.hid (HF7.out.euclid ho8 hl7 har8 hrl)
        have HB8 := Lib.hid (ho8.below HB7.out hg.out.1)
        have HNUM : Hid (numW w8 (.slice (some ⟨gy', 0, none⟩) ln N) + numW w8 (.slice (some ⟨gx', 0, none⟩) (Nm.dg W (m % n)).length N) < numW wz (.slice (some ⟨gx', 0, none⟩) lm N) + numW wz (.slice (some ⟨gy', 0, none⟩) ln N)) := by
          show _ < _
          have e1 := HF8.out.x.rd (by omega)
          have e2 := HF8.out.y.rd (by omega)
          rw [hln] at e1
          have e3 := hf.out.x.rd (by omega)
          have e4 := hf.out.y.rd (by omega)
          rw [hlm] at e3
          rw [hln] at e4
          rw [numW_eq e1, numW_eq e2, numW_eq e3, numW_eq e4]
          have := Nat.mod_lt m hn0
          have := hgc.out.2
          omega
        have HGG : Hid (Nat.gcd n (m % n) = G ∧ m % n ≤ n) := ⟨by have h5 := hgc.out.1; rw [Nat.gcd_comm, Nat.gcd_rec] at h5; rw [Nat.gcd_comm]; exact h5, Nat.le_of_lt (Nat.mod_lt m hn0)⟩
        clear har8 ho8
        go_wp2
        go_roundw
        case rel => exact ⟨_, gy', gx', gX', gY', n, m % n, LX, LY, rfl, by rw [hln], rfl, rfl, rfl, hLX, hLY, HF8, ⟨hg.out.2.1, hg.out.1, hg.out.2.2.1, hg.out.2.2.2⟩, HGG, HB8⟩
        case measure => exact HNUM.out
      · have hvi : ¬ (v0 : Int) = 0 := by omega
        have hvj : ((v0 : Int) == 0) = false := by simp; omega
        obtain ⟨p, q, hs, hqp, hpq, hgg⟩ := (hst.resolve_left hv).gcd hv
        have hmW := Nm.val_lt (Nm.dig_dg W2 m)
        rw [Nm.val_dg W2, hlm] at hmW
        have HPW : Hid (p < W ^ lm) := by show _ < _; omega
        have HQW : Hid (q < W ^ lm) := by show _ < _; omega
        go_wp2_with fail
        rw [← Hw6.out]
        clear hmW
        cases ev with
        | true =>
          simp only [if_true] at hs
          have D1 := Lib.hid (fun wA (h : Four wA N gx' gy' gX' gY' m n) => diff_nb (g := gX') (ga := gx') (gb := gy') (k := lm) (u := u0) (v := v0) (D := p) h.x h.y h.X h.xX h.yX (by omega) (by omega) hfx (by omega) (by rw [Nat.mul_comm, Nat.mul_comm m]; exact hs.1) HPW.out bu0 bv0)
          have D2 := Lib.hid (fun wA (h : Four wA N gx' gy' gX' gY' m n) => diff_nb (g := gY') (ga := gy') (gb := gx') (k := lm) (u := v1) (v := u1) (D := q) h.y h.x h.Y h.yY h.xY (by omega) (by omega) hfx (by omega) (by rw [Nat.mul_comm, Nat.mul_comm n]; exact hs.2) HQW.out bv1 bu1)
          rw [hlm, hln] at D1 D2
          clear hs hst
          go_wp2_with fail
          go_quiet (fail)
          obtain ⟨wA, hwA⟩ : ∃ wA : World, wA = w6.drewN nq := ⟨_, rfl⟩
          have hfA : Hid (Four wA N gx' gy' gX' gY' m n) := by rw [hwA]; exact HF6.out.drewN nq
          have hbA : Hid (Below w6.heap.size w6 wA) := by rw [hwA]; exact belowDrewN (Below.refl _ _) nq
          have hsA : Hid (SB wA w5.heap.size u0 v0 u1 v1 true) := by rw [hwA]; exact hs6.out
          rw [← hwA]
          have HwA := Lib.hid hwA
          clear hwA k1
          obtain ⟨k0, k1, k2, k3, k4⟩ := hsA.out.cells
          go_wp2_with fail
          refine (D1.out _ hfA.out).mono ?_
          rintro e wB ⟨rfl, db, ob⟩
          have hfB := Lib.hid (hfA.out.wroteX ob db.nb.fb)
          have DB1 := Lib.hid db
          have hbB := Lib.hid ob
          have hsB : Hid (SB wB w5.heap.size u0 v0 u1 v1 true) := (ob.block _ (Ne.symm (Nat.ne_of_lt (Nat.lt_of_lt_of_le hf.out.X.lt b5.out.size)))).trans hsA.out
          clear db ob k0 k1 k2 k3 k4
          obtain ⟨k0, k1, k2, k3, k4⟩ := hsB.out.cells
          go_wp2_with fail
          refine (D2.out _ hfB.out).mono ?_
          rintro e wC ⟨rfl, db, ob⟩
          have DB2 := Lib.hid db
          have hbC := Lib.hid ob
          have DB3 := Lib.hid (DB1.out.keep (ob.block _ hf.out.XY))
          have T1 := Lib.hid (DB3.out.trim (by omega))
          have T2 := Lib.hid (DB2.out.trim (by omega))
          have HF9 := Lib.hid (hfA.out.lehmer (k := 0) hbB.out hbC.out DB1.out.nb DB2.out.nb)
          have HB9 : Hid (Below gx w wC) := hbC.out.below (hbB.out.below (HB6.out.trans (hbA.out.mono HSZ6.out)) hg.out.2.2.1) hg.out.2.2.2
          have HNUM : Hid (numW wC (.slice (some ⟨gX', 0, none⟩) (Nm.dg W p).length N) + numW wC (.slice (some ⟨gY', 0, none⟩) (Nm.dg W q).length N) < numW wz (.slice (some ⟨gx', 0, none⟩) lm N) + numW wz (.slice (some ⟨gy', 0, none⟩) ln N)) := by
            show _ < _
            rw [numW_eq (HF9.out.x.rd (by omega)), numW_eq (HF9.out.y.rd (by omega)), ← hlm, ← hln, numW_eq (hf.out.x.rd (by omega)), numW_eq (hf.out.y.rd (by omega))]
            omega
          clear db ob k0 k1 k2 k3 k4 D1 D2 DB1 DB2 hbB hbC
          go_wp2_with fail
          refine T1.out.mono ?_
          rintro e w' ⟨rfl, rfl⟩
          go_wp2_with fail
          refine T2.out.mono ?_
          rintro e w' ⟨rfl, rfl⟩
          go_wp2
          go_roundw
          case rel => exact ⟨_, gX', gY', gx', gy', p, q, lm, ln, rfl, rfl, rfl, rfl, rfl, hfx, hfy, HF9, ⟨hg.out.2.2.1, hg.out.2.2.2, hg.out.1, hg.out.2.1⟩, ⟨hgg.trans hgc.out.1, hqp⟩, HB9⟩
          case measure => exact HNUM.out
        | false =>
          simp only [Bool.false_eq_true, if_false] at hs
          have D1 := Lib.hid (fun wA (h : Four wA N gx' gy' gX' gY' m n) => diff_nb (g := gX') (ga := gy') (gb := gx') (k := lm) (u := v0) (v := u0) (D := p) h.y h.x h.X h.yX h.xX (by omega) (by omega) hfx (by omega) (by rw [Nat.mul_comm, Nat.mul_comm n]; exact hs.1) HPW.out bv0 bu0)
          have D2 := Lib.hid (fun wA (h : Four wA N gx' gy' gX' gY' m n) => diff_nb (g := gY') (ga := gx') (gb := gy') (k := lm) (u := u1) (v := v1) (D := q) h.x h.y h.Y h.xY h.yY (by omega) (by omega) hfx (by omega) (by rw [Nat.mul_comm, Nat.mul_comm m]; exact hs.2) HQW.out bu1 bv1)
          rw [hlm, hln] at D1 D2
          clear hs hst
          go_wp2_with fail
          go_quiet (fail)
          obtain ⟨wA, hwA⟩ : ∃ wA : World, wA = w6.drewN nq := ⟨_, rfl⟩
          have hfA : Hid (Four wA N gx' gy' gX' gY' m n) := by rw [hwA]; exact HF6.out.drewN nq
          have hbA : Hid (Below w6.heap.size w6 wA) := by rw [hwA]; exact belowDrewN (Below.refl _ _) nq
          have hsA : Hid (SB wA w5.heap.size u0 v0 u1 v1 false) := by rw [hwA]; exact hs6.out
          rw [← hwA]
          have HwA := Lib.hid hwA
          clear hwA k1
          obtain ⟨k0, k1, k2, k3, k4⟩ := hsA.out.cells
          go_wp2_with fail
          refine (D1.out _ hfA.out).mono ?_
          rintro e wB ⟨rfl, db, ob⟩
          have hfB := Lib.hid (hfA.out.wroteX ob db.nb.fb)
          have DB1 := Lib.hid db
          have hbB := Lib.hid ob
          have hsB : Hid (SB wB w5.heap.size u0 v0 u1 v1 false) := (ob.block _ (Ne.symm (Nat.ne_of_lt (Nat.lt_of_lt_of_le hf.out.X.lt b5.out.size)))).trans hsA.out
          clear db ob k0 k1 k2 k3 k4
          obtain ⟨k0, k1, k2, k3, k4⟩ := hsB.out.cells
          go_wp2_with fail
          refine (D2.out _ hfB.out).mono ?_
          rintro e wC ⟨rfl, db, ob⟩
          have DB2 := Lib.hid db
          have hbC := Lib.hid ob
          have DB3 := Lib.hid (DB1.out.keep (ob.block _ hf.out.XY))
          have T1 := Lib.hid (DB3.out.trim (by omega))
          have T2 := Lib.hid (DB2.out.trim (by omega))
          have HF9 := Lib.hid (hfA.out.lehmer (k := 0) hbB.out hbC.out DB1.out.nb DB2.out.nb)
          have HB9 : Hid (Below gx w wC) := hbC.out.below (hbB.out.below (HB6.out.trans (hbA.out.mono HSZ6.out)) hg.out.2.2.1) hg.out.2.2.2
          have HNUM : Hid (numW wC (.slice (some ⟨gX', 0, none⟩) (Nm.dg W p).length N) + numW wC (.slice (some ⟨gY', 0, none⟩) (Nm.dg W q).length N) < numW wz (.slice (some ⟨gx', 0, none⟩) lm N) + numW wz (.slice (some ⟨gy', 0, none⟩) ln N)) := by
            show _ < _
            rw [numW_eq (HF9.out.x.rd (by omega)), numW_eq (HF9.out.y.rd (by omega)), ← hlm, ← hln, numW_eq (hf.out.x.rd (by omega)), numW_eq (hf.out.y.rd (by omega))]
            omega
          clear db ob k0 k1 k2 k3 k4 D1 D2 DB1 DB2 hbB hbC
          go_wp2_with fail
          refine T1.out.mono ?_
          rintro e w' ⟨rfl, rfl⟩
          go_wp2_with fail
          refine T2.out.mono ?_
          rintro e w' ⟨rfl, rfl⟩
          go_wp2
          go_roundw
          case rel => exact ⟨_, gX', gY', gx', gy', p, q, lm, ln, rfl, rfl, rfl, rfl, rfl, hfx, hfy, HF9, ⟨hg.out.2.2.1, hg.out.2.2.2, hg.out.1, hg.out.2.1⟩, ⟨hgg.trans hgc.out.1, hqp⟩, HB9⟩
          case measure => exact HNUM.out
    · have h1' : ¬ (1 : Int) < (ln : Int) := by omega
      have HE : Hid (RedPost G w (.returned (.tuple #[.slice (some ⟨gx', 0, none⟩) lm N, .slice (some ⟨gy', 0, none⟩) ln N])) wz) := by
        have e3 := hf.out.x.rd (by omega)
        have e4 := hf.out.y.rd (by omega)
        rw [hlm] at e3
        rw [hln] at e4
        exact ⟨_, _, m, n, rfl, e3, e4, hgc.out.1, by omega, hgc.out.2, by omega, by rw [HGX.out]; exact hbl.out⟩
      go_wp2
      go_ret2
      exact HE.out
end Go.Proofs.Ytlmklhffafcmmaa

/- The function wide.commonDivisor for any two magnitudes. -/
namespace Go.Proofs.Ytlmklhffafcmmaa
open Go.RowKit

set_option maxRecDepth 100000 in
set_option maxHeartbeats 2000000 in
theorem commonDivisor_big (v1 v2 : Value) (m n : Nat) (w : World) (sw : Bool) (h1 : Rd w v1 (Nm.dg W m)) (h2 : Rd w v2 (Nm.dg W n)) (l1 : (Nm.dg W m).length ≤ 900000000) (hm : n ≤ m) (hsw : sw = true → n < m) (hn : 1 < (Nm.dg W n).length) :
    Calls Try.prog 70 (if sw = true then #[v2, v1] else #[v1, v2]) w (Gives (Nat.gcd m n) w) := by
  have l2 := dgW_mono hm
  have HC1 := compareLimbs_any v1 v2 _ _ w h1 h2 (by omega) (by omega) (Nm.dig_dg W2 m) (Nm.dig_dg W2 n) (Nm.nrm_dg W2 m) (Nm.nrm_dg W2 n)
  have HC2 := compareLimbs_any v2 v1 _ _ w h2 h1 (by omega) (by omega) (Nm.dig_dg W2 n) (Nm.dig_dg W2 m) (Nm.nrm_dg W2 n) (Nm.nrm_dg W2 m)
  rw [Nm.val_dg W2, Nm.val_dg W2] at HC1 HC2
  have HRP := Lib.hid (fun k => reducePair_any v1 v2 m n (w.drewN k) (h1.drewN k) (h2.drewN k) hm l1)
  obtain ⟨p1, b1, o1, c1, rfl, hr1⟩ := h1
  obtain ⟨p2, b2, o2, c2, rfl, hr2⟩ := h2
  have l3 := dgW_mono hm
  clear hr1 hr2
  generalize Nat.gcd m n = G at *
  have Hcc0 : Hid (∃ cc : Int, ((sw = true ∧ cc < 0) ∨ (sw = false ∧ 0 ≤ cc)) ∧ Calls Try.prog 88 (if sw = true then #[.slice p2 (Nm.dg W n).length c2, .slice p1 (Nm.dg W m).length c1] else #[.slice p1 (Nm.dg W m).length c1, .slice p2 (Nm.dg W n).length c2]) w (CmpPost cc w)) := by
    cases sw with
    | false => exact ⟨_, Or.inr ⟨rfl, cmpN_ge hm⟩, HC1⟩
    | true => exact ⟨_, Or.inl ⟨rfl, by rw [cmpN_lt (hsw rfl)]; decide⟩, HC2⟩
  clear HC1 HC2 hm hsw
  generalize (Nm.dg W m).length = lm at *
  generalize (Nm.dg W n).length = ln at *
  obtain ⟨cc, hcc, hcall⟩ := Hcc0.out
  clear Hcc0 l2 l3
  have HC := Lib.hid hcall
  clear hcall
  have hn2 : (1 : Int) < (ln : Int) := by omega
  rcases hcc with ⟨rfl, hcc⟩ | ⟨rfl, hcc⟩
  · simp only [if_true] at HC ⊢
    go_enter Try.func70, Try.ntmps70
    go_wp2_with fail
    refine HC.out.mono ?_
    rintro e w' ⟨rfl, k, rfl⟩
    go_wp2_with fail
    refine (HRP.out k).mono ?_
    rintro e w6 ⟨va, vb, m', n', rfl, ha, hb, hg, hl, hle, hlm, hbl⟩
    have HA := Lib.hid ha
    have hbb := Lib.hid hbl
    have HBl : Hid (Below w.heap.size w w6) := (belowDrewN (Below.refl _ _) k).trans hbl
    obtain ⟨pa, ba, oa, ca, rfl, hra⟩ := ha
    rcases Nat.eq_zero_or_pos n' with h0 | h0
    · subst h0
      rw [Nat.gcd_zero_right] at hg
      subst hg
      rw [Nm.dg_zero] at hb
      obtain ⟨pb, bb, ob, cb, rfl, hrb⟩ := hb
      clear hrb hra hbl hle hl hlm
      go_wp2
      go_ret
      exact ⟨_, rfl, HA.out, HBl.out⟩
    · have hn' : n' < W := by
        have h3 := Nm.val_lt (Nm.dig_dg W2 n')
        rw [Nm.val_dg W2] at h3
        have h4 : W ^ (Nm.dg W n').length ≤ W ^ 1 := Nat.pow_le_pow_right W0 hl
        rw [Nat.pow_one] at h4
        omega
      have HRm := Lib.hid (fun W' (hb : Below w6.heap.size w6 W') => remainderWord_any _ _ n' W' (HA.out.below hb (Nat.le_refl _)) (by omega) (Nm.dig_dg W2 m') hn' h0)
      rw [Nm.val_dg W2] at HRm
      have hmod := Nat.mod_lt m' h0
      have HCw := Lib.hid (fun W' => commonWord_any n' (m' % n') W' hn' (Nat.lt_trans hmod hn'))
      have hgcd : Nat.gcd n' (m' % n') = G := by rw [Nat.gcd_comm n', ← Nat.gcd_rec, Nat.gcd_comm]; exact hg
      rw [hgcd] at HCw
      have hg0 : G ≠ 0 := fun h => by rw [← hg] at h; have := Nat.eq_zero_of_gcd_eq_zero_right h; omega
      have hgW : G < W := by rw [← hg]; exact Nat.lt_of_le_of_lt (Nat.gcd_le_right m' h0) hn'
      have HD := Lib.hid (dg_one hg0 hgW)
      rw [dg_one (by omega) hn'] at hb
      obtain ⟨p3, b3, o3, c3, rfl, _, _, hp3, _, hx3⟩ := hb
      obtain rfl := hp3 (by simp)
      have e3 := hx3 0 (by simp)
      simp only [List.getElem_cons_zero, Nat.add_zero, List.length_singleton] at e3
      simp only [List.length_singleton]
      generalize m' % n' = rm at *
      clear hp3 hx3 hgcd hg0 hgW hmod hra hbl hg hle hl hlm HC HRP
      generalize (Nm.dg W m').length = lm' at *
      go_wp2_with fail
      go_region_held3 (fun W' => W'.cell? ⟨b3, o3, none⟩ = some (.int .u64 (n' : Int))) (go_keep)
        (first
          | (go_at_call 98; (with_reducible refine (HRm.out _ ?_).mono ?_); (exact belowDrewN (Below.refl _ _) _); rintro e w1 ⟨rfl, n1, rfl⟩)
          | (go_at_call 97; (with_reducible refine (HCw.out _).mono ?_); rintro e w1 ⟨rfl, n1, rfl⟩))
      go_wp2
      go_ret
      exact ⟨_, rfl, by rw [HD.out]; exact Rd.one (w6.drewN _) G, (belowDrewN HBl.out _).alloc (by have := HBl.out.size; exact this) _⟩
  · simp only [Bool.false_eq_true, if_false] at HC ⊢
    go_enter Try.func70, Try.ntmps70
    go_wp2_with fail
    refine HC.out.mono ?_
    rintro e w' ⟨rfl, k, rfl⟩
    go_wp2_with fail
    refine (HRP.out k).mono ?_
    rintro e w6 ⟨va, vb, m', n', rfl, ha, hb, hg, hl, hle, hlm, hbl⟩
    have HA := Lib.hid ha
    have hbb := Lib.hid hbl
    have HBl : Hid (Below w.heap.size w w6) := (belowDrewN (Below.refl _ _) k).trans hbl
    obtain ⟨pa, ba, oa, ca, rfl, hra⟩ := ha
    rcases Nat.eq_zero_or_pos n' with h0 | h0
    · subst h0
      rw [Nat.gcd_zero_right] at hg
      subst hg
      rw [Nm.dg_zero] at hb
      obtain ⟨pb, bb, ob, cb, rfl, hrb⟩ := hb
      clear hrb hra hbl hle hl hlm
      go_wp2
      go_ret
      exact ⟨_, rfl, HA.out, HBl.out⟩
    · have hn' : n' < W := by
        have h3 := Nm.val_lt (Nm.dig_dg W2 n')
        rw [Nm.val_dg W2] at h3
        have h4 : W ^ (Nm.dg W n').length ≤ W ^ 1 := Nat.pow_le_pow_right W0 hl
        rw [Nat.pow_one] at h4
        omega
      have HRm := Lib.hid (fun W' (hb : Below w6.heap.size w6 W') => remainderWord_any _ _ n' W' (HA.out.below hb (Nat.le_refl _)) (by omega) (Nm.dig_dg W2 m') hn' h0)
      rw [Nm.val_dg W2] at HRm
      have hmod := Nat.mod_lt m' h0
      have HCw := Lib.hid (fun W' => commonWord_any n' (m' % n') W' hn' (Nat.lt_trans hmod hn'))
      have hgcd : Nat.gcd n' (m' % n') = G := by rw [Nat.gcd_comm n', ← Nat.gcd_rec, Nat.gcd_comm]; exact hg
      rw [hgcd] at HCw
      have hg0 : G ≠ 0 := fun h => by rw [← hg] at h; have := Nat.eq_zero_of_gcd_eq_zero_right h; omega
      have hgW : G < W := by rw [← hg]; exact Nat.lt_of_le_of_lt (Nat.gcd_le_right m' h0) hn'
      have HD := Lib.hid (dg_one hg0 hgW)
      rw [dg_one (by omega) hn'] at hb
      obtain ⟨p3, b3, o3, c3, rfl, _, _, hp3, _, hx3⟩ := hb
      obtain rfl := hp3 (by simp)
      have e3 := hx3 0 (by simp)
      simp only [List.getElem_cons_zero, Nat.add_zero, List.length_singleton] at e3
      simp only [List.length_singleton]
      generalize m' % n' = rm at *
      clear hp3 hx3 hgcd hg0 hgW hmod hra hbl hg hle hl hlm HC HRP
      generalize (Nm.dg W m').length = lm' at *
      go_wp2_with fail
      go_region_held3 (fun W' => W'.cell? ⟨b3, o3, none⟩ = some (.int .u64 (n' : Int))) (go_keep)
        (first
          | (go_at_call 98; (with_reducible refine (HRm.out _ ?_).mono ?_); (exact belowDrewN (Below.refl _ _) _); rintro e w1 ⟨rfl, n1, rfl⟩)
          | (go_at_call 97; (with_reducible refine (HCw.out _).mono ?_); rintro e w1 ⟨rfl, n1, rfl⟩))
      go_wp2
      go_ret
      exact ⟨_, rfl, by rw [HD.out]; exact Rd.one (w6.drewN _) G, (belowDrewN HBl.out _).alloc (by have := HBl.out.size; exact this) _⟩

/-- The common divisor of any two magnitudes. -/
theorem gcdOK_any (m n : Nat) (l1 : (Nm.dg W m).length ≤ 900000000) (l2 : (Nm.dg W n).length ≤ 900000000) : GcdOK m n := by
  by_cases h : m < W ∨ n < W
  · exact gcdOK_small m n h (by omega) (by omega)
  · intro v1 v2 w h1 h2
    have big : ∀ k, ¬ k < W → 1 < (Nm.dg W k).length := fun k hk => by
      rcases Nat.lt_or_ge 1 (Nm.dg W k).length with g | g
      · exact g
      · have h3 := Nm.val_lt (Nm.dig_dg W2 k)
        rw [Nm.val_dg W2] at h3
        have h4 : W ^ (Nm.dg W k).length ≤ W ^ 1 := Nat.pow_le_pow_right W0 g
        rw [Nat.pow_one] at h4
        omega
    rcases Nat.lt_or_ge m n with g | g
    · rw [Nat.gcd_comm]
      exact commonDivisor_big v2 v1 n m w true h2 h1 l2 (Nat.le_of_lt g) (fun _ => g) (big m (by omega))
    · exact commonDivisor_big v1 v2 m n w false h1 h2 l1 g (fun h => by cases h) (big n (by omega))
end Go.Proofs.Ytlmklhffafcmmaa

/- Products, quotients and common divisors of short wide integers, as integers. -/
namespace Go.Proofs.Ytlmklhffafcmmaa
open Go.RowKit

set_option maxRecDepth 100000 in
set_option maxHeartbeats 1000000 in
theorem Quo_invalid (a b : Bool) (s t : ByteArray) (w : World) (z1 : s.size ≤ 140737488351232) (z2 : t.size ≤ 140737488351232) (hv : (vld a s && vld b t) = false) :
    Calls Try.prog 35 #[.agg #[.bool a, .string s], .agg #[.bool b, .string t]] w (Q3Post (wd false 0) (wd false 0) 2 w) := by
  have HA := Lib.hid (fun w => Valid_any a s w z1)
  have HB := Lib.hid (fun w => Valid_any b t w z2)
  obtain ⟨w0, hw0⟩ : ∃ w0 : World, w0 = (((w.alloc (.cells #[.bool a, .string s] 23)).alloc (.cells #[.bool b, .string t] 23)).alloc (.cells #[.bool false, .string ⟨#[]⟩] 23)).alloc (.cells #[.bool false, .string ⟨#[]⟩] 23) := ⟨_, rfl⟩
  have hb0 : Hid (Below w.heap.size w w0) := by rw [hw0]; exact ((((Below.refl _ _).alloc (Nat.le_refl _) _).alloc (by simp) _).alloc (by simp; omega) _).alloc (by simp; omega) _
  have i2 : ZC (.bool b) (.string t) w0 (w.heap.size + 1) := by rw [hw0]; refine ⟨?_, ?_, ?_, ?_⟩ <;> simp [go_sem]
  have i3 : ZC (.bool false) (.string ⟨#[]⟩) w0 (w.heap.size + 1 + 1) := by rw [hw0]; refine ⟨?_, ?_, ?_, ?_⟩ <;> simp [go_sem]
  have i4 : ZC (.bool false) (.string ⟨#[]⟩) w0 (w.heap.size + 1 + 1 + 1) := by rw [hw0]; refine ⟨?_, ?_, ?_, ?_⟩ <;> simp [go_sem]
  have I2 := Lib.hid i2
  have I3 := Lib.hid i3
  have I4 := Lib.hid i4
  have Hw0 := Lib.hid hw0
  clear i2 i3 i4 hw0
  cases h1 : vld a s with
  | false =>
    rw [h1] at HA
    clear h1 hv
    go_enter Try.func35, Try.ntmps35
    go_wp2_with fail
    rw [← Hw0.out]
    refine (HA.out _).mono ?_
    rintro e wa ⟨rfl, c⟩
    obtain ⟨m0, m1, m2, m3⟩ := I3.out.next c
    obtain ⟨n0, n1, n2, n3⟩ := I4.out.next c
    have HZ := Lib.hid (below_set2 (below_set2 (chain hb0.out c) (g := w.heap.size + 1 + 1) (by omega) (.bool false) (.string ⟨#[]⟩)) (g := w.heap.size + 1 + 1 + 1) (by omega) (.bool false) (.string ⟨#[]⟩))
    clear c
    go_wp2
    exact bodyPost_ret (v := .tuple #[.agg #[.bool false, .string ⟨#[]⟩], .agg #[.bool false, .string ⟨#[]⟩], .int .i64 2]) (by simp [results, Try.results35, go_sem, m0, m1, n0, n1]) rfl ⟨by rw [wd, bs_zero]; simp, HZ.out⟩
  | true =>
    have h2 : vld b t = false := by rw [h1] at hv; simpa using hv
    rw [h1] at HA
    rw [h2] at HB
    clear h1 hv h2
    go_enter Try.func35, Try.ntmps35
    go_wp2_with fail
    rw [← Hw0.out]
    refine (HA.out _).mono ?_
    rintro e wa ⟨rfl, ba⟩
    obtain ⟨q0, q1, _, _⟩ := I2.out.next ba
    have BA := Lib.hid ba
    clear ba
    go_wp2_with fail
    refine (HB.out _).mono ?_
    rintro e wb ⟨rfl, bb⟩
    have c := chain BA.out bb
    obtain ⟨m0, m1, m2, m3⟩ := I3.out.next c
    obtain ⟨n0, n1, n2, n3⟩ := I4.out.next c
    have HZ := Lib.hid (below_set2 (below_set2 (chain hb0.out c) (g := w.heap.size + 1 + 1) (by omega) (.bool false) (.string ⟨#[]⟩)) (g := w.heap.size + 1 + 1 + 1) (by omega) (.bool false) (.string ⟨#[]⟩))
    clear bb c q0 q1
    go_wp2
    exact bodyPost_ret (v := .tuple #[.agg #[.bool false, .string ⟨#[]⟩], .agg #[.bool false, .string ⟨#[]⟩], .int .i64 2]) (by simp [results, Try.results35, go_sem, m0, m1, n0, n1]) rfl ⟨by rw [wd, bs_zero]; simp, HZ.out⟩

theorem sg_mul2 (a b : Bool) (m n : Nat) : sg (a != b) (m * n) = sg a m * sg b n := by
  cases a <;> cases b <;> simp [sg, Int.neg_mul, Int.mul_neg]
theorem sg_zero_iff {b : Bool} {n : Nat} : sg b n = 0 ↔ n = 0 := by unfold sg; split <;> omega
theorem er1_sg {a b : Bool} {m n : Nat} (h0 : 0 < n) : sg false (er1 a m n) = sg a m % sg b n := by
  have hr := Nat.mod_lt m h0
  have hdm := Nat.div_add_mod m n
  have hn : sg a m % sg b n = sg a m % (n : Int) := by
    cases b with
    | false => rfl
    | true => show sg a m % (-(n : Int)) = _; rw [Int.emod_neg]
  rw [hn]
  unfold er1
  cases a with
  | false =>
    rw [if_neg (by simp)]
    simp [sg]
  | true =>
    by_cases hz : m % n = 0
    · rw [if_neg (by simp [hz])]
      show ((m % n : Nat) : Int) = (-(m : Int)) % (n : Int)
      rw [hz]
      have : (n : Int) ∣ -(m : Int) := Int.dvd_neg.2 (Int.natCast_dvd_natCast.2 (Nat.dvd_of_mod_eq_zero hz))
      rw [Int.emod_eq_zero_of_dvd this]; rfl
    · rw [if_pos ⟨rfl, hz⟩]
      show ((n - m % n : Nat) : Int) = (-(m : Int)) % (n : Int)
      have e : -(m : Int) = ((n - m % n : Nat) : Int) + (n : Int) * (-((m / n + 1 : Nat) : Int)) := by
        have h1 : (n : Int) * (-((m / n + 1 : Nat) : Int)) = -((n * (m / n) : Nat) : Int) - n := by push_cast; grind
        rw [h1]; omega
      rw [e, Int.add_mul_emod_self_left, Int.emod_eq_of_lt (by omega) (by omega)]
theorem eq1_sg {a b : Bool} {m n : Nat} (h0 : 0 < n) : sg (a != b) (eq1 a m n) = sg a m / sg b n := by
  have hr := Nat.mod_lt m h0
  have hdm := Nat.div_add_mod m n
  have key : sg a m / (n : Int) = sg a (eq1 a m n) := by
    unfold eq1
    cases a with
    | false =>
      rw [if_neg (by simp)]
      simp [sg]
    | true =>
      by_cases hz : m % n = 0
      · rw [if_neg (by simp [hz])]
        show (-(m : Int)) / (n : Int) = -((m / n : Nat) : Int)
        have e : -(m : Int) = (n : Int) * (-((m / n : Nat) : Int)) := by
          rw [Int.mul_neg, ← Int.natCast_mul]; omega
        rw [e, Int.mul_ediv_cancel_left _ (by omega)]
      · rw [if_pos ⟨rfl, hz⟩]
        show (-(m : Int)) / (n : Int) = -((m / n + 1 : Nat) : Int)
        have e : -(m : Int) = ((n - m % n : Nat) : Int) + (n : Int) * (-((m / n + 1 : Nat) : Int)) := by
          have h1 : (n : Int) * (-((m / n + 1 : Nat) : Int)) = -((n * (m / n) : Nat) : Int) - n := by push_cast; grind
          rw [h1]; omega
        rw [e, Int.add_mul_ediv_left _ _ (by omega), Int.ediv_eq_zero_of_lt (by omega) (by omega), Int.zero_add]
  cases b with
  | false =>
    show sg (a != false) _ = sg a m / (n : Int)
    rw [key]; cases a <;> rfl
  | true =>
    show sg (a != true) _ = sg a m / (-(n : Int))
    rw [Int.ediv_neg, key]
    cases a <;> simp [sg]

/-- Sizes. -/
theorem fits_k {n k : Nat} (hk : k ≤ 8192) (h : n < 256 ^ k) : n < Top ∧ (Nm.dg D9 n).length ≤ 100000 := ⟨lt_topk (by omega) h, Nat.le_trans (dg9_256 h) (by omega)⟩
theorem prod120 {m n j k : Nat} (hk : k = j + j) (h1 : m < 256 ^ j) (h2 : n < 256 ^ j) : m * n < 256 ^ k := by
  rw [hk, Nat.pow_add]
  exact Nat.mul_lt_mul'' h1 h2
theorem mul_z {a b : Bool} {s t : ByteArray} (h1 : vld a s = true) (h2 : vld b t = true) (z1 : s.size ≤ 60) (z2 : t.size ≤ 60) (w : World) :
    Calls Try.prog 34 #[.agg #[.bool a, .string s], .agg #[.bool b, .string t]] w fun e w' => e = .returned (.tuple #[.agg #[.bool (zb (sg a (bv s) * sg b (bv t))), .string (zs (sg a (bv s) * sg b (bv t)))], .int .i64 0]) ∧ Below w.heap.size w w' := by
  have h := Mul_valid a b s t w h1 h2
  obtain ⟨k6, hk6⟩ : ∃ k6 : Nat, k6 = 60 := ⟨_, rfl⟩
  have ht : bv s * bv t < Top := (fits_k (k := k6 + k6) (by omega) (prod120 rfl (bv60 hk6 z1) (bv60 hk6 z2))).1
  unfold WPost at h
  rwa [wres_ok _ ht, werr_ok ht, wd_sg, sg_mul2] at h
theorem quo_z {a b : Bool} {s t : ByteArray} (h1 : vld a s = true) (h2 : vld b t = true) (h0 : sg b (bv t) ≠ 0) (w : World) :
    Calls Try.prog 35 #[.agg #[.bool a, .string s], .agg #[.bool b, .string t]] w fun e w' => e = .returned (.tuple #[.agg #[.bool (zb (sg a (bv s) / sg b (bv t))), .string (zs (sg a (bv s) / sg b (bv t)))], .agg #[.bool (zb (sg a (bv s) % sg b (bv t))), .string (zs (sg a (bv s) % sg b (bv t)))], .int .i64 0]) ∧ Below w.heap.size w w' := by
  have hn : 0 < bv t := by
    rcases Nat.eq_zero_or_pos (bv t) with g | g
    · exact absurd (sg_zero_iff.2 g) h0
    · exact g
  have h := Quo_valid a b s t w (divOK_any _ _ hn (Nat.le_trans (len_top (bv_lt h1)) (by decide)) (Nat.le_trans (len_top (bv_lt h2)) (by decide))) h1 h2 hn
  unfold Q3Post at h
  rwa [wd_sg, wd_sg, eq1_sg hn, er1_sg (b := b) hn] at h
theorem quo0_z {a b : Bool} {s t : ByteArray} (h1 : vld a s = true) (h2 : vld b t = true) (h0 : sg b (bv t) = 0) (w : World) :
    Calls Try.prog 35 #[.agg #[.bool a, .string s], .agg #[.bool b, .string t]] w fun e w' => e = .returned (.tuple #[.agg #[.bool false, .string ⟨#[]⟩], .agg #[.bool false, .string ⟨#[]⟩], .int .i64 3]) ∧ Below w.heap.size w w' := by
  have ht : t = ⟨#[]⟩ := by
    have hz := (bv_zero_iff (vld_can h2)).1 (sg_zero_iff.1 h0)
    apply ByteArray.ext
    apply Array.eq_empty_of_size_eq_zero hz
  subst ht
  have h := Quo_zero a b s w h1 h2
  unfold Q3Post at h
  rwa [wd_none] at h
theorem gcd_z {a b : Bool} {s t : ByteArray} (h1 : vld a s = true) (h2 : vld b t = true) (w : World) :
    Calls Try.prog 36 #[.agg #[.bool a, .string s], .agg #[.bool b, .string t]] w fun e w' => e = .returned (.tuple #[.agg #[.bool (zb (Nat.gcd (sg a (bv s)).natAbs (sg b (bv t)).natAbs : Nat)), .string (zs (Nat.gcd (sg a (bv s)).natAbs (sg b (bv t)).natAbs : Nat))], .int .i64 0]) ∧ Below w.heap.size w w' := by
  have h := GCD_valid a b s t w (gcdOK_any _ _ (Nat.le_trans (len_top (bv_lt h1)) (by decide)) (Nat.le_trans (len_top (bv_lt h2)) (by decide))) h1 h2
  have ht := gcd_top (bv_lt h1) (bv_lt h2)
  unfold WPost at h
  rw [wres_ok _ ht, werr_ok ht, wd_sg] at h
  rw [sg_abs, sg_abs]
  exact h
end Go.Proofs.Ytlmklhffafcmmaa

/- The law WideShifts gives true: to the right. -/
namespace Go.Proofs.Ytlmklhffafcmmaa
open Go.RowKit

theorem D9_2 (n k : Nat) (h : n ≤ 29 * k) : 2 ^ n ≤ D9 ^ k := by
  refine Nat.le_trans (Nat.pow_le_pow_right (by decide) h) ?_
  rw [Nat.pow_mul]
  exact Nat.pow_le_pow_left (by decide) k
theorem D9_3 {n m k : Nat} (h : n < m) (h2 : m = 29 * k) : 2 ^ n < D9 ^ k := Nat.lt_of_lt_of_le (Nat.pow_lt_pow_right (by decide : 1 < 2) h) (D9_2 m k (Nat.le_of_eq h2))
theorem D9_4 {n j k : Nat} (h : n < 256 ^ j) (hj : j ≤ k) : n < D9 ^ k := Nat.lt_of_lt_of_le h (Nat.le_trans (Nat.pow_le_pow_left (by decide) j) (Nat.pow_le_pow_right D90 hj))
theorem x_D9 {s : ByteArray} {k : Nat} (z1 : s.size ≤ 60) (hk : 60 ≤ k) (a : Bool) : (sg a (bv s)).natAbs < D9 ^ k := by
  rw [sg_abs]
  exact D9_4 (bv60 rfl z1) hk
theorem p_D9 {j k : Nat} (h : j < 29 * k) : ((2 : Int) ^ j).natAbs < D9 ^ k := by
  have e : ((2 : Int) ^ j) = ((2 ^ j : Nat) : Int) := by simp
  rw [e, Int.natAbs_natCast]
  exact D9_3 h rfl
/-- The box of a struct of two cells that a region has made, among what else. -/
theorem far1 {g x : Nat} (h : g < x) : ¬ g = x ∧ ¬ x = g ∧ g < x ∧ ¬ x + 1 = g ∧ ¬ g = x + 1 := ⟨by omega, by omega, h, by omega, by omega⟩

set_option maxRecDepth 100000 in
set_option maxHeartbeats 8000000 in
theorem shifts_down (a : Bool) (s : ByteArray) (y : Int) (w : World) (z1 : s.size ≤ 60) (hv : vld a s = true) (k j : Nat) (hy : -y = (k : Int)) (hk : 1 ≤ k) (hk2 : k ≤ 65536) (hj : j ≤ 2000) (hjk : sg a (bv s) / 2 ^ j = sg a (bv s) / 2 ^ k) (hjy : k = j) :
    Calls Try.prog 7 #[.agg #[.bool a, .string s], .int .i64 y] w (Ret (.bool true) w) := by
  have H_known := Lib.hid known_true
  obtain ⟨w0, hw0⟩ : ∃ w0 : World, w0 = (w.alloc (.cells #[.bool a, .string s] 23)).alloc (.cells #[.bool a, .string s] 23) := ⟨_, rfl⟩
  have hb0 : Hid (Below w.heap.size w w0) := by rw [hw0]; exact ((Below.refl _ _).alloc (Nat.le_refl _) _).alloc (by simp) _
  have I1 : Hid (ZC (.bool a) (.string s) w0 w.heap.size) := by rw [hw0]; exact (ZC.new rfl).alloc _
  have Hsz : Hid (w.heap.size + 2 ≤ w0.heap.size) := by rw [hw0]; show _ ≤ _; simp
  have HSH := short_any [(a, s)] 1 (w.heap.size + 1) w0 rfl (by decide) (by rw [hw0]; have := WL.one (w.alloc (.cells #[.bool a, .string s] 23)) a s 23; simpa using this)
  rw [short_true z1] at HSH
  have H_val := Lib.hid (fun g w h => valid_any [(a, s)] 1 g w rfl (by decide) h (by intro x hx; simp at hx; subst hx; show _ ≤ _; simp; omega))
  have v1 : validL [(a, s)] = true := by simp [validL, hv]
  rw [v1] at H_val
  unfold BPost at H_val
  have H_sh := Lib.hid (fun w => shr_z hv k y hy hk hk2 w)
  have H_from := Lib.hid (fun w => rfrom_any a s w (by omega))
  obtain ⟨k9, hk9⟩ : ∃ k9 : Nat, k9 = 300 := ⟨_, rfl⟩
  have H_pow : Hid (∀ (n : Int) w, n = (j : Int) → Calls Try.prog 41 #[.int .i64 n] w (PPost (2 ^ j) w)) := fun n w h => by rw [h]; exact rpower_any j (by omega) w
  have hp0 : (0 : Int) < 2 ^ j := Int.pow_pos (by decide)
  have H_quo := Lib.hid (fun v1 v2 w h1 h2 => rquo_int (sg a (bv s)) (2 ^ j) v1 v2 w k9 (by omega) (x_D9 z1 (by omega) a) (p_D9 (by omega)) h1 h2 (by omega))
  have H_is := Lib.hid (fun v w h => is_z (a := a) (b := a) z1 z1 (sg a (bv s) / 2 ^ k) (by have := Int.natAbs_ediv_le_natAbs (sg a (bv s)) (2 ^ k); have := sg_abs a (bv s); omega) v w h)
  rw [hjk] at H_quo
  unfold BPost at H_is
  unfold QIPost at H_quo
  unfold IntPost at H_from
  unfold PPost at H_pow
  unfold iV at H_from H_quo H_is
  rw [decide_eq_false (show ¬ (2 : Int) ^ j < 0 by omega)] at H_quo
  clear hv v1 hp0 hjk hk9
  generalize sg a (bv s) / 2 ^ k = z at *
  generalize sg a (bv s) % 2 ^ j = zr at *
  generalize sg a (bv s) = x at *
  generalize (2 : Int) ^ j = pj at *
  generalize zb z = cb at *
  generalize zs z = cs at *
  generalize decide (z < 0) = bz at *
  generalize decide (zr < 0) = bzr at *
  generalize decide (x < 0) = bx at *
  have HSh := Lib.hid HSH
  have Hw0 := Lib.hid hw0
  clear HSH hw0
  unfold Ret at *
  unfold BPost at HSh
  go_enter Try.func7, Try.ntmps7
  go_wp2_with fail
  rw [← Hw0.out]
  refine HSh.out.mono ?_
  rintro e x0 ⟨rfl, b0⟩
  have D := Lib.hid b0
  clear b0
  obtain ⟨k0, k1, _⟩ := I1.out.next D.out
  go_wp2_with fail
  refine (H_sh.out _).mono ?_
  rintro e y4 ⟨rfl, b9⟩
  obtain ⟨n0, n1, _⟩ := I1.out.next (chain D.out b9)
  have j1 : w.heap.size < y4.heap.size := World.block_lt_of_cell? _ _ n0
  have j3 : ¬ w.heap.size = y4.heap.size := Nat.ne_of_lt j1
  obtain ⟨u4, hu4⟩ : ∃ u : World, u = y4.alloc (.cells #[.bool cb, .string cs] 23) := ⟨_, rfl⟩
  have E : Hid (Below x0.heap.size x0 u4) := by rw [hu4]; exact b9.alloc b9.size _
  have D := Lib.hid (chain D.out E.out)
  have T4 : Hid (ZC (.bool cb) (.string cs) u4 y4.heap.size) := by rw [hu4]; exact ZC.new rfl
  have HW4 : Hid (WL (u4.alloc (.cells #[.bool a, .string s] 23)) (y4.heap.size + 1) [(a, s)]) := by have := WL.one u4 a s 23; rwa [show u4.heap.size = y4.heap.size + 1 by rw [hu4]; simp] at this
  have Hu4 := Lib.hid hu4
  clear hu4 b9 E k0 k1
  obtain ⟨k0, k1, _⟩ := I1.out.next D.out
  obtain ⟨k2, k3, _⟩ := T4.out
  go_wp2_with fail
  rw [← Hu4.out]
  clear Hu4
  refine (H_val.out _ _ HW4.out).mono ?_
  rintro e y5 ⟨rfl, b9⟩
  have E := Lib.hid (chain (below_one u4 _) b9)
  have D := Lib.hid (chain D.out E.out)
  have T4 := Lib.hid (T4.out.next E.out)
  clear b9 E k0 k1 k2 k3 n0 n1 j1 j3
  obtain ⟨k0, k1, _⟩ := I1.out.next D.out
  obtain ⟨k2, k3, _⟩ := T4.out
  have hyj : -y = (j : Int) := by omega
  have hwj : IntKind.i64.wrap (-y) = (j : Int) := by simp only [IntKind.wrap_i64]; omega
  have hwk : IntKind.i64.wrap (j : Int) = (j : Int) := by simp only [IntKind.wrap_i64]; omega
  go_wp2_with fail
  refine (H_from.out _).mono ?_
  rintro e y6 ⟨vx, rfl, rx, b9⟩
  have RX := Lib.hid rx
  obtain ⟨px, bx', ox, cx, rfl, hrx⟩ := rx
  clear hrx
  generalize (Nm.dg D9 x.natAbs).length = lx at *
  obtain ⟨u6, hu6⟩ : ∃ u : World, u = y6.alloc (.cells #[.bool bx, .slice px lx cx] 31) := ⟨_, rfl⟩
  have E : Hid (Below y5.heap.size y5 u6) := by rw [hu6]; exact b9.alloc b9.size _
  have D := Lib.hid (chain D.out E.out)
  have T4 := Lib.hid (T4.out.next E.out)
  have T6 : Hid (ZC (.bool bx) (.slice px lx cx) u6 y6.heap.size) := by rw [hu6]; exact ZC.new rfl
  have RX : Hid (Rz u6 (.slice px lx cx) x) := by rw [hu6]; exact Ri.allocd RX.out _
  have HG6 : Hid (y6.heap.size < u6.heap.size) := T6.out.lt
  have Hu6 := Lib.hid hu6
  clear hu6 b9 E k0 k1 k2 k3
  obtain ⟨k0, k1, _⟩ := T6.out
  go_upto_region 12 with (fail)
  rw [← Hu6.out]
  clear Hu6
  obtain ⟨j0a, j0b, j0c, j0d, j0e⟩ := far1 HG6.out
  go_cut [8, 9] (fun sd se wx => ∃ (gd ge : Nat) (pd pe : Option Addr) (nd cd ne ce : Nat), sd = .pointer (some ⟨gd, 0, none⟩) ∧ se = .pointer (some ⟨ge, 0, none⟩) ∧ Hid (CutI (.bool bz) (.bool bzr) (.slice pd nd cd) (.slice pe ne ce) (Nm.dg D9 z.natAbs) (Nm.dg D9 zr.natAbs) u6.heap.size u6 wx gd ge))
  case first =>
    rename_i J0 K0 hRJ hMK
    go_region_held3 (fun W' => W'.cell? ⟨y6.heap.size, 0, none⟩ = some (.bool bx) ∧ W'.cell? ⟨y6.heap.size, 1, none⟩ = some (.slice px lx cx)) (go_keep)
      (first
        | (go_at_call 41; (with_reducible refine (H_pow.out _ _ (by first | exact hwk | exact hyj | exact hwj | rfl)).mono ?_); rintro e w1 ⟨vp, rfl, rz1, bz1⟩; (try (have bz1 := undrew bz1)); have d1 : Below u6.heap.size u6 w1 := chain (by first | exact Below.refl _ _ | exact (Below.refl _ _).drew | exact below_one _ _ | exact below_two _ _ _ | exact ((Below.refl _ _).drew).alloc (Nat.le_refl _) _ | exact (((Below.refl _ _).drew).alloc (Nat.le_refl _) _).alloc (by simp) _) bz1; have e1 : Below u6.heap.size u6 w1 := d1; have p0 := keep1 e1 k0; have p1 := keep1 e1 k1; obtain ⟨j1a, j1b, j1c, j1d, j1e⟩ := far1 (Nat.lt_of_lt_of_le HG6.out e1.size); (try (have A0 := Lib.hid (ZC.made (g := u6.heap.size) rfl bz1); obtain ⟨A0a, A0b, A0c, A0d⟩ := A0.out)); (try (have A0 := Lib.hid (ZC.made1 (g := u6.heap.size) rfl bz1); have B0 := Lib.hid (ZC.made (g := u6.heap.size + 1) (by simp) bz1); obtain ⟨A0a, A0b, A0c, A0d⟩ := A0.out; obtain ⟨B0a, B0b, B0c, B0d⟩ := B0.out)); (try (have L01 := Lib.hid (apart_b (g := u6.heap.size) rfl bz1); obtain ⟨l01x, l01y, l01z⟩ := L01.out)); (try (have MM := Lib.hid (apart_b2 (g := u6.heap.size) rfl bz1); have L01 := Lib.hid MM.out.1; have M01 := Lib.hid MM.out.2; clear MM; obtain ⟨l01x, l01y, l01z⟩ := L01.out; obtain ⟨m01x, m01y, m01z⟩ := M01.out)); have G1 := Lib.hid rz1; obtain ⟨pr1, br1, or1, cr1, rfl, rr1⟩ := rz1; clear rr1)
        | (go_at_call 39; (with_reducible refine (H_quo.out _ _ _ (by first | exact Ri.below RX.out e1 (Nat.le_refl _) | exact Ri.allocd (Ri.below RX.out e1 (Nat.le_refl _)) _ | exact Ri.allocd (Ri.allocd (Ri.below RX.out e1 (Nat.le_refl _)) _) _) (by first | exact G1.out | exact Ri.allocd G1.out _ | exact Ri.allocd (Ri.allocd G1.out _) _)).mono ?_); rintro e w2 ⟨vq, vr, rfl, rz2, rzr, bz2⟩; (try (have bz2 := undrew bz2)); have d2 : Below w1.heap.size w1 w2 := chain (by first | exact Below.refl _ _ | exact (Below.refl _ _).drew | exact below_one _ _ | exact below_two _ _ _ | exact ((Below.refl _ _).drew).alloc (Nat.le_refl _) _ | exact (((Below.refl _ _).drew).alloc (Nat.le_refl _) _).alloc (by simp) _) bz2; have e2 : Below u6.heap.size u6 w2 := chain e1 d2; have p0 := keep1 e2 k0; have p1 := keep1 e2 k1; obtain ⟨j2a, j2b, j2c, j2d, j2e⟩ := far1 (Nat.lt_of_lt_of_le HG6.out e2.size); (try (have A1 := Lib.hid (ZC.made (g := w1.heap.size) rfl bz2); obtain ⟨A1a, A1b, A1c, A1d⟩ := A1.out)); (try (have A1 := Lib.hid (ZC.made1 (g := w1.heap.size) rfl bz2); have B1 := Lib.hid (ZC.made (g := w1.heap.size + 1) (by simp) bz2); obtain ⟨A1a, A1b, A1c, A1d⟩ := A1.out; obtain ⟨B1a, B1b, B1c, B1d⟩ := B1.out)); (try (have A0 := Lib.hid (A0.out.next d2); obtain ⟨A0a, A0b, A0c, A0d⟩ := A0.out)); (try (have B0 := Lib.hid (B0.out.next d2); obtain ⟨B0a, B0b, B0c, B0d⟩ := B0.out)); (try (have L02 := Lib.hid (apart_t L01.out d2.size); obtain ⟨l02x, l02y, l02z⟩ := L02.out)); (try (have M02 := Lib.hid (apart_t M01.out d2.size); obtain ⟨m02x, m02y, m02z⟩ := M02.out)); (try (have L12 := Lib.hid (apart_b (g := w1.heap.size) rfl bz2); obtain ⟨l12x, l12y, l12z⟩ := L12.out)); (try (have MM := Lib.hid (apart_b2 (g := w1.heap.size) rfl bz2); have L12 := Lib.hid MM.out.1; have M12 := Lib.hid MM.out.2; clear MM; obtain ⟨l12x, l12y, l12z⟩ := L12.out; obtain ⟨m12x, m12y, m12z⟩ := M12.out)); have G2 := Lib.hid (And.intro rz2 rzr); obtain ⟨pr2, br2, or2, cr2, rfl, rr2⟩ := rz2; clear rr2; obtain ⟨pr3, br3, or3, cr3, rfl, rr3⟩ := rzr; clear rr3)
        | fail)
    all_goals
      refine hMK _ _ (Met.intro (hRJ _ _ ?_))
      (repeat apply Exists.intro)
      refine ⟨?_, rfl⟩
      refine ⟨_, _, pr2, pr3, (Nm.dg D9 z.natAbs).length, cr2, (Nm.dg D9 zr.natAbs).length, cr3, rfl, rfl, ?_⟩
      show CutI (.bool bz) (.bool bzr) (.slice pr2 _ cr2) (.slice pr3 _ cr3) (Nm.dg D9 z.natAbs) (Nm.dg D9 zr.natAbs) u6.heap.size u6 _ _ _
      obtain ⟨r1, r2⟩ := G2.out
      have sA0 : u6.heap.size ≤ u6.heap.size := Nat.le_refl _
      have sB0 : u6.heap.size ≤ u6.heap.size + 1 := Nat.le_succ _
      have n0 : ¬ u6.heap.size = u6.heap.size + 1 := Nat.ne_of_lt (Nat.lt_succ_self _)
      have m0 : ¬ u6.heap.size + 1 = u6.heap.size := fun e => n0 e.symm
      have sA1 : u6.heap.size ≤ w1.heap.size := e1.size
      have sB1 : u6.heap.size ≤ w1.heap.size + 1 := Nat.le_succ_of_le sA1
      have n1 : ¬ w1.heap.size = w1.heap.size + 1 := Nat.ne_of_lt (Nat.lt_succ_self _)
      have m1 : ¬ w1.heap.size + 1 = w1.heap.size := fun e => n1 e.symm
      have sA2 : u6.heap.size ≤ w2.heap.size := e2.size
      have sB2 : u6.heap.size ≤ w2.heap.size + 1 := Nat.le_succ_of_le sA2
      have n2 : ¬ w2.heap.size = w2.heap.size + 1 := Nat.ne_of_lt (Nat.lt_succ_self _)
      have m2 : ¬ w2.heap.size + 1 = w2.heap.size := fun e => n2 e.symm
      first
        | with_reducible exact CutI.s1 r1 r2 e2 sA2
        | with_reducible exact CutI.s2 r1 r2 e2 sA2
        | with_reducible exact CutI.s3 A0.out sA0 r1 r2 e2 sA2
        | with_reducible exact CutI.s4 A0.out sA0 r1 r2 e2 sA2
        | with_reducible exact CutI.s3 B0.out sB0 r1 r2 e2 sA2
        | with_reducible exact CutI.s4 B0.out sB0 r1 r2 e2 sA2
        | with_reducible exact CutI.s3 A1.out sA1 r1 r2 e2 sA2
        | with_reducible exact CutI.s4 A1.out sA1 r1 r2 e2 sA2
        | with_reducible exact CutI.s3 B1.out sB1 r1 r2 e2 sA2
        | with_reducible exact CutI.s4 B1.out sB1 r1 r2 e2 sA2
        | with_reducible exact CutI.s5 A0.out sA0 B0.out sB0 n0 r1 r2 e2
        | with_reducible exact CutI.s5 B0.out sB0 A0.out sA0 m0 r1 r2 e2
        | with_reducible exact CutI.s5 A1.out sA1 B1.out sB1 n1 r1 r2 e2
        | with_reducible exact CutI.s5 B1.out sB1 A1.out sA1 m1 r1 r2 e2
        | with_reducible exact CutI.s5 A0.out sA0 A1.out sA1 l01x r1 r2 e2
        | with_reducible exact CutI.s5 A1.out sA1 A0.out sA0 l01y r1 r2 e2
        | fail
  obtain ⟨gd, ge, pd, pe, nd, cd, ne, ce, rfl, rfl, hcut⟩ := hcut
  obtain ⟨_, T8, _, R8, _, bxx⟩ := hcut.out
  have D := Lib.hid (chain D.out bxx)
  have T4 := Lib.hid (T4.out.next bxx)
  have R8 := Lib.hid R8
  have T8 := Lib.hid T8
  clear bxx hcut k0 k1 j0a j0b j0c j0d j0e
  obtain ⟨k0, k1, _⟩ := T4.out
  obtain ⟨k2, k3, _⟩ := T8.out
  obtain ⟨y8, hy8⟩ : ∃ y : World, y = wc := ⟨_, rfl⟩
  subst hy8
  go_wp2_with fail
  refine (H_is.out _ _ R8.out).mono ?_
  rintro e y9 ⟨rfl, b9⟩
  have D := Lib.hid (chain D.out b9)
  clear b9
  go_wp2_with fail
  refine (H_known.out _).mono ?_
  rintro e x1 ⟨rfl, b1⟩
  have HZ := Lib.hid (chain hb0.out (chain D.out b1))
  clear b1
  go_wp2
  go_ret
  exact ⟨rfl, HZ.out⟩
end Go.Proofs.Ytlmklhffafcmmaa

/- The law WideProducts gives true: long or not valid. -/
namespace Go.Proofs.Ytlmklhffafcmmaa
open Go.RowKit

set_option maxRecDepth 100000 in
set_option maxHeartbeats 8000000 in
theorem prods_long (a b : Bool) (s t : ByteArray) (w : World) (hs : ¬ (s.size ≤ 60 ∧ t.size ≤ 60)) :
    Calls Try.prog 6 #[.agg #[.bool a, .string s], .agg #[.bool b, .string t]] w (Ret (.bool true) w) := by
  have H_known := Lib.hid known_true
  obtain ⟨w0, hw0⟩ : ∃ w0 : World, w0 = ((w.alloc (.cells #[.bool a, .string s] 23)).alloc (.cells #[.bool b, .string t] 23)).alloc (.cells #[.bool a, .string s, .bool b, .string t] 23) := ⟨_, rfl⟩
  have hb0 : Hid (Below w.heap.size w w0) := by rw [hw0]; exact (((Below.refl _ _).alloc (Nat.le_refl _) _).alloc (by simp) _).alloc (by simp; omega) _
  have I1 : Hid (ZC (.bool a) (.string s) w0 w.heap.size) := by rw [hw0]; exact ((ZC.new rfl).alloc _).alloc _
  have I2 : Hid (ZC (.bool b) (.string t) w0 (w.heap.size + 1)) := by rw [hw0]; exact (ZC.new (by simp)).alloc _
  have HSH := short_any [(a, s), (b, t)] 2 (w.heap.size + 1 + 1) w0 rfl (by decide) (by rw [hw0]; have := WL.two ((w.alloc (.cells #[.bool a, .string s] 23)).alloc (.cells #[.bool b, .string t] 23)) a b s t 23; simpa using this)
  rw [short2_false hs] at HSH
  have HSh := Lib.hid HSH
  have Hw0 := Lib.hid hw0
  clear HSH hw0
  unfold Ret at *
  unfold BPost at HSh
  go_enter Try.func6, Try.ntmps6
  go_wp2_with fail
  rw [← Hw0.out]
  refine HSh.out.mono ?_
  rintro e x0 ⟨rfl, b0⟩
  have D := Lib.hid b0
  clear b0
  go_wp2_with fail
  refine (H_known.out _).mono ?_
  rintro e x1 ⟨rfl, b1⟩
  have HZ := Lib.hid (chain hb0.out (chain D.out b1))
  clear b1
  go_wp2
  go_ret
  exact ⟨rfl, HZ.out⟩

set_option maxRecDepth 100000 in
set_option maxHeartbeats 8000000 in
theorem prods_bad (a b : Bool) (s t : ByteArray) (w : World) (z1 : s.size ≤ 60) (z2 : t.size ≤ 60) (hv : (vld a s && vld b t) = false) :
    Calls Try.prog 6 #[.agg #[.bool a, .string s], .agg #[.bool b, .string t]] w (Ret (.bool true) w) := by
  have H_known := Lib.hid known_true
  obtain ⟨w0, hw0⟩ : ∃ w0 : World, w0 = ((w.alloc (.cells #[.bool a, .string s] 23)).alloc (.cells #[.bool b, .string t] 23)).alloc (.cells #[.bool a, .string s, .bool b, .string t] 23) := ⟨_, rfl⟩
  have hb0 : Hid (Below w.heap.size w w0) := by rw [hw0]; exact (((Below.refl _ _).alloc (Nat.le_refl _) _).alloc (by simp) _).alloc (by simp; omega) _
  have I1 : Hid (ZC (.bool a) (.string s) w0 w.heap.size) := by rw [hw0]; exact ((ZC.new rfl).alloc _).alloc _
  have I2 : Hid (ZC (.bool b) (.string t) w0 (w.heap.size + 1)) := by rw [hw0]; exact (ZC.new (by simp)).alloc _
  have HSH := short_any [(a, s), (b, t)] 2 (w.heap.size + 1 + 1) w0 rfl (by decide) (by rw [hw0]; have := WL.two ((w.alloc (.cells #[.bool a, .string s] 23)).alloc (.cells #[.bool b, .string t] 23)) a b s t 23; simpa using this)
  rw [short2_true z1 z2] at HSH
  have H_val2 := Lib.hid (fun g w h => valid_any [(a, s), (b, t)] 2 g w rfl (by decide) h (by intro x hx; simp at hx; rcases hx with rfl | rfl <;> (show _ ≤ _; simp; omega)))
  have v2 : validL [(a, s), (b, t)] = false := by simpa [validL] using hv
  rw [v2] at H_val2
  have H_mul := Lib.hid (fun w => Mul_invalid a b s t w (by omega) (by omega) hv)
  have H_quo := Lib.hid (fun w => Quo_invalid a b s t w (by omega) (by omega) hv)
  have H_gcd := Lib.hid (fun w => GCD_invalid a b s t w (by omega) (by omega) hv)
  rw [wd_none] at H_mul H_quo H_gcd
  unfold WPost at H_mul H_gcd
  unfold Q3Post at H_quo
  unfold BPost at H_val2
  clear hv v2
  have HSh := Lib.hid HSH
  have Hw0 := Lib.hid hw0
  clear HSH hw0
  unfold Ret at *
  unfold BPost at HSh
  go_enter Try.func6, Try.ntmps6
  go_wp2_with fail
  rw [← Hw0.out]
  refine HSh.out.mono ?_
  rintro e x0 ⟨rfl, b0⟩
  have D := Lib.hid b0
  clear b0
  obtain ⟨k0, k1, _⟩ := I1.out.next D.out
  obtain ⟨k2, k3, _⟩ := I2.out.next D.out
  go_wp2_with fail
  refine (H_mul.out _).mono ?_
  rintro e y5 ⟨rfl, b9⟩
  obtain ⟨n0, n1, _⟩ := I1.out.next (chain D.out b9)
  obtain ⟨n2, n3, _⟩ := I2.out.next (chain D.out b9)
  have j1 : w.heap.size < y5.heap.size := World.block_lt_of_cell? _ _ n0
  have j2 : w.heap.size + 1 < y5.heap.size := World.block_lt_of_cell? _ _ n2
  have j3 : ¬ w.heap.size = y5.heap.size := Nat.ne_of_lt j1
  have j4 : ¬ w.heap.size + 1 = y5.heap.size := Nat.ne_of_lt j2
  have j5 : ¬ w.heap.size = y5.heap.size + 1 := Nat.ne_of_lt (Nat.lt_succ_of_lt j1)
  have j6 : ¬ w.heap.size + 1 = y5.heap.size + 1 := Nat.ne_of_lt (Nat.lt_succ_of_lt j2)
  obtain ⟨u5, hu5⟩ : ∃ u : World, u = y5.alloc (.cells #[.bool false, .string ⟨#[]⟩] 23) := ⟨_, rfl⟩
  have E : Hid (Below x0.heap.size x0 u5) := by rw [hu5]; exact b9.alloc b9.size _
  have D := Lib.hid (chain D.out E.out)
  have T5 : Hid (ZC (.bool false) (.string ⟨#[]⟩) u5 y5.heap.size) := by rw [hu5]; exact ZC.new rfl
  have Hu5 := Lib.hid hu5
  clear hu5 b9 E
  obtain ⟨k0, k1, _⟩ := I1.out.next D.out
  obtain ⟨k2, k3, _⟩ := I2.out.next D.out
  go_wp2_with fail
  rw [← Hu5.out]
  clear Hu5
  refine (H_quo.out _).mono ?_
  rintro e y7 ⟨rfl, b9⟩
  obtain ⟨n0, n1, _⟩ := I1.out.next (chain D.out b9)
  obtain ⟨n2, n3, _⟩ := I2.out.next (chain D.out b9)
  have j1 : w.heap.size < y7.heap.size := World.block_lt_of_cell? _ _ n0
  have j2 : w.heap.size + 1 < y7.heap.size := World.block_lt_of_cell? _ _ n2
  have j3 : ¬ w.heap.size = y7.heap.size := Nat.ne_of_lt j1
  have j4 : ¬ w.heap.size + 1 = y7.heap.size := Nat.ne_of_lt j2
  have j5 : ¬ w.heap.size = y7.heap.size + 1 := Nat.ne_of_lt (Nat.lt_succ_of_lt j1)
  have j6 : ¬ w.heap.size + 1 = y7.heap.size + 1 := Nat.ne_of_lt (Nat.lt_succ_of_lt j2)
  obtain ⟨u7, hu7⟩ : ∃ u : World, u = (y7.alloc (.cells #[.bool false, .string ⟨#[]⟩] 23)).alloc (.cells #[.bool false, .string ⟨#[]⟩] 23) := ⟨_, rfl⟩
  have E : Hid (Below u5.heap.size u5 u7) := by rw [hu7]; exact (b9.alloc b9.size _).alloc (Nat.le_trans b9.size (by simp)) _
  have D := Lib.hid (chain D.out E.out)
  have T5 := Lib.hid (T5.out.next E.out)
  have T7 : Hid (ZC (.bool false) (.string ⟨#[]⟩) u7 y7.heap.size) := by rw [hu7]; exact (ZC.new rfl).alloc _
  have T8 : Hid (ZC (.bool false) (.string ⟨#[]⟩) u7 (y7.heap.size + 1)) := by rw [hu7]; exact ZC.new (by simp)
  have Hu7 := Lib.hid hu7
  clear hu7 b9 E
  obtain ⟨k0, k1, _⟩ := I1.out.next D.out
  obtain ⟨k2, k3, _⟩ := I2.out.next D.out
  go_wp2_with fail
  rw [← Hu7.out]
  clear Hu7
  refine (H_gcd.out _).mono ?_
  rintro e y10 ⟨rfl, b9⟩
  obtain ⟨n0, n1, _⟩ := I1.out.next (chain D.out b9)
  obtain ⟨n2, n3, _⟩ := I2.out.next (chain D.out b9)
  have j1 : w.heap.size < y10.heap.size := World.block_lt_of_cell? _ _ n0
  have j2 : w.heap.size + 1 < y10.heap.size := World.block_lt_of_cell? _ _ n2
  have j3 : ¬ w.heap.size = y10.heap.size := Nat.ne_of_lt j1
  have j4 : ¬ w.heap.size + 1 = y10.heap.size := Nat.ne_of_lt j2
  have j5 : ¬ w.heap.size = y10.heap.size + 1 := Nat.ne_of_lt (Nat.lt_succ_of_lt j1)
  have j6 : ¬ w.heap.size + 1 = y10.heap.size + 1 := Nat.ne_of_lt (Nat.lt_succ_of_lt j2)
  obtain ⟨u10, hu10⟩ : ∃ u : World, u = (y10.alloc (.cells #[.bool false, .string ⟨#[]⟩] 23)).alloc (.cells #[.bool false, .string ⟨#[]⟩] 23) := ⟨_, rfl⟩
  have E : Hid (Below u7.heap.size u7 u10) := by rw [hu10]; exact (b9.alloc b9.size _).alloc (Nat.le_trans b9.size (by simp)) _
  have D := Lib.hid (chain D.out E.out)
  have T5 := Lib.hid (T5.out.next E.out)
  have T7 := Lib.hid (T7.out.next E.out)
  have T8 := Lib.hid (T8.out.next E.out)
  have T10 : Hid (ZC (.bool false) (.string ⟨#[]⟩) u10 y10.heap.size) := by rw [hu10]; exact (ZC.new rfl).alloc _
  have T12 : Hid (ZC (.bool false) (.string ⟨#[]⟩) u10 (y10.heap.size + 1)) := by rw [hu10]; exact ZC.new (by simp)
  have HW10 : Hid (WL (u10.alloc (.cells #[.bool a, .string s, .bool b, .string t] 23)) (y10.heap.size + 1 + 1) [(a, s), (b, t)]) := by have := WL.two u10 a b s t 23; rwa [show u10.heap.size = y10.heap.size + 1 + 1 by rw [hu10]; simp] at this
  have Hu10 := Lib.hid hu10
  clear hu10 b9 E
  obtain ⟨k0, k1, _⟩ := I1.out.next D.out
  obtain ⟨k2, k3, _⟩ := I2.out.next D.out
  go_wp2_with fail
  rw [← Hu10.out]
  clear Hu10
  refine (H_val2.out _ _ HW10.out).mono ?_
  rintro e yv ⟨rfl, b9⟩
  have E := Lib.hid (chain (below_one u10 _) b9)
  clear HW10 n0 n1 n2 n3 j1 j2 j3 j4 j5 j6
  have D := Lib.hid (chain D.out E.out)
  have T5 := Lib.hid (T5.out.next E.out)
  have T7 := Lib.hid (T7.out.next E.out)
  have T8 := Lib.hid (T8.out.next E.out)
  have T10 := Lib.hid (T10.out.next E.out)
  have T12 := Lib.hid (T12.out.next E.out)
  clear b9 E
  obtain ⟨k0, k1, _⟩ := I1.out.next D.out
  obtain ⟨k2, k3, _⟩ := I2.out.next D.out
  obtain ⟨k4, k5, _⟩ := T5.out
  obtain ⟨k6, k7, _⟩ := T7.out
  obtain ⟨k8, k9, _⟩ := T8.out
  obtain ⟨k10, k11, _⟩ := T10.out
  obtain ⟨k12, k13, _⟩ := T12.out
  go_wp2_with fail
  refine (H_known.out _).mono ?_
  rintro e x1 ⟨rfl, b1⟩
  have HZ := Lib.hid (chain hb0.out (chain D.out b1))
  clear b1
  go_wp2
  go_ret
  exact ⟨rfl, HZ.out⟩
end Go.Proofs.Ytlmklhffafcmmaa

/- The law WideProducts gives true: the second one 0. -/
namespace Go.Proofs.Ytlmklhffafcmmaa
open Go.RowKit

set_option maxRecDepth 100000 in
set_option maxHeartbeats 8000000 in
theorem prods_zero (a b : Bool) (s t : ByteArray) (w : World) (z1 : s.size ≤ 60) (z2 : t.size ≤ 60) (hv : vld a s = true) (hv2 : vld b t = true) (h0 : sg b (bv t) = 0) :
    Calls Try.prog 6 #[.agg #[.bool a, .string s], .agg #[.bool b, .string t]] w (Ret (.bool true) w) := by
  have H_known := Lib.hid known_true
  obtain ⟨w0, hw0⟩ : ∃ w0 : World, w0 = ((w.alloc (.cells #[.bool a, .string s] 23)).alloc (.cells #[.bool b, .string t] 23)).alloc (.cells #[.bool a, .string s, .bool b, .string t] 23) := ⟨_, rfl⟩
  have hb0 : Hid (Below w.heap.size w w0) := by rw [hw0]; exact (((Below.refl _ _).alloc (Nat.le_refl _) _).alloc (by simp) _).alloc (by simp; omega) _
  have I1 : Hid (ZC (.bool a) (.string s) w0 w.heap.size) := by rw [hw0]; exact ((ZC.new rfl).alloc _).alloc _
  have I2 : Hid (ZC (.bool b) (.string t) w0 (w.heap.size + 1)) := by rw [hw0]; exact (ZC.new (by simp)).alloc _
  have Hsz : Hid (w.heap.size + 3 ≤ w0.heap.size) := by rw [hw0]; show _ ≤ _; simp
  have HSH := short_any [(a, s), (b, t)] 2 (w.heap.size + 1 + 1) w0 rfl (by decide) (by rw [hw0]; have := WL.two ((w.alloc (.cells #[.bool a, .string s] 23)).alloc (.cells #[.bool b, .string t] 23)) a b s t 23; simpa using this)
  rw [short2_true z1 z2] at HSH
  have H_val2 := Lib.hid (fun g w h => valid_any [(a, s), (b, t)] 2 g w rfl (by decide) h (by intro x hx; simp at hx; rcases hx with rfl | rfl <;> (show _ ≤ _; simp; omega)))
  have H_quo := Lib.hid (fun w => quo0_z hv hv2 h0 w)
  have v2 : validL [(a, s), (b, t)] = true := by simp [validL, hv, hv2]
  rw [v2] at H_val2
  have H_mul := Lib.hid (fun w => mul_z hv hv2 z1 z2 w)
  have H_gcd := Lib.hid (fun w => gcd_z hv hv2 w)
  have H_from := Lib.hid (fun w => rfrom_any a s w (by omega))
  have H_from2 := Lib.hid (fun w => rfrom_any b t w (by omega))
  obtain ⟨k6, hk6⟩ : ∃ k6 : Nat, k6 = 60 := ⟨_, rfl⟩
  have hx6 := bv60 hk6 z1
  have hy6 := bv60 hk6 z2
  have lx6 : (Nm.dg D9 (sg a (bv s)).natAbs).length ≤ 100000 := by rw [sg_abs]; exact (fits_k (by omega) hx6).2
  have ly6 : (Nm.dg D9 (sg b (bv t)).natAbs).length ≤ 100000 := by rw [sg_abs]; exact (fits_k (by omega) hy6).2
  have hm6 : (sg a (bv s) * sg b (bv t)).natAbs < 256 ^ (k6 + k6) := by rw [Int.natAbs_mul, sg_abs, sg_abs]; exact prod120 rfl hx6 hy6
  have hm7 := fits_k (by omega) hm6
  have hg7 : (Nat.gcd (sg a (bv s)).natAbs (sg b (bv t)).natAbs) < Top := by rw [sg_abs, sg_abs]; exact gcd_top (bv_lt hv) (bv_lt hv2)
  have hg8 : (Nm.dg D9 (Nat.gcd (sg a (bv s)).natAbs (sg b (bv t)).natAbs)).length ≤ 100000 := by
    rcases Nat.eq_zero_or_pos (bv s) with g | g
    · rw [sg_abs, sg_abs, g, Nat.gcd_zero_left]; rw [sg_abs] at ly6; exact ly6
    · rw [sg_abs, sg_abs]; rw [sg_abs] at lx6; exact Nat.le_trans (dg9_mono (Nat.gcd_le_left _ g)) lx6
  have H_is1 := Lib.hid (fun v w h => is_true (sg a (bv s) * sg b (bv t)) v w h (Nat.le_trans hm7.2 (by omega)) (zs_size hm7.1))
  have H_is2 := Lib.hid (fun v w h => is_true ((Nat.gcd (sg a (bv s)).natAbs (sg b (bv t)).natAbs : Nat) : Int) v w h (Nat.le_trans hg8 (by omega)) (zs_size hg7))
  have H_rmul := Lib.hid (fun v1 v2 w g1 g2 => rmul_int (sg a (bv s)) (sg b (bv t)) v1 v2 w g1 g2 (Nat.le_trans lx6 (by omega)) (Nat.le_trans ly6 (by omega)))
  have H_rgcd := Lib.hid (fun v1 v2 w g1 g2 => rgcd_int (sg a (bv s)) (sg b (bv t)) v1 v2 w g1 g2 lx6 ly6)
  have H_rsign := Lib.hid (fun v w h => rsign_int (sg b (bv t)) v w h)
  unfold BPost at H_val2 H_is1 H_is2
  unfold IntPost at H_from H_from2 H_rmul H_rgcd
  unfold SignPost at H_rsign
  have hs0 : ((sg b (bv t)).sign == 0) = true := by rw [h0]; rfl
  clear h0
  unfold iV at H_from H_from2 H_rmul H_rgcd H_rsign H_is1 H_is2
  clear v2 hm6 hm7 hg7 hg8 lx6 ly6 hx6 hy6 hv hv2
  generalize sg a (bv s) = x at *
  generalize sg b (bv t) = y' at *
  generalize x * y' = xm at *
  generalize ((Nat.gcd x.natAbs y'.natAbs : Nat) : Int) = xg at *
  generalize zb xm = mb at *
  generalize zs xm = ms at *
  generalize zb xg = gb at *
  generalize zs xg = gs at *
  generalize decide (x < 0) = bx at *
  generalize decide (y' < 0) = by' at *
  generalize decide (xm < 0) = bxm at *
  generalize decide (xg < 0) = bxg at *
  generalize y'.sign = sv at *
  have HSh := Lib.hid HSH
  have Hw0 := Lib.hid hw0
  clear HSH hw0
  unfold Ret at *
  unfold BPost at HSh
  go_enter Try.func6, Try.ntmps6
  go_wp2_with fail
  rw [← Hw0.out]
  refine HSh.out.mono ?_
  rintro e x0 ⟨rfl, b0⟩
  have D := Lib.hid b0
  clear b0
  obtain ⟨k0, k1, _⟩ := I1.out.next D.out
  obtain ⟨k2, k3, _⟩ := I2.out.next D.out
  go_wp2_with fail
  refine (H_mul.out _).mono ?_
  rintro e y5 ⟨rfl, b9⟩
  obtain ⟨n0, n1, _⟩ := I1.out.next (chain D.out b9)
  obtain ⟨n2, n3, _⟩ := I2.out.next (chain D.out b9)
  have j1 : w.heap.size < y5.heap.size := World.block_lt_of_cell? _ _ n0
  have j2 : w.heap.size + 1 < y5.heap.size := World.block_lt_of_cell? _ _ n2
  have j3 : ¬ w.heap.size = y5.heap.size := Nat.ne_of_lt j1
  have j4 : ¬ w.heap.size + 1 = y5.heap.size := Nat.ne_of_lt j2
  have j5 : ¬ w.heap.size = y5.heap.size + 1 := Nat.ne_of_lt (Nat.lt_succ_of_lt j1)
  have j6 : ¬ w.heap.size + 1 = y5.heap.size + 1 := Nat.ne_of_lt (Nat.lt_succ_of_lt j2)
  obtain ⟨u5, hu5⟩ : ∃ u : World, u = y5.alloc (.cells #[.bool mb, .string ms] 23) := ⟨_, rfl⟩
  have E : Hid (Below x0.heap.size x0 u5) := by rw [hu5]; exact b9.alloc b9.size _
  have D := Lib.hid (chain D.out E.out)
  have T5 : Hid (ZC (.bool mb) (.string ms) u5 y5.heap.size) := by rw [hu5]; exact ZC.new rfl
  have Hu5 := Lib.hid hu5
  clear hu5 b9 E
  obtain ⟨k0, k1, _⟩ := I1.out.next D.out
  obtain ⟨k2, k3, _⟩ := I2.out.next D.out
  go_wp2_with fail
  rw [← Hu5.out]
  clear Hu5
  refine (H_quo.out _).mono ?_
  rintro e y7 ⟨rfl, b9⟩
  obtain ⟨n0, n1, _⟩ := I1.out.next (chain D.out b9)
  obtain ⟨n2, n3, _⟩ := I2.out.next (chain D.out b9)
  have j1 : w.heap.size < y7.heap.size := World.block_lt_of_cell? _ _ n0
  have j2 : w.heap.size + 1 < y7.heap.size := World.block_lt_of_cell? _ _ n2
  have j3 : ¬ w.heap.size = y7.heap.size := Nat.ne_of_lt j1
  have j4 : ¬ w.heap.size + 1 = y7.heap.size := Nat.ne_of_lt j2
  have j5 : ¬ w.heap.size = y7.heap.size + 1 := Nat.ne_of_lt (Nat.lt_succ_of_lt j1)
  have j6 : ¬ w.heap.size + 1 = y7.heap.size + 1 := Nat.ne_of_lt (Nat.lt_succ_of_lt j2)
  obtain ⟨u7, hu7⟩ : ∃ u : World, u = (y7.alloc (.cells #[.bool false, .string ⟨#[]⟩] 23)).alloc (.cells #[.bool false, .string ⟨#[]⟩] 23) := ⟨_, rfl⟩
  have E : Hid (Below u5.heap.size u5 u7) := by rw [hu7]; exact (b9.alloc b9.size _).alloc (Nat.le_trans b9.size (by simp)) _
  have D := Lib.hid (chain D.out E.out)
  have T5 := Lib.hid (T5.out.next E.out)
  have T7 : Hid (ZC (.bool false) (.string ⟨#[]⟩) u7 y7.heap.size) := by rw [hu7]; exact (ZC.new rfl).alloc _
  have T8 : Hid (ZC (.bool false) (.string ⟨#[]⟩) u7 (y7.heap.size + 1)) := by rw [hu7]; exact ZC.new (by simp)
  have Hu7 := Lib.hid hu7
  clear hu7 b9 E
  obtain ⟨k0, k1, _⟩ := I1.out.next D.out
  obtain ⟨k2, k3, _⟩ := I2.out.next D.out
  go_wp2_with fail
  rw [← Hu7.out]
  clear Hu7
  refine (H_gcd.out _).mono ?_
  rintro e y10 ⟨rfl, b9⟩
  obtain ⟨n0, n1, _⟩ := I1.out.next (chain D.out b9)
  obtain ⟨n2, n3, _⟩ := I2.out.next (chain D.out b9)
  have j1 : w.heap.size < y10.heap.size := World.block_lt_of_cell? _ _ n0
  have j2 : w.heap.size + 1 < y10.heap.size := World.block_lt_of_cell? _ _ n2
  have j3 : ¬ w.heap.size = y10.heap.size := Nat.ne_of_lt j1
  have j4 : ¬ w.heap.size + 1 = y10.heap.size := Nat.ne_of_lt j2
  have j5 : ¬ w.heap.size = y10.heap.size + 1 := Nat.ne_of_lt (Nat.lt_succ_of_lt j1)
  have j6 : ¬ w.heap.size + 1 = y10.heap.size + 1 := Nat.ne_of_lt (Nat.lt_succ_of_lt j2)
  obtain ⟨u10, hu10⟩ : ∃ u : World, u = (y10.alloc (.cells #[.bool gb, .string gs] 23)).alloc (.cells #[.bool false, .string ⟨#[]⟩] 23) := ⟨_, rfl⟩
  have E : Hid (Below u7.heap.size u7 u10) := by rw [hu10]; exact (b9.alloc b9.size _).alloc (Nat.le_trans b9.size (by simp)) _
  have D := Lib.hid (chain D.out E.out)
  have T5 := Lib.hid (T5.out.next E.out)
  have T7 := Lib.hid (T7.out.next E.out)
  have T8 := Lib.hid (T8.out.next E.out)
  have T10 : Hid (ZC (.bool gb) (.string gs) u10 y10.heap.size) := by rw [hu10]; exact (ZC.new rfl).alloc _
  have T12 : Hid (ZC (.bool false) (.string ⟨#[]⟩) u10 (y10.heap.size + 1)) := by rw [hu10]; exact ZC.new (by simp)
  have HW10 : Hid (WL (u10.alloc (.cells #[.bool a, .string s, .bool b, .string t] 23)) (y10.heap.size + 1 + 1) [(a, s), (b, t)]) := by have := WL.two u10 a b s t 23; rwa [show u10.heap.size = y10.heap.size + 1 + 1 by rw [hu10]; simp] at this
  have Hu10 := Lib.hid hu10
  clear hu10 b9 E
  obtain ⟨k0, k1, _⟩ := I1.out.next D.out
  obtain ⟨k2, k3, _⟩ := I2.out.next D.out
  go_wp2_with fail
  rw [← Hu10.out]
  clear Hu10
  refine (H_val2.out _ _ HW10.out).mono ?_
  rintro e yv ⟨rfl, b9⟩
  have E := Lib.hid (chain (below_one u10 _) b9)
  clear HW10 n0 n1 n2 n3 j1 j2 j3 j4 j5 j6
  have D := Lib.hid (chain D.out E.out)
  have T5 := Lib.hid (T5.out.next E.out)
  have T7 := Lib.hid (T7.out.next E.out)
  have T8 := Lib.hid (T8.out.next E.out)
  have T10 := Lib.hid (T10.out.next E.out)
  have T12 := Lib.hid (T12.out.next E.out)
  clear b9 E
  obtain ⟨k0, k1, _⟩ := I1.out.next D.out
  obtain ⟨k2, k3, _⟩ := I2.out.next D.out
  have HSB : Hid (w.heap.size + 3 ≤ yv.heap.size) := Nat.le_trans Hsz.out D.out.size
  go_upto_region 9 with (fail)
  obtain ⟨jba, jbb, jbc, jbd, jbe, jbf, jbg, jbh⟩ := far7 HSB.out
  go_cut [13, 14] (fun s7 s8 wx => ∃ (g7 g8 : Nat) (y1 y2 : Option Addr) (n1 c1 n2 c2 : Nat), s7 = .pointer (some ⟨g7, 0, none⟩) ∧ s8 = .pointer (some ⟨g8, 0, none⟩) ∧ Hid (CutI (.bool bx) (.bool by') (.slice y1 n1 c1) (.slice y2 n2 c2) (Nm.dg D9 x.natAbs) (Nm.dg D9 y'.natAbs) yv.heap.size yv wx g7 g8))
  case first =>
    rename_i J0 K0 hRJ hMK
    go_region_held3 (fun W' => W'.cell? ⟨w.heap.size, 0, none⟩ = some (.bool a) ∧ W'.cell? ⟨w.heap.size, 1, none⟩ = some (.string s) ∧ W'.cell? ⟨w.heap.size + 1, 0, none⟩ = some (.bool b) ∧ W'.cell? ⟨w.heap.size + 1, 1, none⟩ = some (.string t)) (go_keep)
      (first
        | (go_at_call 18; (with_reducible refine (H_from.out _).mono ?_); rintro e w1 ⟨v1, rfl, r1, b1⟩; (try (have b1 := undrew b1)); have d1 : Below yv.heap.size yv w1 := chain (by first | exact Below.refl _ _ | exact (Below.refl _ _).drew | exact below_one _ _ | exact below_two _ _ _ | exact ((Below.refl _ _).drew).alloc (Nat.le_refl _) _ | exact (((Below.refl _ _).drew).alloc (Nat.le_refl _) _).alloc (by simp) _) b1; have c1 : Below yv.heap.size yv w1 := d1; have p0 := keep1 c1 k0; have p1 := keep1 c1 k1; have p2 := keep1 c1 k2; have p3 := keep1 c1 k3; obtain ⟨j1a, j1b, j1c, j1d, j1e, j1f, j1g, j1h⟩ := far7 (show w.heap.size + 3 ≤ w1.heap.size from Nat.le_trans HSB.out c1.size); (try (have A0 := Lib.hid (ZC.made (g := yv.heap.size) rfl b1); obtain ⟨A0a, A0b, A0c, A0d⟩ := A0.out)); (try (have A0 := Lib.hid (ZC.made1 (g := yv.heap.size) rfl b1); have B0 := Lib.hid (ZC.made (g := yv.heap.size + 1) (by simp) b1); obtain ⟨A0a, A0b, A0c, A0d⟩ := A0.out; obtain ⟨B0a, B0b, B0c, B0d⟩ := B0.out)); (try (have L01 := Lib.hid (apart_b (g := yv.heap.size) rfl b1); obtain ⟨l01x, l01y, l01z⟩ := L01.out)); (try (have MM := Lib.hid (apart_b2 (g := yv.heap.size) rfl b1); have L01 := Lib.hid MM.out.1; have M01 := Lib.hid MM.out.2; clear MM; obtain ⟨l01x, l01y, l01z⟩ := L01.out; obtain ⟨m01x, m01y, m01z⟩ := M01.out)); have G1 := Lib.hid r1; obtain ⟨pp1, bb1, oo1, cc1, rfl, rr1⟩ := r1; clear rr1)
        | (go_at_call 18; (with_reducible refine (H_from2.out _).mono ?_); rintro e w2 ⟨v2, rfl, r2, b2⟩; (try (have b2 := undrew b2)); have d2 : Below w1.heap.size w1 w2 := chain (by first | exact Below.refl _ _ | exact (Below.refl _ _).drew | exact below_one _ _ | exact below_two _ _ _ | exact ((Below.refl _ _).drew).alloc (Nat.le_refl _) _ | exact (((Below.refl _ _).drew).alloc (Nat.le_refl _) _).alloc (by simp) _) b2; have c2 : Below yv.heap.size yv w2 := chain c1 d2; have p0 := keep1 c2 k0; have p1 := keep1 c2 k1; have p2 := keep1 c2 k2; have p3 := keep1 c2 k3; obtain ⟨j2a, j2b, j2c, j2d, j2e, j2f, j2g, j2h⟩ := far7 (show w.heap.size + 3 ≤ w2.heap.size from Nat.le_trans HSB.out c2.size); (try (have A1 := Lib.hid (ZC.made (g := w1.heap.size) rfl b2); obtain ⟨A1a, A1b, A1c, A1d⟩ := A1.out)); (try (have A1 := Lib.hid (ZC.made1 (g := w1.heap.size) rfl b2); have B1 := Lib.hid (ZC.made (g := w1.heap.size + 1) (by simp) b2); obtain ⟨A1a, A1b, A1c, A1d⟩ := A1.out; obtain ⟨B1a, B1b, B1c, B1d⟩ := B1.out)); (try (have A0 := Lib.hid (A0.out.next d2); obtain ⟨A0a, A0b, A0c, A0d⟩ := A0.out)); (try (have B0 := Lib.hid (B0.out.next d2); obtain ⟨B0a, B0b, B0c, B0d⟩ := B0.out)); (try (have L02 := Lib.hid (apart_t L01.out d2.size); obtain ⟨l02x, l02y, l02z⟩ := L02.out)); (try (have M02 := Lib.hid (apart_t M01.out d2.size); obtain ⟨m02x, m02y, m02z⟩ := M02.out)); (try (have L12 := Lib.hid (apart_b (g := w1.heap.size) rfl b2); obtain ⟨l12x, l12y, l12z⟩ := L12.out)); (try (have MM := Lib.hid (apart_b2 (g := w1.heap.size) rfl b2); have L12 := Lib.hid MM.out.1; have M12 := Lib.hid MM.out.2; clear MM; obtain ⟨l12x, l12y, l12z⟩ := L12.out; obtain ⟨m12x, m12y, m12z⟩ := M12.out)); have G2 := Lib.hid (And.intro (Ri.below G1.out d2 (Nat.le_refl _)) r2); obtain ⟨pp2, bb2, oo2, cc2, rfl, rr2⟩ := r2; clear rr2)
        | fail)
    all_goals
      obtain ⟨r1, r2⟩ := G2.out
      refine hMK _ _ (Met.intro (hRJ _ _ ?_))
      (repeat apply Exists.intro)
      refine ⟨?_, rfl⟩
      refine ⟨_, _, pp1, pp2, (Nm.dg D9 x.natAbs).length, cc1, (Nm.dg D9 y'.natAbs).length, cc2, rfl, rfl, ?_⟩
      show CutI (.bool bx) (.bool by') (.slice pp1 _ cc1) (.slice pp2 _ cc2) (Nm.dg D9 x.natAbs) (Nm.dg D9 y'.natAbs) yv.heap.size yv _ _ _
      have sA0 : yv.heap.size ≤ yv.heap.size := Nat.le_refl _
      have sB0 : yv.heap.size ≤ yv.heap.size + 1 := Nat.le_succ _
      have sA1 : yv.heap.size ≤ w1.heap.size := c1.size
      have sB1 : yv.heap.size ≤ w1.heap.size + 1 := Nat.le_succ_of_le sA1
      have sA2 : yv.heap.size ≤ w2.heap.size := c2.size
      have n0 : ¬ yv.heap.size = yv.heap.size + 1 := Nat.ne_of_lt (Nat.lt_succ_self _)
      have n1 : ¬ w1.heap.size = w1.heap.size + 1 := Nat.ne_of_lt (Nat.lt_succ_self _)
      have m0 : ¬ yv.heap.size + 1 = yv.heap.size := fun e => n0 e.symm
      have m1 : ¬ w1.heap.size + 1 = w1.heap.size := fun e => n1 e.symm
      first
        | with_reducible exact CutI.s1 r1 r2 c2 sA2
        | with_reducible exact CutI.s2 r1 r2 c2 sA2
        | with_reducible exact CutI.s3 A0.out sA0 r1 r2 c2 sA2
        | with_reducible exact CutI.s4 A0.out sA0 r1 r2 c2 sA2
        | with_reducible exact CutI.s3 A1.out sA1 r1 r2 c2 sA2
        | with_reducible exact CutI.s4 A1.out sA1 r1 r2 c2 sA2
        | with_reducible exact CutI.s3 B0.out sB0 r1 r2 c2 sA2
        | with_reducible exact CutI.s4 B0.out sB0 r1 r2 c2 sA2
        | with_reducible exact CutI.s3 B1.out sB1 r1 r2 c2 sA2
        | with_reducible exact CutI.s4 B1.out sB1 r1 r2 c2 sA2
        | with_reducible exact CutI.s5 A0.out sA0 B0.out sB0 n0 r1 r2 c2
        | with_reducible exact CutI.s5 B0.out sB0 A0.out sA0 m0 r1 r2 c2
        | with_reducible exact CutI.s5 A1.out sA1 B1.out sB1 n1 r1 r2 c2
        | with_reducible exact CutI.s5 B1.out sB1 A1.out sA1 m1 r1 r2 c2
        | with_reducible exact CutI.s5 A0.out sA0 A1.out sA1 l01x r1 r2 c2
        | with_reducible exact CutI.s5 A1.out sA1 A0.out sA0 l01y r1 r2 c2
        | fail
  obtain ⟨g7, g8, y1', y2', n1, c1, n2, c2, rfl, rfl, hcut⟩ := hcut
  obtain ⟨_, T11, T12x, R1, R2, bxx⟩ := hcut.out
  have D := Lib.hid (chain D.out bxx)
  have T5 := Lib.hid (T5.out.next bxx)
  have T7 := Lib.hid (T7.out.next bxx)
  have T8 := Lib.hid (T8.out.next bxx)
  have T10 := Lib.hid (T10.out.next bxx)
  have T12 := Lib.hid (T12.out.next bxx)
  have R1 := Lib.hid R1
  have R2 := Lib.hid R2
  have T13 := Lib.hid T11
  have T14 := Lib.hid T12x
  clear bxx hcut HSB jba jbb jbc jbd jbe jbf jbg jbh
  obtain ⟨k0, k1, _⟩ := T5.out
  obtain ⟨k2, k3, _⟩ := T10.out
  obtain ⟨k4, k5, _⟩ := T13.out
  obtain ⟨k6, k7, _⟩ := T14.out
  go_wp2_with fail
  go_region_held3 (fun W' => W'.cell? ⟨y5.heap.size, 0, none⟩ = some (.bool mb) ∧ W'.cell? ⟨y5.heap.size, 1, none⟩ = some (.string ms) ∧ W'.cell? ⟨y10.heap.size, 0, none⟩ = some (.bool gb) ∧ W'.cell? ⟨y10.heap.size, 1, none⟩ = some (.string gs) ∧ W'.cell? ⟨g7, 0, none⟩ = some (.bool bx) ∧ W'.cell? ⟨g7, 1, none⟩ = some (.slice y1' n1 c1) ∧ W'.cell? ⟨g8, 0, none⟩ = some (.bool by') ∧ W'.cell? ⟨g8, 1, none⟩ = some (.slice y2' n2 c2)) (go_keep)
    (first
      | (go_at_call 37; (with_reducible refine (H_rmul.out _ _ _ (by first | exact Ri.below R1.out E.out (Nat.le_refl _) | exact Ri.drew R1.out) (by first | exact Ri.below R2.out E.out (Nat.le_refl _) | exact Ri.drew R2.out)).mono ?_); rintro e y ⟨v5, rfl, r5, b9⟩; have E := Lib.hid (show Below wc.heap.size wc y by first | exact chain E.out b9 | exact chain ((Below.refl _ _).drew) b9); have p0 := keep1 E.out k0; have p1 := keep1 E.out k1; have p2 := keep1 E.out k2; have p3 := keep1 E.out k3; have p4 := keep1 E.out k4; have p5 := keep1 E.out k5; have p6 := keep1 E.out k6; have p7 := keep1 E.out k7; have R5 := Lib.hid r5; obtain ⟨q5, bb5, o5, c5, rfl, rr5⟩ := r5; clear rr5; clear b9)
      | (go_at_call 30; (with_reducible refine (H_is1.out _ _ R5.out).mono ?_); rintro e y ⟨rfl, b9⟩; have E := Lib.hid (show Below wc.heap.size wc y by first | exact chain E.out b9 | exact chain ((Below.refl _ _).drew) b9); have p0 := keep1 E.out k0; have p1 := keep1 E.out k1; have p2 := keep1 E.out k2; have p3 := keep1 E.out k3; have p4 := keep1 E.out k4; have p5 := keep1 E.out k5; have p6 := keep1 E.out k6; have p7 := keep1 E.out k7;  clear b9)
      | (go_at_call 38; (with_reducible refine (H_rgcd.out _ _ _ (by first | exact Ri.below R1.out E.out (Nat.le_refl _) | exact Ri.drew R1.out) (by first | exact Ri.below R2.out E.out (Nat.le_refl _) | exact Ri.drew R2.out)).mono ?_); rintro e y ⟨v6, rfl, r6, b9⟩; have E := Lib.hid (show Below wc.heap.size wc y by first | exact chain E.out b9 | exact chain ((Below.refl _ _).drew) b9); have p0 := keep1 E.out k0; have p1 := keep1 E.out k1; have p2 := keep1 E.out k2; have p3 := keep1 E.out k3; have p4 := keep1 E.out k4; have p5 := keep1 E.out k5; have p6 := keep1 E.out k6; have p7 := keep1 E.out k7; have R6 := Lib.hid r6; obtain ⟨q6, bb6, o6, c6, rfl, rr6⟩ := r6; clear rr6; clear b9)
      | (go_at_call 30; (with_reducible refine (H_is2.out _ _ R6.out).mono ?_); rintro e y ⟨rfl, b9⟩; have E := Lib.hid (show Below wc.heap.size wc y by first | exact chain E.out b9 | exact chain ((Below.refl _ _).drew) b9); have p0 := keep1 E.out k0; have p1 := keep1 E.out k1; have p2 := keep1 E.out k2; have p3 := keep1 E.out k3; have p4 := keep1 E.out k4; have p5 := keep1 E.out k5; have p6 := keep1 E.out k6; have p7 := keep1 E.out k7;  clear b9)
      | fail)
  have D := Lib.hid (chain D.out E.out)
  have T5 := Lib.hid (T5.out.next E.out)
  have T7 := Lib.hid (T7.out.next E.out)
  have T8 := Lib.hid (T8.out.next E.out)
  have T10 := Lib.hid (T10.out.next E.out)
  have T12 := Lib.hid (T12.out.next E.out)
  have T13 := Lib.hid (T13.out.next E.out)
  have T14 := Lib.hid (T14.out.next E.out)
  have R1 := Lib.hid (Ri.below R1.out E.out (Nat.le_refl _))
  have R2 := Lib.hid (Ri.below R2.out E.out (Nat.le_refl _))
  clear E k0 k1 k2 k3 k4 k5 k6 k7 p0 p1 p2 p3 p4 p5 p6 p7
  obtain ⟨k4, k5, _⟩ := T13.out
  obtain ⟨k6, k7, _⟩ := T14.out
  go_wp2_with fail
  refine (H_rsign.out _ _ R2.out).mono ?_
  rintro e ys ⟨rfl, b9⟩
  have D := Lib.hid (chain D.out b9)
  have T5 := Lib.hid (T5.out.next b9)
  have T7 := Lib.hid (T7.out.next b9)
  have T8 := Lib.hid (T8.out.next b9)
  have T10 := Lib.hid (T10.out.next b9)
  have T12 := Lib.hid (T12.out.next b9)
  have T13 := Lib.hid (T13.out.next b9)
  have T14 := Lib.hid (T14.out.next b9)
  have R1 := Lib.hid (Ri.below R1.out b9 (Nat.le_refl _))
  have R2 := Lib.hid (Ri.below R2.out b9 (Nat.le_refl _))
  clear b9 k4 k5 k6 k7
  obtain ⟨k0, k1, _⟩ := T5.out
  obtain ⟨k6, k7, _⟩ := T7.out
  obtain ⟨k8, k9, _⟩ := T8.out
  obtain ⟨k10, k11, _⟩ := T10.out
  obtain ⟨k12, k13, _⟩ := T12.out
  go_wp2_with fail
  refine (H_known.out _).mono ?_
  rintro e x1 ⟨rfl, b1⟩
  have HZ := Lib.hid (chain hb0.out (chain D.out b1))
  clear b1
  go_wp2
  go_ret
  exact ⟨rfl, HZ.out⟩
end Go.Proofs.Ytlmklhffafcmmaa
