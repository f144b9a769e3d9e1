/- What the theorem leans on, part 13: LehR, Txt2, Txt3, Txt4, LehG, ProdZ, Zz, Txt5. -/
import Derived.Test.YtlmklhffafcmmaaT12
import Derived.Test.YtlmklhffafcmmaaT11
import Derived.Test.YtlmklhffafcmmaaT8
import Derived.Test.YtlmklhffafcmmaaT3
import Derived.Test.YtlmklhffafcmmaaT10

/- The function wide.reducePair: Lehmer's method. -/
namespace Go.Proofs.Ytlmklhffafcmmaa
open Go.RowKit

theorem Rd.uniq {w : World} {v : Value} {xs ys : List Nat} (h : Rd w v xs) (k : Rd w v ys) : xs = ys := by
  obtain ⟨p, b, off, cap, h1, h2, h3, h4, h5, h6⟩ := h
  obtain ⟨q, c, o, cp, k1, k2, k3, k4, k5, k6⟩ := k
  rw [h1] at k1
  obtain ⟨rfl, hl, rfl⟩ := Value.slice.inj k1
  refine List.ext_getElem hl fun i hx hy => ?_
  have e1 := h4 (by intro e; rw [e] at hx; exact absurd hx (Nat.not_lt_zero _))
  have e2 := k4 (by intro e; rw [e] at hy; exact absurd hy (Nat.not_lt_zero _))
  rw [e1] at e2
  obtain ⟨rfl, rfl⟩ : b = c ∧ off = o := by simpa using e2
  have e3 := h6 i hx
  rw [k6 i hy] at e3
  have e4 := (Value.int.inj (Option.some.inj e3)).2
  omega
open Classical in
/-- The number that a slice of limbs reads as. -/
noncomputable def numW (w : World) (v : Value) : Nat := if h : ∃ n, Rd w v (Nm.dg W n) then h.choose else 0
theorem numW_eq {w : World} {v : Value} {n : Nat} (h : Rd w v (Nm.dg W n)) : numW w v = n := by
  have hx : ∃ n, Rd w v (Nm.dg W n) := ⟨n, h⟩
  unfold numW
  rw [dif_pos hx]
  have e := hx.choose_spec.uniq h
  have e2 := congrArg (Nm.val W) e
  rwa [Nm.val_dg W2, Nm.val_dg W2] at e2
theorem dgW_mono {a b : Nat} (h : a ≤ b) : (Nm.dg W a).length ≤ (Nm.dg W b).length := by
  refine Nm.len_le_of_val W2 (Nm.nrm_dg W2 a) ?_
  rw [Nm.val_dg W2]
  have h1 := Nm.val_lt (Nm.dig_dg W2 b)
  rw [Nm.val_dg W2] at h1
  omega

/-- A block of N limbs that begins with the limbs of a number. -/
def NB (w : World) (g N m : Nat) : Prop := (∃ l, Arr w g l ∧ l.length = N ∧ l.take (Nm.dg W m).length = Nm.dg W m) ∧ (Nm.dg W m).length ≤ N
theorem NB.rd {w : World} {g N m : Nat} (h : NB w g N m) (hN : N ≤ 1000000000) : Rd w (.slice (some ⟨g, 0, none⟩) (Nm.dg W m).length N) (Nm.dg W m) := by
  obtain ⟨⟨l, h1, h2, h3⟩, h4⟩ := h
  have := Rd.of_arr h1 0 (Nm.dg W m).length N (by omega) h4 (by unfold maxLen; omega)
  rwa [List.drop_zero, h3] at this
theorem NB.cells {w : World} {g N m : Nat} (h : NB w g N m) : ∀ k (hk : k < (Nm.dg W m).length), w.cell? ⟨g, 0 + k, none⟩ = some (.int .u64 ((Nm.dg W m)[k] : Int)) := by
  obtain ⟨⟨l, h1, h2, h3⟩, h4⟩ := h
  intro k hk
  rw [Nat.zero_add, h1.cell k (by omega)]
  have : (l.take (Nm.dg W m).length)[k]'(by rw [h3]; exact hk) = (Nm.dg W m)[k] := by simp [h3]
  rw [List.getElem_take] at this
  rw [this]
theorem NB.keep {w w' : World} {g N m : Nat} (h : NB w g N m) (he : w'.heap[g]? = w.heap[g]?) : NB w' g N m := by
  obtain ⟨⟨l, h1, h2⟩, h4⟩ := h
  exact ⟨⟨l, h1.keep he, h2⟩, h4⟩
theorem NB.lt {w : World} {g N m : Nat} (h : NB w g N m) : g < w.heap.size := by
  obtain ⟨⟨l, h1, h2⟩, h4⟩ := h
  exact h1.lt
/-- A block of N limbs. -/
def FB (w : World) (g N : Nat) : Prop := ∃ l, Arr w g l ∧ l.length = N
theorem FB.keep {w w' : World} {g N : Nat} (h : FB w g N) (he : w'.heap[g]? = w.heap[g]?) : FB w' g N := by
  obtain ⟨l, h1, h2⟩ := h
  exact ⟨l, h1.keep he, h2⟩
theorem FB.lt {w : World} {g N : Nat} (h : FB w g N) : g < w.heap.size := by
  obtain ⟨l, h1, h2⟩ := h
  exact h1.lt
theorem NB.fb {w : World} {g N m : Nat} (h : NB w g N m) : FB w g N := by
  obtain ⟨⟨l, h1, h2, _⟩, h4⟩ := h
  exact ⟨l, h1, h2⟩

/-- The four buffers. -/
structure Four (w : World) (N gx gy gX gY m n : Nat) : Prop where
  x : NB w gx N m
  y : NB w gy N n
  X : FB w gX N
  Y : FB w gY N
  xy : gx ≠ gy
  xX : gx ≠ gX
  xY : gx ≠ gY
  yX : gy ≠ gX
  yY : gy ≠ gY
  XY : gX ≠ gY

theorem Four.below {w w' : World} {N gx gy gX gY m n : Nat} (h : Four w N gx gy gX gY m n) (b : Below w.heap.size w w') : Four w' N gx gy gX gY m n :=
  ⟨h.x.keep (b.block _ h.x.lt), h.y.keep (b.block _ h.y.lt), h.X.keep (b.block _ h.X.lt), h.Y.keep (b.block _ h.Y.lt), h.xy, h.xX, h.xY, h.yX, h.yY, h.XY⟩
/-- Euclid's step: the rest lies where the first number lay. -/
theorem Four.euclid {w w' : World} {N gx gy gX gY m n r : Nat} (h : Four w N gx gy gX gY m n) (o : Only gx w w') {l : List Nat} (hl : l.length = N) (ha : Arr w' gx (Nm.dg W r ++ l.drop (Nm.dg W r).length)) (hr : (Nm.dg W r).length ≤ N) : Four w' N gy gx gX gY n r :=
  ⟨h.y.keep (o.block _ (fun e => h.xy e.symm)), ⟨⟨_, ha, by simp; omega, by rw [List.take_left]⟩, hr⟩, h.X.keep (o.block _ (fun e => h.xX e.symm)), h.Y.keep (o.block _ (fun e => h.xY e.symm)), fun e => h.xy e.symm, h.yX, h.yY, h.xX, h.xY, h.XY⟩
theorem NB.of_trim {w : World} {g N n p : Nat} {s l : List Nat} (ha : Arr w g (s ++ l.drop n)) (hs : s.length = n) (hn : n ≤ N) (hl : l.length = N) (hd : Nm.Dig W s) (hv : Nm.val W s = p) : NB w g N p := by
  have e : Nm.trimL s = Nm.dg W p := by rw [Nm.trimL_dg W2 hd, hv]
  have h1 := Nm.trimL_le s
  have h2 := Nm.trimL_is_take s
  rw [e] at h1 h2
  refine ⟨⟨_, ha, by simp; omega, ?_⟩, by omega⟩
  rw [List.take_append_of_le_length h1]
  exact h2.symm
/-- Lehmer's step: both numbers lie in the other buffers. -/
theorem Four.lehmer {w a b : World} {N gx gy gX gY m n p q k : Nat} (h : Four w N gx gy gX gY m n) (o1 : Only gX w a) (o2 : Only gY a b) (h1 : NB a gX N p) (h2 : NB b gY N q) : Four b N gX gY gx gy p q :=
  ⟨h1.keep (o2.block _ h.XY), h2, (h.x.fb.keep (o1.block _ h.xX)).keep (o2.block _ h.xY), (h.y.fb.keep (o1.block _ h.yX)).keep (o2.block _ h.yY), h.XY, fun e => h.xX e.symm, fun e => h.yX e.symm, fun e => h.xY e.symm, fun e => h.yY e.symm, h.xy⟩

theorem Four.drew {w : World} {N gx gy gX gY m n : Nat} (h : Four w N gx gy gX gY m n) : Four w.drew N gx gy gX gY m n := ⟨h.x.keep rfl, h.y.keep rfl, h.X.keep rfl, h.Y.keep rfl, h.xy, h.xX, h.xY, h.yX, h.yY, h.XY⟩
theorem Four.drewN {w : World} {N gx gy gX gY m n : Nat} (h : Four w N gx gy gX gY m n) (k : Nat) : Four (w.drewN k) N gx gy gX gY m n := ⟨h.x.keep rfl, h.y.keep rfl, h.X.keep rfl, h.Y.keep rfl, h.xy, h.xX, h.xY, h.yX, h.yY, h.XY⟩
theorem Four.swap {w : World} {N gx gy gX gY m n : Nat} (h : Four w N gx gy gX gY m n) : Four w N gx gy gY gX m n := ⟨h.x, h.y, h.Y, h.X, h.xy, h.xY, h.xX, h.yY, h.yX, fun e => h.XY e.symm⟩
theorem four_made {w0 w : World} {N gx gy m n : Nat} (hx : NB w gx N m) (hy : NB w gy N n) (hxy : gx ≠ gy) (hb : Below gx w0 w) :
    let u := ((w.alloc (.cells (uv (List.replicate N 0)).toArray 81)).alloc (.cells (uv (List.replicate N 0)).toArray 81)).drew
    Four u N gx gy w.heap.size (w.heap.size + 1) m n ∧ gx ≤ w.heap.size ∧ gx ≤ w.heap.size + 1 ∧ Below gx w0 u := by
  intro u
  obtain ⟨a1, a2, a3⟩ := two_made w w (Below.refl _ _) (List.replicate N 0) (List.replicate N 0)
  have kx := hx.lt
  have ky := hy.lt
  have hl : (List.replicate N 0 : List Nat).length = N := by simp
  refine ⟨Four.drew ⟨hx.keep (a3.block _ kx), hy.keep (a3.block _ ky), ⟨_, a1, hl⟩, ⟨_, a2, hl⟩, hxy, by omega, by omega, by omega, by omega, by omega⟩, by omega, by omega, ?_⟩
  exact (hb.trans (a3.mono (Nat.le_of_lt kx))).drew

theorem Four.wroteX {w w' : World} {N gx gy gX gY m n : Nat} (h : Four w N gx gy gX gY m n) (o : Only gX w w') (f : FB w' gX N) : Four w' N gx gy gX gY m n :=
  ⟨h.x.keep (o.block _ h.xX), h.y.keep (o.block _ h.yX), f, h.Y.keep (o.block _ (fun e => h.XY e.symm)), h.xy, h.xX, h.xY, h.yX, h.yY, h.XY⟩
/-- A block that begins with k limbs that say a number. -/
def DB (w : World) (g N k p : Nat) : Prop := ∃ (s l : List Nat), Arr w g (s ++ l.drop k) ∧ s.length = k ∧ l.length = N ∧ Nm.Dig W s ∧ Nm.val W s = p ∧ k ≤ N
theorem DB.keep {w w' : World} {g N k p : Nat} (h : DB w g N k p) (he : w'.heap[g]? = w.heap[g]?) : DB w' g N k p := by
  obtain ⟨s, l, h1, h2⟩ := h
  exact ⟨s, l, h1.keep he, h2⟩
theorem DB.nb {w : World} {g N k p : Nat} (h : DB w g N k p) : NB w g N p := by
  obtain ⟨s, l, h1, h2, h3, h4, h5, h6⟩ := h
  exact NB.of_trim h1 h2 h6 h3 h4 h5
theorem DB.trim {w : World} {g N k p : Nat} (h : DB w g N k p) (hN : N ≤ 1000000000) : Calls Try.prog 101 #[.slice (some ⟨g, 0, none⟩) k N] w fun e w' => e = .returned (.slice (some ⟨g, 0, none⟩) (Nm.dg W p).length N) ∧ w = w' := by
  obtain ⟨s, l, h1, h2, h3, h4, h5, h6⟩ := h
  have := trim_some g 0 N s w (by omega) (by unfold maxLen; omega) fun k hk => by
    rw [Nat.zero_add, h1.cell k (by simp; omega), List.getElem_append_left hk]
  rwa [h2, Nm.trimL_dg W2 h4, h5] at this
theorem diff_nb {w : World} {g ga gb N k a b u v D : Nat} (hA : NB w ga N a) (hB : NB w gb N b) (hF : FB w g N) (na : ga ≠ g) (nb : gb ≠ g) (la : (Nm.dg W a).length ≤ k) (lb : (Nm.dg W b).length ≤ k) (hk : k ≤ N) (hN : N ≤ 1000000000)
    (hD : D + b * v = a * u) (hlt : D < W ^ k) (du : u < W) (dv : v < W) :
    Calls Try.prog 116 #[.slice (some ⟨g, 0, none⟩) k N, .slice (some ⟨ga, 0, none⟩) (Nm.dg W a).length N, .slice (some ⟨gb, 0, none⟩) (Nm.dg W b).length N, .int .u64 (u : Int), .int .u64 (v : Int)] w
      (fun e w' => e = .returned (.tuple #[]) ∧ DB w' g N k D ∧ Only g w w') := by
  obtain ⟨l, hl1, hl2⟩ := hF
  refine (difference_any l (Nm.dg W a) (Nm.dg W b) g k N (some ⟨ga, 0, none⟩) ga 0 N (some ⟨gb, 0, none⟩) gb 0 N u v D w hk (by omega) (by omega) la lb (fun _ => rfl) (fun _ => rfl) na nb hl1 hA.cells hB.cells
    (Nm.dig_dg W2 a) (Nm.dig_dg W2 b) du dv (by rw [Nm.val_dg W2, Nm.val_dg W2]; exact hD) hlt).mono ?_
  rintro e w' ⟨rfl, s, h1, h2, h3, h4, h5⟩
  exact ⟨rfl, ⟨s, l, h4, h1, hl2, h2, h3, hk⟩, h5⟩

def RedPost (G : Nat) (w : World) (e : Ending) (w' : World) : Prop :=
  ∃ v1 v2 m n, e = .returned (.tuple #[v1, v2]) ∧ Rd w' v1 (Nm.dg W m) ∧ Rd w' v2 (Nm.dg W n) ∧ Nat.gcd m n = G ∧ (Nm.dg W n).length ≤ 1 ∧ n ≤ m ∧ (Nm.dg W m).length ≤ 900000000 ∧ Below w.heap.size w w'

set_option maxRecDepth 100000 in
set_option maxHeartbeats 4000000 in
theorem reducePair_any (v1 v2 : Value) (m0 n0 : Nat) (w : World) (h1 : Rd w v1 (Nm.dg W m0)) (h2 : Rd w v2 (Nm.dg W n0)) (hle : n0 ≤ m0) (l1 : (Nm.dg W m0).length ≤ 900000000) :
    Calls Try.prog 96 #[v1, v2] w (RedPost (Nat.gcd m0 n0) w) := by
  obtain ⟨N, hN⟩ : ∃ N, (Nm.dg W m0).length = N := ⟨_, rfl⟩
  have l2 := dgW_mono hle
  have H1 := Lib.hid h1
  have H2 := Lib.hid h2
  obtain ⟨G, hG⟩ : ∃ G, Nat.gcd m0 n0 = G := ⟨_, rfl⟩
  rw [hG]
  obtain ⟨p1, b1, o1, c1, rfl, hr1⟩ := h1
  obtain ⟨p2, b2, o2, c2, rfl, hr2⟩ := h2
  rw [hN] at H1 l1 l2 ⊢
  have HM := Lib.hid (And.intro hG (And.intro hle (And.intro hN l2)))
  have mk0 := mk_limbs0 N (by omega)
  have mk1 := fun w => mk_limbs N w (by omega)
  clear hr1 hr2 hG hle hN
  generalize hM : (Nm.dg W n0).length = M at *
  have HMM := Lib.hid hM
  clear hM
  obtain ⟨w1, hw1⟩ : ∃ w1 : World, w1 = w.alloc (.cells (uv (List.replicate N 0)).toArray 81) := ⟨_, rfl⟩
  have hb1 : Hid (Below w.heap.size w w1) := by rw [hw1]; exact (Below.refl _ _).alloc (Nat.le_refl _) _
  have ha1 : Hid (Arr w1 w.heap.size (List.replicate N 0)) := by rw [hw1]; exact Arr.made w _
  have Hw1 := Lib.hid hw1
  clear hw1
  go_enter Try.func96, Try.ntmps96
  go_wp2_with (at_builtin; rw [← Hw1.out]; refine wpList_append_row rfl (.tmp 13) (.tmp 14) rfl w.heap.size N (List.replicate N 0) (Nm.dg W m0) _ rfl ha1.out (by simp) rfl (H1.out.below hb1.out (Nat.le_refl _)) (by have := HM.out.2.2.1; omega) ?_)
  intro w2 har2 ho2
  have n2 : Hid (NB w2 w.heap.size N m0) := ⟨⟨_, har2, by simp; have := HM.out.2.2.1; omega, by rw [List.take_left]⟩, by have := HM.out.2.2.1; omega⟩
  have hb2 := Lib.hid (ho2.below hb1.out (Nat.le_refl _))
  have hgt : Hid (w.heap.size < w2.heap.size) := n2.out.lt
  clear har2 ho2 ha1 hb1 Hw1
  obtain ⟨w3, hw3⟩ : ∃ w3 : World, w3 = w2.alloc (.cells (uv (List.replicate N 0)).toArray 81) := ⟨_, rfl⟩
  have hb3 : Hid (Below w.heap.size w w3) := by rw [hw3]; exact hb2.out.alloc hb2.out.size _
  have ha3 : Hid (Arr w3 w2.heap.size (List.replicate N 0)) := by rw [hw3]; exact Arr.made w2 _
  have n3 : Hid (NB w3 w.heap.size N m0) := by rw [hw3]; exact n2.out.keep (Below.heap_alloc w2 _ _ n2.out.lt)
  have Hw3 := Lib.hid hw3
  clear hw3
  go_wp2_with (at_builtin; rw [← Hw3.out]; refine wpList_append_row rfl (.tmp 18) (.tmp 19) rfl w2.heap.size N (List.replicate N 0) (Nm.dg W n0) _ rfl ha3.out (by simp) rfl (H2.out.below hb3.out (Nat.le_refl _)) (by have := HM.out.2.2.2; have := HM.out.2.2.1; have := HMM.out; omega) ?_)
  intro w4 har4 ho4
  have n4 : Hid (NB w4 w2.heap.size N n0) := ⟨⟨_, har4, by simp; have := HM.out.2.2.1; have := HM.out.2.2.2; have := HMM.out; omega, by rw [List.take_left]⟩, by have := HM.out.2.2.1; have := HM.out.2.2.2; have := HMM.out; omega⟩
  have n4x : Hid (NB w4 w.heap.size N m0) := n3.out.keep (ho4.block _ (Nat.ne_of_lt hgt.out))
  have hb4 := Lib.hid (ho4.below hb3.out (Nat.le_of_lt hgt.out))
  obtain ⟨gx, hgx⟩ : ∃ gx, w.heap.size = gx := ⟨_, rfl⟩
  obtain ⟨gy, hgy⟩ : ∃ gy, w2.heap.size = gy := ⟨_, rfl⟩
  rw [hgx] at n4x hgt hb4 ⊢
  rw [hgy] at n4 hgt ⊢
  have HGX := Lib.hid hgx
  clear har4 ho4 ha3 hb3 Hw3 n3 n2 hb2 hgx hgy
  go_wp2
  go_cut [6, 7] (fun xv yv wx => ∃ gX gY : Nat, xv = .slice (some ⟨gX, 0, none⟩) N N ∧ yv = .slice (some ⟨gY, 0, none⟩) N N ∧ Hid (Four wx N gx gy gX gY m0 n0 ∧ gx ≤ gX ∧ gx ≤ gY ∧ Below gx w wx))
  case first =>
    rename_i J0 K0 hRJ hMK
    go_region
    all_goals
      refine hMK _ _ (Met.intro (hRJ _ _ ?_))
      (repeat apply Exists.intro)
      refine ⟨?_, rfl⟩
      first
        | exact ⟨_, _, rfl, rfl, four_made n4x.out n4.out (Nat.ne_of_lt hgt.out) hb4.out⟩
        | exact ⟨_, _, rfl, rfl, (four_made n4x.out n4.out (Nat.ne_of_lt hgt.out) hb4.out).1.swap, (four_made n4x.out n4.out (Nat.ne_of_lt hgt.out) hb4.out).2.2.1, (four_made n4x.out n4.out (Nat.ne_of_lt hgt.out) hb4.out).2.1, (four_made n4x.out n4.out (Nat.ne_of_lt hgt.out) hb4.out).2.2.2⟩
  obtain ⟨gX, gY, rfl, rfl, hcut⟩ := hcut
  clear n4 n4x hb4 mk0 mk1 H1 H2
  go_wp2_with fail
  go_loopw [4, 5, 6, 7] (fun xv yv Xv Yv wr => ∃ (wz : World) (gx' gy' gX' gY' m n LX LY : Nat), wz = wr ∧ xv = .slice (some ⟨gx', 0, none⟩) (Nm.dg W m).length N ∧ yv = .slice (some ⟨gy', 0, none⟩) (Nm.dg W n).length N ∧ Xv = .slice (some ⟨gX', 0, none⟩) LX N ∧ Yv = .slice (some ⟨gY', 0, none⟩) LY N ∧ LX ≤ N ∧ LY ≤ N ∧
      Hid (Four wz N gx' gy' gX' gY' m n) ∧ Hid (gx ≤ gx' ∧ gx ≤ gy' ∧ gx ≤ gX' ∧ gx ≤ gY') ∧ Hid (Nat.gcd m n = G ∧ n ≤ m) ∧ Hid (Below gx w wz))
    (fun xv yv _ _ wr => numW wr xv + numW wr yv)
  case atStart => exact ⟨_, gx, gy, gX, gY, m0, n0, N, N, rfl, rfl, by rw [HMM.out], rfl, rfl, Nat.le_refl _, Nat.le_refl _, hcut.out.1, ⟨Nat.le_refl _, Nat.le_of_lt hgt.out, hcut.out.2.1, hcut.out.2.2.1⟩, ⟨HM.out.1, HM.out.2.1⟩, hcut.out.2.2.2⟩
  case round =>
    clear hcut
    obtain ⟨wz, gx', gy', gX', gY', m, n, LX, LY, rfl, rfl, rfl, rfl, rfl, hLX, hLY, hf, hg, hgc, hbl⟩ := hrel
    obtain ⟨lm, hlm⟩ : ∃ lm, (Nm.dg W m).length = lm := ⟨_, rfl⟩
    obtain ⟨ln, hln⟩ : ∃ ln, (Nm.dg W n).length = ln := ⟨_, rfl⟩
    have hfx := hf.out.x.2
    have hfy := hf.out.y.2
    have hmn := dgW_mono hgc.out.2
    rw [hlm] at hfx hmn ⊢
    rw [hln] at hfy hmn ⊢
    by_cases h1 : 1 < ln
    · have h1' : (1 : Int) < (ln : Int) := by omega
      have hS := surest_any (Nm.dg W m) (Nm.dg W n) (some ⟨gx', 0, none⟩) gx' 0 N (some ⟨gy', 0, none⟩) gy' 0 N (lm - 2) wz (by omega) (by omega) (fun _ => rfl) (fun _ => rfl) hf.out.x.cells hf.out.y.cells (Nm.dig_dg W2 m) (Nm.dig_dg W2 n) (Nm.nrm_dg W2 m) (Nm.nrm_dg W2 n) (by rw [Nm.val_dg W2, Nm.val_dg W2]; exact hgc.out.2)
      rw [Nm.val_dg W2, Nm.val_dg W2, hlm, hln] at hS
      have HS := Lib.hid hS
      clear hS
      have hn0 : 0 < n := by
        rcases Nat.eq_zero_or_pos n with h | h
        · rw [h, Nm.dg_zero] at hln; simp at hln; omega
        · exact h
      go_wp2_with fail
      refine HS.out.mono ?_
      rintro e w5 ⟨ev, u0, v0, u1, v1, rfl, hst, bu0, bv0, bu1, bv1, b5⟩
      have b5 := Lib.hid b5
      obtain ⟨w6, hw6⟩ : ∃ w6 : World, w6 = w5.alloc (.cells #[.int .u64 (u0 : Int), .int .u64 (v0 : Int), .int .u64 (u1 : Int), .int .u64 (v1 : Int), .bool ev] 135) := ⟨_, rfl⟩
      have hs6 : Hid (SB w6 w5.heap.size u0 v0 u1 v1 ev) := by rw [hw6]; exact heap_alloc_new w5 _
      have HF6 : Hid (Four w6 N gx' gy' gX' gY' m n) := by rw [hw6]; exact (hf.out.below b5.out).below ((Below.refl w5.heap.size w5).alloc (Nat.le_refl _) _)
      have Hw6 := Lib.hid hw6
      have HSZ : Hid (gx ≤ wz.heap.size) := Nat.le_trans hg.out.1 (Nat.le_of_lt hf.out.x.lt)
      have HSZ5 : Hid (gx ≤ w5.heap.size) := Nat.le_trans HSZ.out b5.out.size
      have HSZ6 : Hid (gx ≤ w6.heap.size) := by rw [hw6]; exact Nat.le_trans HSZ5.out (by simp)
      have HB6 : Hid (Below gx w w6) := by rw [hw6]; exact (hbl.out.trans (b5.out.mono HSZ.out)).alloc HSZ5.out _
      obtain ⟨k0, k1, k2, k3, k4⟩ := hs6.out.cells
      clear hw6 k0 k2 k3 k4 HS
      by_cases hv : v0 = 0
      · have hvj : ((v0 : Int) == 0) = true := by simp [hv]
        clear hv
        have HD := Lib.hid (divOK_any m n hn0 (by omega) (by omega) _ _ w6 (HF6.out.x.rd (by omega)) (HF6.out.y.rd (by omega)))
        rw [hlm, hln] at HD
        clear hst
        go_wp2_with fail
        rw [← Hw6.out]
        go_wp2_with fail
        refine HD.out.mono ?_
        rintro e w7 ⟨vq, vr, rfl, hq, hr, b7⟩
        have HR := Lib.hid hr
        have HF7 := Lib.hid (HF6.out.below b7)
        have hrl : (Nm.dg W (m % n)).length ≤ N := by have := dgW_mono (Nat.le_of_lt (Nat.mod_lt m hn0)); omega
        obtain ⟨l, hA7, hl7⟩ := HF7.out.x.fb
        have HA7 := Lib.hid hA7
        have HB7 := Lib.hid (HB6.out.trans (b7.mono HSZ6.out))
        clear hq hr b7 hA7 k1
        go_wp2_with (at_builtin; refine wpList_append_row rfl (.tmp 44) (.tmp 45) rfl gx' N l (Nm.dg W (m % n)) _ rfl HA7.out hl7 rfl HR.out hrl ?_)
        intro w8 har8 ho8
        have HF8 := Lib.hid (HF7.out.euclid ho8 hl7 har8 hrl)
        have HB8 := Lib.hid (ho8.below HB7.out hg.out.1)
        have HNUM : Hid (numW w8 (.slice (some ⟨gy', 0, none⟩) ln N) + numW w8 (.slice (some ⟨gx', 0, none⟩) (Nm.dg W (m % n)).length N) < numW wz (.slice (some ⟨gx', 0, none⟩) lm N) + numW wz (.slice (some ⟨gy', 0, none⟩) ln N)) := by
          show _ < _
          have e1 := HF8.out.x.rd (by omega)
          have e2 := HF8.out.y.rd (by omega)
          rw [hln] at e1
          have e3 := hf.out.x.rd (by omega)
          have e4 := hf.out.y.rd (by omega)
          rw [hlm] at e3
          rw [hln] at e4
          rw [numW_eq e1, numW_eq e2, numW_eq e3, numW_eq e4]
          have := Nat.mod_lt m hn0
          have := hgc.out.2
          omega
        have HGG : Hid (Nat.gcd n (m % n) = G ∧ m % n ≤ n) := ⟨by have h5 := hgc.out.1; rw [Nat.gcd_comm, Nat.gcd_rec] at h5; rw [Nat.gcd_comm]; exact h5, Nat.le_of_lt (Nat.mod_lt m hn0)⟩
        clear har8 ho8
        go_wp2
        go_roundw
        case rel => exact ⟨_, gy', gx', gX', gY', n, m % n, LX, LY, rfl, by rw [hln], rfl, rfl, rfl, hLX, hLY, HF8, ⟨hg.out.2.1, hg.out.1, hg.out.2.2.1, hg.out.2.2.2⟩, HGG, HB8⟩
        case measure => exact HNUM.out
      · have hvi : ¬ (v0 : Int) = 0 := by omega
        have hvj : ((v0 : Int) == 0) = false := by simp; omega
        obtain ⟨p, q, hs, hqp, hpq, hgg⟩ := (hst.resolve_left hv).gcd hv
        have hmW := Nm.val_lt (Nm.dig_dg W2 m)
        rw [Nm.val_dg W2, hlm] at hmW
        have HPW : Hid (p < W ^ lm) := by show _ < _; omega
        have HQW : Hid (q < W ^ lm) := by show _ < _; omega
        go_wp2_with fail
        rw [← Hw6.out]
        clear hmW
        cases ev with
        | true =>
          simp only [if_true] at hs
          have D1 := Lib.hid (fun wA (h : Four wA N gx' gy' gX' gY' m n) => diff_nb (g := gX') (ga := gx') (gb := gy') (k := lm) (u := u0) (v := v0) (D := p) h.x h.y h.X h.xX h.yX (by omega) (by omega) hfx (by omega) (by rw [Nat.mul_comm, Nat.mul_comm m]; exact hs.1) HPW.out bu0 bv0)
          have D2 := Lib.hid (fun wA (h : Four wA N gx' gy' gX' gY' m n) => diff_nb (g := gY') (ga := gy') (gb := gx') (k := lm) (u := v1) (v := u1) (D := q) h.y h.x h.Y h.yY h.xY (by omega) (by omega) hfx (by omega) (by rw [Nat.mul_comm, Nat.mul_comm n]; exact hs.2) HQW.out bv1 bu1)
          rw [hlm, hln] at D1 D2
          clear hs hst
          go_wp2_with fail
          go_quiet (fail)
          obtain ⟨wA, hwA⟩ : ∃ wA : World, wA = w6.drewN nq := ⟨_, rfl⟩
          have hfA : Hid (Four wA N gx' gy' gX' gY' m n) := by rw [hwA]; exact HF6.out.drewN nq
          have hbA : Hid (Below w6.heap.size w6 wA) := by rw [hwA]; exact belowDrewN (Below.refl _ _) nq
          have hsA : Hid (SB wA w5.heap.size u0 v0 u1 v1 true) := by rw [hwA]; exact hs6.out
          rw [← hwA]
          have HwA := Lib.hid hwA
          clear hwA k1
          obtain ⟨k0, k1, k2, k3, k4⟩ := hsA.out.cells
          go_wp2_with fail
          refine (D1.out _ hfA.out).mono ?_
          rintro e wB ⟨rfl, db, ob⟩
          have hfB := Lib.hid (hfA.out.wroteX ob db.nb.fb)
          have DB1 := Lib.hid db
          have hbB := Lib.hid ob
          have hsB : Hid (SB wB w5.heap.size u0 v0 u1 v1 true) := (ob.block _ (Ne.symm (Nat.ne_of_lt (Nat.lt_of_lt_of_le hf.out.X.lt b5.out.size)))).trans hsA.out
          clear db ob k0 k1 k2 k3 k4
          obtain ⟨k0, k1, k2, k3, k4⟩ := hsB.out.cells
          go_wp2_with fail
          refine (D2.out _ hfB.out).mono ?_
          rintro e wC ⟨rfl, db, ob⟩
          have DB2 := Lib.hid db
          have hbC := Lib.hid ob
          have DB3 := Lib.hid (DB1.out.keep (ob.block _ hf.out.XY))
          have T1 := Lib.hid (DB3.out.trim (by omega))
          have T2 := Lib.hid (DB2.out.trim (by omega))
          have HF9 := Lib.hid (hfA.out.lehmer (k := 0) hbB.out hbC.out DB1.out.nb DB2.out.nb)
          have HB9 : Hid (Below gx w wC) := hbC.out.below (hbB.out.below (HB6.out.trans (hbA.out.mono HSZ6.out)) hg.out.2.2.1) hg.out.2.2.2
          have HNUM : Hid (numW wC (.slice (some ⟨gX', 0, none⟩) (Nm.dg W p).length N) + numW wC (.slice (some ⟨gY', 0, none⟩) (Nm.dg W q).length N) < numW wz (.slice (some ⟨gx', 0, none⟩) lm N) + numW wz (.slice (some ⟨gy', 0, none⟩) ln N)) := by
            show _ < _
            rw [numW_eq (HF9.out.x.rd (by omega)), numW_eq (HF9.out.y.rd (by omega)), ← hlm, ← hln, numW_eq (hf.out.x.rd (by omega)), numW_eq (hf.out.y.rd (by omega))]
            omega
          clear db ob k0 k1 k2 k3 k4 D1 D2 DB1 DB2 hbB hbC
          go_wp2_with fail
          refine T1.out.mono ?_
          rintro e w' ⟨rfl, rfl⟩
          go_wp2_with fail
          refine T2.out.mono ?_
          rintro e w' ⟨rfl, rfl⟩
          go_wp2
          go_roundw
          case rel => exact ⟨_, gX', gY', gx', gy', p, q, lm, ln, rfl, rfl, rfl, rfl, rfl, hfx, hfy, HF9, ⟨hg.out.2.2.1, hg.out.2.2.2, hg.out.1, hg.out.2.1⟩, ⟨hgg.trans hgc.out.1, hqp⟩, HB9⟩
          case measure => exact HNUM.out
        | false =>
          simp only [Bool.false_eq_true, if_false] at hs
          have D1 := Lib.hid (fun wA (h : Four wA N gx' gy' gX' gY' m n) => diff_nb (g := gX') (ga := gy') (gb := gx') (k := lm) (u := v0) (v := u0) (D := p) h.y h.x h.X h.yX h.xX (by omega) (by omega) hfx (by omega) (by rw [Nat.mul_comm, Nat.mul_comm n]; exact hs.1) HPW.out bv0 bu0)
          have D2 := Lib.hid (fun wA (h : Four wA N gx' gy' gX' gY' m n) => diff_nb (g := gY') (ga := gx') (gb := gy') (k := lm) (u := u1) (v := v1) (D := q) h.x h.y h.Y h.xY h.yY (by omega) (by omega) hfx (by omega) (by rw [Nat.mul_comm, Nat.mul_comm m]; exact hs.2) HQW.out bu1 bv1)
          rw [hlm, hln] at D1 D2
          clear hs hst
          go_wp2_with fail
          go_quiet (fail)
          obtain ⟨wA, hwA⟩ : ∃ wA : World, wA = w6.drewN nq := ⟨_, rfl⟩
          have hfA : Hid (Four wA N gx' gy' gX' gY' m n) := by rw [hwA]; exact HF6.out.drewN nq
          have hbA : Hid (Below w6.heap.size w6 wA) := by rw [hwA]; exact belowDrewN (Below.refl _ _) nq
          have hsA : Hid (SB wA w5.heap.size u0 v0 u1 v1 false) := by rw [hwA]; exact hs6.out
          rw [← hwA]
          have HwA := Lib.hid hwA
          clear hwA k1
          obtain ⟨k0, k1, k2, k3, k4⟩ := hsA.out.cells
          go_wp2_with fail
          refine (D1.out _ hfA.out).mono ?_
          rintro e wB ⟨rfl, db, ob⟩
          have hfB := Lib.hid (hfA.out.wroteX ob db.nb.fb)
          have DB1 := Lib.hid db
          have hbB := Lib.hid ob
          have hsB : Hid (SB wB w5.heap.size u0 v0 u1 v1 false) := (ob.block _ (Ne.symm (Nat.ne_of_lt (Nat.lt_of_lt_of_le hf.out.X.lt b5.out.size)))).trans hsA.out
          clear db ob k0 k1 k2 k3 k4
          obtain ⟨k0, k1, k2, k3, k4⟩ := hsB.out.cells
          go_wp2_with fail
          refine (D2.out _ hfB.out).mono ?_
          rintro e wC ⟨rfl, db, ob⟩
          have DB2 := Lib.hid db
          have hbC := Lib.hid ob
          have DB3 := Lib.hid (DB1.out.keep (ob.block _ hf.out.XY))
          have T1 := Lib.hid (DB3.out.trim (by omega))
          have T2 := Lib.hid (DB2.out.trim (by omega))
          have HF9 := Lib.hid (hfA.out.lehmer (k := 0) hbB.out hbC.out DB1.out.nb DB2.out.nb)
          have HB9 : Hid (Below gx w wC) := hbC.out.below (hbB.out.below (HB6.out.trans (hbA.out.mono HSZ6.out)) hg.out.2.2.1) hg.out.2.2.2
          have HNUM : Hid (numW wC (.slice (some ⟨gX', 0, none⟩) (Nm.dg W p).length N) + numW wC (.slice (some ⟨gY', 0, none⟩) (Nm.dg W q).length N) < numW wz (.slice (some ⟨gx', 0, none⟩) lm N) + numW wz (.slice (some ⟨gy', 0, none⟩) ln N)) := by
            show _ < _
            rw [numW_eq (HF9.out.x.rd (by omega)), numW_eq (HF9.out.y.rd (by omega)), ← hlm, ← hln, numW_eq (hf.out.x.rd (by omega)), numW_eq (hf.out.y.rd (by omega))]
            omega
          clear db ob k0 k1 k2 k3 k4 D1 D2 DB1 DB2 hbB hbC
          go_wp2_with fail
          refine T1.out.mono ?_
          rintro e w' ⟨rfl, rfl⟩
          go_wp2_with fail
          refine T2.out.mono ?_
          rintro e w' ⟨rfl, rfl⟩
          go_wp2
          go_roundw
          case rel => exact ⟨_, gX', gY', gx', gy', p, q, lm, ln, rfl, rfl, rfl, rfl, rfl, hfx, hfy, HF9, ⟨hg.out.2.2.1, hg.out.2.2.2, hg.out.1, hg.out.2.1⟩, ⟨hgg.trans hgc.out.1, hqp⟩, HB9⟩
          case measure => exact HNUM.out
    · have h1' : ¬ (1 : Int) < (ln : Int) := by omega
      have HE : Hid (RedPost G w (.returned (.tuple #[.slice (some ⟨gx', 0, none⟩) lm N, .slice (some ⟨gy', 0, none⟩) ln N])) wz) := by
        have e3 := hf.out.x.rd (by omega)
        have e4 := hf.out.y.rd (by omega)
        rw [hlm] at e3
        rw [hln] at e4
        exact ⟨_, _, m, n, rfl, e3, e4, hgc.out.1, by omega, hgc.out.2, by omega, by rw [HGX.out]; exact hbl.out⟩
      go_wp2
      go_ret2
      exact HE.out
end Go.Proofs.Ytlmklhffafcmmaa

/- Decimal digits of a number: plain facts; wide.lowestDigits. -/
namespace Go.Proofs.Ytlmklhffafcmmaa
open Go.RowKit

/-- The digits so far, the lowest first, and the rest. -/
def LdInv (m : Nat) (D : List Nat) (S : Nat) : Prop := Nm.Dig 10 D ∧ Nm.val 10 D + 10 ^ D.length * S = m ∧ (S = 0 → Nm.Nrm D)
theorem LdInv.start (m : Nat) : LdInv m [] m := ⟨Nm.dig_nil 10, by simp [Nm.val], fun _ => trivial⟩
theorem LdInv.step {m S : Nat} {D : List Nat} (h : LdInv m D S) (h0 : S ≠ 0) : LdInv m (D ++ [S % 10]) (S / 10) := by
  obtain ⟨h1, h2, h3⟩ := h
  refine ⟨Nm.dig_append.2 ⟨h1, Nm.dig_cons.2 ⟨Nat.mod_lt _ (by decide), Nm.dig_nil 10⟩⟩, ?_, fun h4 => Nm.nrm_snoc D _ (by omega)⟩
  rw [Nm.val_snoc, List.length_append, List.length_singleton, Nat.pow_succ, Nat.add_assoc, Nat.mul_assoc, ← Nat.mul_add, Nat.mod_add_div]
  exact h2
theorem LdInv.finish {m : Nat} {D : List Nat} (h : LdInv m D 0) : D = Nm.dg 10 m := by
  obtain ⟨h1, h2, h3⟩ := h
  have h4 := Nm.eq_dg (by decide) h1 (h3 rfl)
  rw [Nat.mul_zero, Nat.add_zero] at h2
  rw [h2] at h4
  exact h4
theorem LdInv.len {m K S : Nat} {D : List Nat} (h : LdInv m D S) (h0 : S ≠ 0) (hm : m < 10 ^ K) : D.length < K := by
  obtain ⟨h1, h2, h3⟩ := h
  have h4 : 10 ^ D.length ≤ 10 ^ D.length * S := Nat.le_mul_of_pos_right _ (by omega)
  exact (Nat.pow_lt_pow_iff_right (by decide : 1 < 10)).1 (by omega : 10 ^ D.length < 10 ^ K)
theorem ld_split (c T k : Nat) : (c + 10 ^ (k + 1) * T) % 10 = c % 10 ∧ (c + 10 ^ (k + 1) * T) / 10 = c / 10 + 10 ^ k * T := by
  rw [Nat.pow_succ, Nat.mul_comm (10 ^ k) 10, Nat.mul_assoc]
  generalize 10 ^ k * T = x
  omega
/-- The digits as letters. -/
def asc (D : List Nat) : List Nat := D.map fun x => 48 + x
theorem asc_snoc (D : List Nat) (x : Nat) : asc (D ++ [x]) = asc D ++ [48 + x] := by simp [asc]
theorem asc_length (D : List Nat) : (asc D).length = D.length := by simp [asc]

/-- The letters of a number, the lowest first, in a row of the call's own. -/
def LowPost (m B : Nat) (w : World) (e : Ending) (w' : World) : Prop :=
  ∃ v, e = .returned v ∧ w'.ownsRow w.heap.size 5 1 v (Nm.dg 10 m).length (bvl (asc (Nm.dg 10 m))) ∧ Below B w w'

theorem dw19 (X : List Nat) (g cap y : Nat) (w : World) (hy : y = 10000000000000000000) (hX : X.length ≤ 1000000000) (harr : WrW w g X) (d1 : Nm.Dig W X) :
    Calls Try.prog 102 #[.slice (some ⟨g, 0, none⟩) X.length cap, .slice (some ⟨g, 0, none⟩) X.length cap, .int .u64 10000000000000000000] w (DwiPost g X y w) := by
  have h := divideWord_in X g cap y w hX harr d1 (by rw [hy]; unfold W; decide) (by omega)
  rw [hy] at h ⊢
  exact h

/-- One step of the letters. -/
theorem ld_go {m c T k : Nat} {D : List Nat} (h : LdInv m D (c + 10 ^ (k + 1) * T)) (h0 : 0 < c ∨ 0 < T) : LdInv m (D ++ [c % 10]) (c / 10 + 10 ^ k * T) := by
  have h1 : c + 10 ^ (k + 1) * T ≠ 0 := by
    rcases h0 with g | g
    · omega
    · have : 0 < 10 ^ (k + 1) * T := Nat.mul_pos (Nat.pow_pos (by decide)) g
      omega
  have h2 := h.step h1
  rwa [(ld_split c T k).1, (ld_split c T k).2] at h2
theorem ld_c {c k : Nat} (h : c < 10 ^ (k + 1)) : c / 10 < 10 ^ k := by rw [Nat.pow_succ] at h; omega

set_option maxRecDepth 100000 in
set_option maxHeartbeats 4000000 in
theorem lowestDigits_any (m g cap B K : Nat) (w : World) (hw : WrW w g (Nm.dg W m)) (hg : g < w.heap.size) (hB : B ≤ g) (hcap : (Nm.dg W m).length ≤ cap) (hcm : cap ≤ maxLen) (hm : m < 10 ^ K) (hK : K ≤ 1000000) :
    Calls Try.prog 75 #[.slice (some ⟨g, 0, none⟩) (Nm.dg W m).length cap] w (LowPost m B w) := by
  have H0 := Lib.hid hw
  have HG := Lib.hid (And.intro hg hB)
  have HCM := Lib.hid hcm
  have HM := Lib.hid hm
  have HCAP := Lib.hid hcap
  have HK := Lib.hid hK
  have hi3 : (Try.prog.info? 5).map (fun i => (i.zero, i.size, i.bytes)) = some (some (.int .u8 0), 1, 1) := by kernel_rfl
  obtain ⟨i0, hi0, hz0, hz1, hz2⟩ := info_parts hi3
  have HI := Lib.hid (And.intro hi0 (And.intro hz0 (And.intro hz1 hz2)))
  obtain ⟨y, hy⟩ : ∃ y : Nat, y = 10000000000000000000 := ⟨_, rfl⟩
  have HY := Lib.hid hy
  clear hw hg hB hcm hm hi3 hi0 hz0 hz1 hz2 hy hcap hK
  go_enter Try.func75, Try.ntmps75
  go_wp2
  go_loopw [0, 3, 4, 5] (fun lv dv _ _ wr => ∃ (wz : World) (S n l : Nat) (D : List Nat), wz = wr ∧ lv = .slice (some ⟨g, 0, none⟩) l cap ∧ Hid (l = (Nm.dg W S).length) ∧ Hid (S ≤ m) ∧ l ≤ cap ∧ Hid (n = D.length) ∧ Hid (LdInv m D S) ∧
      Hid (wz.ownsRow w.heap.size 5 1 dv n (bvl (asc D))) ∧ Hid (WrW wz g (Nm.dg W S)) ∧ Hid (Below B w wz) ∧ Hid (w.heap.size ≤ wz.heap.size))
    (fun lv _ _ _ wr => numW wr lv)
  case atStart => exact ⟨w, m, 0, _, [], rfl, rfl, rfl, Nat.le_refl _, HCAP.out, rfl, LdInv.start m, World.ownsRow_nil _ _ _ _, H0.out, Below.refl _ _, Nat.le_refl _⟩
  case round =>
    clear H0
    obtain ⟨wz, S, n, l, D, rfl, rfl, hl, hSm, hlc, hn, hinv, hown, hwr, hbl, hsz⟩ := hrel
    rcases Nat.eq_zero_or_pos S with h0 | h0
    · have HF : Hid (n = (Nm.dg 10 m).length ∧ D = Nm.dg 10 m) := by
        have h5 := hinv.out
        rw [h0] at h5
        have h6 := h5.finish
        exact ⟨by rw [hn.out, ← h6], h6⟩
      have hl0 : l = 0 := by have h5 := hl.out; rw [h0] at h5; rw [h5]; rfl
      subst hl0
      clear hl hn hinv h0 hwr
      go_wp2
      go_ret
      exact ⟨_, rfl, by have h5 := hown.out; rw [← HF.out.1, ← HF.out.2]; exact h5, hbl.out⟩
    · have hl0 : 0 < l := by
        have h5 := hl.out
        rcases Nat.eq_zero_or_pos l with h6 | h6
        · exact absurd (dg_nil_iff W2 (by rw [← h5]; exact h6)) (by omega)
        · exact h6
      have hlb : (Nm.dg W S).length ≤ K := dg_len_pow (Nat.lt_of_le_of_lt hSm.out HM.out)
      have hdw := dw19 (Nm.dg W S) g cap y wz HY.out (by have h5 := HK.out; omega) hwr.out (Nm.dig_dg W2 S)
      rw [← hl.out] at hdw
      unfold DwiPost at hdw
      rw [Nm.val_dg W2, ← hl.out] at hdw
      obtain ⟨T, hT⟩ : ∃ T, S / y = T := ⟨_, rfl⟩
      obtain ⟨c, hc⟩ : ∃ c, S % y = c := ⟨_, rfl⟩
      rw [hT, hc] at hdw
      have HDW := Lib.hid hdw
      have HTC := Lib.hid (And.intro hT hc)
      have HNM : Hid (numW wz (.slice (some ⟨g, 0, none⟩) l cap) = S) := by
        have h5 := hwr.out.rd (cap := cap) (Nat.lt_of_lt_of_le HG.out.1 hsz.out) (by rw [← hl.out]; exact hlc) HCM.out
        rw [← hl.out] at h5
        exact numW_eq h5
      have HS0 := Lib.hid h0
      clear hdw hlb hl hwr h0 hT hc
      go_wp2_with (go_at_call 102; (with_reducible refine HDW.out.mono ?_); rintro e w1 ⟨t, rfl, ht1, ht2, ht3, hw1, ho1⟩)
      obtain ⟨hT, hc⟩ := HTC.out
      have htr : Nm.trimL t = Nm.dg W T := by rw [← ht3]; exact Nm.trimL_dg W2 ht2
      have htx := trim_in g cap t w1 hw1 (by omega) HCM.out
      rw [ht1, htr] at htx
      have HTX := Lib.hid htx
      have HTL : Hid ((Nm.dg W T).length ≤ l) := by rw [← ht1, ← htr]; exact Nm.trimL_le t
      have HW1 : Hid (WrW w1 g (Nm.dg W T)) := by have h5 := hw1.trim; rwa [htr] at h5
      have HO1 : Hid (w1.ownsRow w.heap.size 5 1 _ n (bvl (asc D))) := own_only hown.out ho1 HG.out.1
      have HB1 : Hid (Below B w w1) := ho1.below hbl.out HG.out.2
      have HZ1 : Hid (w.heap.size ≤ w1.heap.size) := by rw [ho1.size]; exact hsz.out
      have y19 : y = 10 ^ 19 := by rw [HY.out]
      have HC : Hid (c < 10 ^ 19) := by rw [← hc, ← y19]; exact Nat.mod_lt _ (by rw [HY.out]; decide)
      have HST : Hid (S = c + 10 ^ 19 * T) := by rw [← y19, ← hc, ← hT]; exact (Nat.mod_add_div S y).symm
      have HTS : Hid (T < S) := by rw [← hT]; exact Nat.div_lt_self HS0.out (by rw [HY.out]; decide)
      have HIN : Hid (LdInv m D (c + 10 ^ 19 * T)) := by rw [← HST.out]; exact hinv.out
      have HT0 : Hid ((Nm.dg W T).length = 0 ↔ T = 0) := ⟨dg_nil_iff W2, fun h => by rw [h]; rfl⟩
      clear ht1 ht2 ht3 hw1 ho1 hT hc htr htx hown hbl hsz y19 hinv HDW HTC
      obtain ⟨tl, htl⟩ : ∃ tl, (Nm.dg W T).length = tl := ⟨_, rfl⟩
      rw [htl] at HTX HTL HT0
      have HTl := Lib.hid htl
      clear htl
      go_wp2_with (go_at_call 101; (with_reducible refine HTX.out.mono ?_); rintro e w9 ⟨rfl, rfl⟩)
      go_wp2
      go_loopw [3, 4, 5] (fun dv cv iv wr => ∃ (wy : World) (i c n : Nat) (ci : Int) (D : List Nat), wy = wr ∧ i ≤ 19 ∧ iv = .int .i64 (i : Int) ∧ cv = .int .u64 ci ∧ 0 ≤ ci ∧ ci < 18446744073709551616 ∧ Hid ((c : Int) = ci) ∧ Hid (c < 10 ^ (19 - i)) ∧ Hid (n = D.length) ∧ Hid (LdInv m D (c + 10 ^ (19 - i) * T)) ∧
          Hid (wy.ownsRow w.heap.size 5 1 dv n (bvl (asc D))) ∧ Hid (WrW wy g (Nm.dg W T)) ∧ Hid (Below B w wy) ∧ Hid (w.heap.size ≤ wy.heap.size))
        (fun _ _ iv _ => 19 - (intOf iv).toNat)
      case atStart => exact ⟨w1, 0, c, n, _, D, rfl, by omega, rfl, rfl, by omega, by have h5 := HC.out; omega, rfl, HC.out, hn.out, HIN.out, HO1.out, HW1.out, HB1.out, HZ1.out⟩
      case round =>
        clear HO1 HW1 HB1 HZ1 HIN HC hn
        obtain ⟨wy, i, c, n, ci, D, rfl, hi, rfl, rfl, hc0, hc1, hci, hcb, hn, hinv, hown, hwr, hbl, hsz⟩ := hrel
        by_cases hgo : i < 19 ∧ (0 < ci ∨ 0 < tl)
        · obtain ⟨hi19, hor⟩ := hgo
          have hpos : 0 < c ∨ 0 < T := by
            rcases hor with h | h
            · exact Or.inl (by have h5 := hci.out; omega)
            · right
              rcases Nat.eq_zero_or_pos T with h6 | h6
              · have h7 := HT0.out.2 h6; omega
              · exact h6
          have e19 : 19 - i = (19 - (i + 1)) + 1 := by omega
          have hinv2 := hinv.out
          have hcb2 := hcb.out
          rw [e19] at hinv2 hcb2
          have hlen : D.length < K := by
            refine hinv2.len (S := c + 10 ^ (19 - (i + 1) + 1) * T) ?_ HM.out
            rcases hpos with h | h
            · omega
            · have : 0 < 10 ^ (19 - (i + 1) + 1) * T := Nat.mul_pos (Nat.pow_pos (by decide)) h
              omega
          have HST2 := Lib.hid (ld_go hinv2 hpos)
          have HCB2 := Lib.hid (ld_c hcb2)
          have HLEN : Hid (n ≤ 1000000) := by have h5 := HK.out; have h6 := hn.out; show _ ≤ _; omega
          have HN2 : Hid (n + 1 = (D ++ [c % 10]).length) := by show _ = _; rw [List.length_append, hn.out]; rfl
          have HBV : Hid (bvl (asc (D ++ [c % 10])) = bvl (asc D) ++ [Value.int .u8 (48 + ci % 10)]) := by
            show _ = _
            rw [asc_snoc, bvl_snoc]
            have h5 := hci.out
            congr 3
            omega
          have HC2 : Hid (((c / 10 : Nat) : Int) = ci / 10) := by show _ = _; have h5 := hci.out; omega
          have ew1 : IntKind.u8.wrap (ci % 10) = ci % 10 := by
            have h5 := byte_wrap (c % 10)
            have h6 := hci.out
            have h7 : ((c % 10 : Nat) : Int) = ci % 10 := by omega
            rw [h7] at h5
            rw [h5]; omega
          have ew2 : IntKind.u8.wrap (48 + ci % 10) = 48 + ci % 10 := by
            have h5 := byte_wrap (48 + c % 10)
            have h6 := hci.out
            have h7 : ((48 + c % 10 : Nat) : Int) = 48 + ci % 10 := by omega
            rw [h7] at h5
            rw [h5]; omega
          clear hpos e19 hinv2 hcb2 hlen hci hcb hn hinv
          by_cases hcp : 0 < ci
          · clear hor
            go_wp2_with (at_builtin; refine wpList_append_own _ rfl _ _ 62 rfl w.heap.size 5 i0 (.int .u8 0) 1 1 Try.underlying62 HI.out.1 HI.out.2.1 HI.out.2.2.1 HI.out.2.2.2 rfl (by decide) _ _ _ rfl (hown.out.alloc _) ⟨wy.heap.size, 0, none⟩ 1 1 [.int .u8 (48 + ci % 10)] rfl rfl ?fac1 ?fac2 ?fac3 ?fac4 ?fac5 ?_)
            case fac1 => exact one_cell (by simp [go_sem])
            case fac2 => intro u hu; simp at hu; subst hu; rfl
            case fac3 => have h5 := HLEN.out; unfold maxLen; omega
            case fac4 => have h5 := HLEN.out; omega
            case fac5 => have h5 := hsz.out; simp; omega
            intro v' w2 hown1 hgrow1 _
            rw [← HBV.out] at hown1
            have hbl1 : Hid (Below w.heap.size wy w2) := ((Below.refl w.heap.size wy).alloc hsz.out _).grown hgrow1 (by have h5 := hsz.out; simp; omega) (fun q hq => (hown.out.lt q hq).1)
            have hown2 : Hid (w2.ownsRow w.heap.size 5 1 v' (n + 1) (bvl (asc (D ++ [c % 10])))) := hown1
            have hwr2 : Hid (WrW w2 g (Nm.dg W T)) := hwr.out.keep (hbl1.out.block g HG.out.1)
            have hb2 : Hid (Below B w w2) := hbl.out.trans (hbl1.out.mono (by have h5 := HG.out; omega))
            have hsz2 : Hid (w.heap.size ≤ w2.heap.size) := Nat.le_trans hsz.out hbl1.out.size
            clear hown1 hgrow1 hbl1 hown hwr hbl hsz HBV ew1 ew2
            go_wp2
            go_roundw
            case rel => exact ⟨_, i + 1, c / 10, n + 1, _, D ++ [c % 10], rfl, by omega, by go_num, rfl, by omega, by omega, HC2.out, HCB2.out, HN2.out, HST2.out, hown2.out, hwr2.out, hb2.out, hsz2.out⟩
            case measure => simp [intOf]; omega
          · have htp : 0 < tl := by omega
            clear hor
            go_wp2_with (at_builtin; refine wpList_append_own _ rfl _ _ 62 rfl w.heap.size 5 i0 (.int .u8 0) 1 1 Try.underlying62 HI.out.1 HI.out.2.1 HI.out.2.2.1 HI.out.2.2.2 rfl (by decide) _ _ _ rfl (hown.out.alloc _) ⟨wy.heap.size, 0, none⟩ 1 1 [.int .u8 (48 + ci % 10)] rfl rfl ?fbc1 ?fbc2 ?fbc3 ?fbc4 ?fbc5 ?_)
            case fbc2 => first | rfl | (intro u hu; simp at hu; subst hu; rfl)
            case fbc3 => have h5 := HLEN.out; unfold maxLen; omega
            case fbc4 => have h5 := HLEN.out; omega
            case fbc5 => have h5 := hsz.out; simp; omega
            intro v' w2 hown1 hgrow1 _
            rw [← HBV.out] at hown1
            have hbl1 : Hid (Below w.heap.size wy w2) := ((Below.refl w.heap.size wy).alloc hsz.out _).grown hgrow1 (by have h5 := hsz.out; simp; omega) (fun q hq => (hown.out.lt q hq).1)
            have hown2 : Hid (w2.ownsRow w.heap.size 5 1 v' (n + 1) (bvl (asc (D ++ [c % 10])))) := hown1
            have hwr2 : Hid (WrW w2 g (Nm.dg W T)) := hwr.out.keep (hbl1.out.block g HG.out.1)
            have hb2 : Hid (Below B w w2) := hbl.out.trans (hbl1.out.mono (by have h5 := HG.out; omega))
            have hsz2 : Hid (w.heap.size ≤ w2.heap.size) := Nat.le_trans hsz.out hbl1.out.size
            clear hown1 hgrow1 hbl1 hown hwr hbl hsz HBV ew1 ew2
            go_wp2
            go_roundw
            case rel => exact ⟨_, i + 1, c / 10, n + 1, _, D ++ [c % 10], rfl, by omega, by go_num, rfl, by omega, by omega, HC2.out, HCB2.out, HN2.out, HST2.out, hown2.out, hwr2.out, hb2.out, hsz2.out⟩
            case measure => simp [intOf]; omega
        · have hz : ¬ 0 < ci ∧ (i < 19 → ¬ 0 < tl) := by
            by_cases h19 : i < 19
            · refine ⟨fun h => hgo ⟨h19, Or.inl h⟩, fun _ h => hgo ⟨h19, Or.inr h⟩⟩
            · obtain rfl : i = 19 := by omega
              have h5 := hcb.out
              have h6 := hci.out
              rw [Nat.sub_self, Nat.pow_zero] at h5
              exact ⟨by omega, fun h => absurd h h19⟩
          have hcz : c = 0 := by have h6 := hci.out; omega
          have HFI : Hid (LdInv m D T) := by
            have h5 := hinv.out
            rw [hcz, Nat.zero_add] at h5
            by_cases h19 : i < 19
            · have h6 : tl = 0 := by have := hz.2 h19; omega
              have h7 := HT0.out.1 h6
              rw [h7, Nat.mul_zero] at h5
              rw [h7]; exact h5
            · obtain rfl : i = 19 := by omega
              rw [Nat.sub_self, Nat.pow_zero, Nat.one_mul] at h5
              exact h5
          have HNUM : Hid (numW wy (.slice (some ⟨g, 0, none⟩) tl cap) < numW wz (.slice (some ⟨g, 0, none⟩) l cap)) := by
            have h5 := hwr.out.rd (cap := cap) (Nat.lt_of_lt_of_le HG.out.1 hsz.out) (by rw [HTl.out]; have h7 := HTL.out; omega) HCM.out
            rw [HTl.out] at h5
            show _ < _
            rw [numW_eq h5, HNM.out]
            exact HTS.out
          have HTM : Hid (T ≤ m) := by have h5 := HTS.out; have h6 := hSm.out; show _ ≤ _; omega
          have HTLL := HTL.out
          clear hcb hci hinv hcz
          by_cases h19 : i < 19
          · have z1 := hz.1
            have z2 := hz.2 h19
            clear hz hgo
            go_wp2
            go_roundw
            case rel => exact ⟨_, T, n, tl, D, rfl, rfl, HTl.out.symm, HTM.out, by omega, hn.out, HFI.out, hown.out, hwr.out, hbl.out, hsz.out⟩
            case measure => exact HNUM.out
          · clear hz hgo
            go_wp2
            go_roundw
            case rel => exact ⟨_, T, n, tl, D, rfl, rfl, HTl.out.symm, HTM.out, by omega, hn.out, HFI.out, hown.out, hwr.out, hbl.out, hsz.out⟩
            case measure => exact HNUM.out
end Go.Proofs.Ytlmklhffafcmmaa

/- The decimal text of an integer: plain facts. -/
namespace Go.Proofs.Ytlmklhffafcmmaa
open Go.RowKit

/-- The letters of a number, the highest first. -/
def tl (m : Nat) : List UInt8 := (asc (Nm.dg 10 m)).reverse.map UInt8.ofNat
/-- The text of an integer. -/
def tx (z : Int) : ByteArray := if z = 0 then ⟨#[48]⟩ else ⟨((if z < 0 then [45] else []) ++ tl z.natAbs).toArray⟩
theorem tl_length (m : Nat) : (tl m).length = (Nm.dg 10 m).length := by simp [tl, asc]
theorem tl_mem {m : Nat} {x : UInt8} (h : x ∈ tl m) : 48 ≤ x.toNat ∧ x.toNat ≤ 57 := by
  simp only [tl, asc, List.mem_map, List.mem_reverse] at h
  obtain ⟨y, ⟨d, hd, rfl⟩, rfl⟩ := h
  have h1 : d < 10 := Nm.dig_dg (by decide) m d hd
  rw [UInt8.toNat_ofNat', Nat.mod_eq_of_lt (by omega)]
  omega
theorem dv_asc (D : List Nat) (hD : Nm.Dig 10 D) : dv ((asc D).reverse.map UInt8.ofNat) 0 = Nm.val 10 D := by
  induction D with
  | nil => rfl
  | cons x D ih =>
    have h1 : x < 10 := hD x (by simp)
    have h2 : Nm.Dig 10 D := fun y hy => hD y (by simp [hy])
    have e1 : (asc (x :: D)).reverse.map UInt8.ofNat = (asc D).reverse.map UInt8.ofNat ++ [UInt8.ofNat (48 + x)] := by simp [asc]
    rw [e1, dv_append, ih h2]
    show 10 * Nm.val 10 D + ((UInt8.ofNat (48 + x)).toNat - 48) = x + 10 * Nm.val 10 D
    rw [UInt8.toNat_ofNat', Nat.mod_eq_of_lt (by omega)]
    omega
theorem tl_dv (m : Nat) : dv (tl m) 0 = m := by
  unfold tl
  rw [dv_asc _ (Nm.dig_dg (by decide) m), Nm.val_dg (by decide)]
theorem tl_cons {m : Nat} (h : m ≠ 0) : ∃ x r, tl m = x :: r ∧ x.toNat ≠ 48 ∧ 48 ≤ x.toNat ∧ x.toNat ≤ 57 := by
  have h0 : 0 < (Nm.dg 10 m).length := by
    rcases Nat.eq_zero_or_pos (Nm.dg 10 m).length with h1 | h1
    · exact absurd (dg_nil_iff (by decide) h1) h
    · exact h1
  have h1 := Nm.nrm_last (Nm.nrm_dg (B := 10) (by decide) m) h0
  have h2 := Nm.dig_get (Nm.dig_dg (B := 10) (by decide) m) ((Nm.dg 10 m).length - 1) (by omega)
  have e : Nm.dg 10 m = (Nm.dg 10 m).take ((Nm.dg 10 m).length - 1) ++ [(Nm.dg 10 m)[(Nm.dg 10 m).length - 1]] := by
    have h3 : (Nm.dg 10 m).length - 1 + 1 = (Nm.dg 10 m).length := by omega
    conv => lhs; rw [← List.take_length (l := Nm.dg 10 m), ← h3]
    rw [List.take_succ_eq_append_getElem (by omega)]
  generalize (Nm.dg 10 m)[(Nm.dg 10 m).length - 1] = d at *
  refine ⟨UInt8.ofNat (48 + d), (asc ((Nm.dg 10 m).take ((Nm.dg 10 m).length - 1))).reverse.map UInt8.ofNat, ?_, ?_⟩
  · unfold tl
    conv => lhs; rw [e, asc_snoc]
    simp
  · rw [UInt8.toNat_ofNat', Nat.mod_eq_of_lt (by omega)]
    omega
theorem tl_le {m K : Nat} (h : m < 10 ^ K) : (tl m).length ≤ K := by
  rw [tl_length]
  exact Nm.len_le_of_val (B := 10) (by decide) (Nm.nrm_dg (by decide) m) (by rwa [Nm.val_dg (by decide)])
theorem tx_list (z : Int) (h : z ≠ 0) : (tx z).data.toList = (if z < 0 then [45] else []) ++ tl z.natAbs := by
  unfold tx
  rw [if_neg h]
theorem tx_ds (z : Int) (h : z ≠ 0) : ds (tx z) = ⟨(tl z.natAbs).toArray⟩ ∧ dneg (tx z) = zb z := by
  unfold ds dneg zb
  rw [tx_list z h]
  obtain ⟨x, r, hx, h1, h2, _⟩ := tl_cons (m := z.natAbs) (by omega)
  by_cases hz : z < 0
  · rw [if_pos hz, decide_eq_true hz]
    refine ⟨?_, ?_⟩
    · unfold Lib.trimPrefix Lib.hasPrefix
      simp [List.isPrefixOf]
    · unfold Lib.hasPrefix
      simp [List.isPrefixOf]
  · rw [if_neg hz, decide_eq_false hz, List.nil_append]
    have hp : Lib.hasPrefix (tl z.natAbs) [45] = false := by
      rw [hx]
      unfold Lib.hasPrefix
      have : (45 : UInt8) ≠ x := fun e => by rw [← e] at h2; simp at h2
      simp [List.isPrefixOf, this]
    refine ⟨?_, hp⟩
    unfold Lib.trimPrefix
    rw [hp]
    simp
theorem tx_decT (z : Int) : DecT (tx z) := by
  by_cases h : z = 0
  · subst h; exact Or.inl (by rw [ByteArray.toList_eq]; rfl)
  · obtain ⟨e1, _⟩ := tx_ds z h
    obtain ⟨x, r, hx, h1, h2, _⟩ := tl_cons (m := z.natAbs) (by omega)
    refine Or.inr ⟨?_, ?_⟩
    · rw [e1, hx]
      exact ⟨by show 0 < (x :: r).toArray.size; simp, h1⟩
    · rw [e1]
      intro k hk
      exact tl_mem (m := z.natAbs) (by show (tl z.natAbs).toArray[k] ∈ _; simp)
theorem tx_decv (z : Int) : decv (ds (tx z)) = z.natAbs := by
  by_cases h : z = 0
  · subst h; rfl
  · rw [(tx_ds z h).1]
    exact tl_dv _
theorem tx_ds_size {z : Int} {K : Nat} (h : z.natAbs < 10 ^ K) (hK : 1 ≤ K) : (ds (tx z)).size ≤ K := by
  by_cases h0 : z = 0
  · subst h0; exact hK
  · rw [(tx_ds z h0).1]
    show (tl z.natAbs).toArray.size ≤ K
    rw [List.size_toArray]
    exact tl_le h
theorem tx_size {z : Int} {K : Nat} (h : z.natAbs < 10 ^ K) (hK : 1 ≤ K) : (tx z).size ≤ K + 1 := by
  by_cases h0 : z = 0
  · subst h0; show 1 ≤ K + 1; omega
  · show (tx z).data.size ≤ K + 1
    rw [← Array.length_toList, tx_list z h0, List.length_append]
    have h1 := tl_le h
    split <;> simp <;> omega
/-- Parse inverts the text. -/
theorem parse_tx (z : Int) (w : World) (K : Nat) (h : z.natAbs < Top) (h2 : z.natAbs < 10 ^ K) (h1 : 1 ≤ K) (hK : K ≤ 19729) :
    Calls Try.prog 44 #[.string (tx z)] w (Ret (.tuple #[.agg #[.bool (zb z), .string (zs z)], .int .i64 0]) w) := by
  have h3 := Parse_ok (tx z) w (Nat.le_trans (tx_size h2 h1) (by omega)) (tx_decT z) (Nat.le_trans (tx_ds_size h2 h1) hK)
  unfold WPost at h3
  rw [tx_decv, wres_ok _ h, werr_ok h] at h3
  have e : wd (dneg (tx z)) z.natAbs = .agg #[.bool (zb z), .string (zs z)] := by
    by_cases h0 : z = 0
    · subst h0
      show wd (dneg (tx 0)) 0 = _
      rw [wd]
      simp [zb, zs]
    · rw [(tx_ds z h0).2, wd, zs, decide_eq_true (show z.natAbs ≠ 0 by omega), Bool.and_true]
  rw [e] at h3
  exact h3
end Go.Proofs.Ytlmklhffafcmmaa

/- slices.Reverse on bytes. -/
namespace Go.Proofs.Ytlmklhffafcmmaa
open Go.RowKit

/-- Byte cells that may be written. -/
def WrB (w : World) (g : Nat) (l : List Nat) : Prop := ∀ k (h : k < l.length), w.cell? ⟨g, k, none⟩ = some (.int .u8 (l[k] : Int)) ∧ w.frozen? ⟨g, k, none⟩ = false
theorem WrB.of_own {w : World} {B n : Nat} {g cap : Nat} {l : List Nat} (h : w.ownsRow B 5 1 (.slice (some ⟨g, 0, none⟩) n cap) n (bvl l)) : WrB w g l := by
  intro k hk
  have h1 := h.cells (g := g) rfl k (.int .u8 (l[k] : Int)) (bvl_get l k hk)
  have hadd : ((⟨g, 0, none⟩ : Addr).add k) = ⟨g, k, none⟩ := by unfold Addr.add; split <;> simp_all
  rw [hadd] at h1
  refine ⟨h1, ?_⟩
  rcases h.2 with ⟨h2, _⟩ | ⟨g2, cap2, cur, h2, hB, hg, _⟩
  · simp at h2
  · have : g2 = g := by injection h2 with h3; injection h3 with h4; injection h4 with h5; exact h5.symm
    subst this
    exact frozen_of_row w g2 k _ _ hg
theorem WrB.keep {w w' : World} {g : Nat} {l : List Nat} (h : WrB w g l) (he : w'.heap[g]? = w.heap[g]?) : WrB w' g l := fun k hk =>
  ⟨(World.cell?_of_block (a := ⟨g, k, none⟩) he).trans (h k hk).1, (World.frozen?_of_block (a := ⟨g, k, none⟩) he).trans (h k hk).2⟩
theorem WrB.set {w : World} {g : Nat} {l : List Nat} (h : WrB w g l) (k n : Nat) : WrB (w.setCell ⟨g, k, none⟩ (.int .u8 (n : Int))) g (l.set k n) := by
  intro j hj
  have hj2 : j < l.length := by simpa using hj
  obtain ⟨h1, h2⟩ := h j hj2
  have hc := h1
  by_cases hjk : j = k
  · subst hjk
    refine ⟨?_, by simpa [go_sem] using h2⟩
    simp only [List.getElem_set_self]
    simp [go_sem, h1]
  · refine ⟨?_, by simpa [go_sem] using h2⟩
    rw [List.getElem_set_ne (fun e => hjk e.symm)]
    have hkj : ¬ k = j := fun e => hjk e.symm
    simp [go_sem, h1, hjk, hkj]

/-- A list of which both ends have been turned. -/
def RvInv (l L : List Nat) (k : Nat) : Prop := L.length = l.length ∧ ∀ x (h : x < l.length) (hL : x < L.length), L[x] = if x < k ∨ l.length - 1 - x < k then l[l.length - 1 - x]'(by omega) else l[x]
theorem RvInv.start (l : List Nat) : RvInv l l 0 := ⟨rfl, fun x h hL => by simp⟩
theorem RvInv.finish {l L : List Nat} {k : Nat} (h : RvInv l L k) (hk : l.length ≤ 2 * k + 1) : L = l.reverse := by
  obtain ⟨h1, h2⟩ := h
  refine List.ext_getElem (by simp [h1]) fun x hx hy => ?_
  have hxl : x < l.length := by omega
  rw [h2 x hxl hx, List.getElem_reverse]
  split
  · rfl
  · have : l.length - 1 - x = x := by omega
    simp [this]
theorem RvInv.step {l L : List Nat} {k : Nat} (h : RvInv l L k) (hk : 2 * k + 1 < l.length) (hk1 : k < L.length) (hk2 : l.length - 1 - k < L.length) :
    RvInv l ((L.set k (L[l.length - 1 - k])).set (l.length - 1 - k) L[k]) (k + 1) := by
  obtain ⟨h1, h2⟩ := h
  refine ⟨by simp [h1], fun x hx hL => ?_⟩
  have ha := h2 k (by omega) hk1
  have hb := h2 (l.length - 1 - k) (by omega) hk2
  rw [if_neg (by omega)] at ha
  rw [if_neg (by omega)] at hb
  by_cases e1 : x = l.length - 1 - k
  · subst e1
    rw [List.getElem_set_self, ha, if_pos (by omega)]
    congr 1
    omega
  · rw [List.getElem_set_ne (fun e => e1 e.symm)]
    by_cases e2 : x = k
    · subst e2
      rw [List.getElem_set_self, hb, if_pos (by omega)]
    · rw [List.getElem_set_ne (fun e => e2 e.symm), h2 x hx (by omega)]
      by_cases hc : x < k ∨ l.length - 1 - x < k
      · rw [if_pos hc, if_pos (by omega)]
      · rw [if_neg hc, if_neg (by omega)]

set_option maxRecDepth 100000 in
set_option maxHeartbeats 1000000 in
theorem reverse_any (g cap n : Nat) (l : List Nat) (w : World) (hn : n = l.length) (h : WrB w g l) (hl2 : n ≤ 1000000) :
    Calls Try.prog 76 #[.slice (some ⟨g, 0, none⟩) n cap] w fun e w' => e = .returned (.tuple #[]) ∧ WrB w' g l.reverse ∧ Only g w w' := by
  have H0 := Lib.hid h
  have HN := Lib.hid hn
  clear h hn
  go_enter Try.func76, Try.ntmps76
  go_wp2
  go_loopw [2, 3] (fun iv jv wr => ∃ (wz : World) (k : Nat) (jz : Int) (L : List Nat), wz = wr ∧ iv = .int .i64 (k : Int) ∧ jv = .int .i64 jz ∧ jz = (n : Int) - 1 - k ∧ 2 * k ≤ n ∧ Hid (RvInv l L k) ∧ Hid (WrB wz g L) ∧ Hid (Only g w wz))
    (fun iv jv _ => (intOf jv + 1 - intOf iv).toNat)
  case atStart => exact ⟨w, 0, _, l, rfl, rfl, rfl, by omega, Nat.zero_le _, RvInv.start l, H0.out, Only.refl g w⟩
  case round =>
    clear H0
    obtain ⟨wz, k, jz, L, rfl, rfl, rfl, hjz, hk, hinv, hwr, ho⟩ := hrel
    by_cases hlt : 2 * k + 1 < n
    · obtain ⟨j, hj⟩ : ∃ j : Nat, j = n - 1 - k := ⟨_, rfl⟩
      have hLl : L.length = n := by rw [HN.out]; exact hinv.out.1
      have hkL : k < L.length := by omega
      have hjL : j < L.length := by omega
      obtain rfl : jz = (j : Int) := by omega
      obtain ⟨e1, e2⟩ := hwr.out k hkL
      obtain ⟨e3, e4⟩ := hwr.out j hjL
      have hst := hinv.out.step (by rw [← HN.out]; exact hlt) hkL (by rw [← HN.out]; omega)
      have hjn : l.length - 1 - k = j := by rw [← HN.out]; exact hj.symm
      have hL2 : Hid (RvInv l ((L.set k L[j]).set j L[k]) (k + 1)) := by
        show RvInv _ _ _
        have h5 := hst
        simp only [hjn] at h5
        exact h5
      have hW1 := (hwr.out.set k L[j]).set j L[k]
      have hW2 := (hwr.out.set j L[k]).set k L[j]
      rw [List.set_comm _ _ (show j ≠ k by omega)] at hW2
      have hO1 : Only g w ((wz.setCell ⟨g, k, none⟩ (.int .u8 (L[j] : Int))).setCell ⟨g, j, none⟩ (.int .u8 (L[k] : Int))) := (ho.out.setCell k _).setCell j _
      have hO2 : Only g w ((wz.setCell ⟨g, j, none⟩ (.int .u8 (L[k] : Int))).setCell ⟨g, k, none⟩ (.int .u8 (L[j] : Int))) := (ho.out.setCell j _).setCell k _
      have HW1 := Lib.hid hW1
      have HW2 := Lib.hid hW2
      have HO1 := Lib.hid (hO1.drewN 1)
      have HO2 := Lib.hid (hO2.drewN 1)
      have HJ := Lib.hid hj
      generalize (L.set k L[j]).set j L[k] = L' at *
      obtain ⟨x, hx⟩ : ∃ x : Int, (L[k] : Int) = x := ⟨_, rfl⟩
      obtain ⟨y, hy⟩ : ∃ y : Int, (L[j] : Int) = y := ⟨_, rfl⟩
      rw [hx] at e1 HW1 HW2 HO1 HO2
      rw [hy] at e3 HW1 HW2 HO1 HO2
      have hkj : ¬ k = j := by omega
      have hjk : ¬ j = k := by omega
      have hkn : k < n := by omega
      have hkj3 : k < j := by omega
      have hjn2 : j < n := by omega
      clear hst hjn hW1 hW2 hO1 hO2 hj hx hy hwr ho hinv hLl hkL hjL hjz
      go_wp2
      go_region
      all_goals
        go_wp2
        go_roundw
        case rel => first
          | exact ⟨_, k + 1, (j : Int) - 1, L', rfl, by go_num, rfl, by have h5 := HJ.out; omega, by omega, hL2, HW1.out, HO1.out⟩
          | exact ⟨_, k + 1, (j : Int) - 1, L', rfl, by go_num, rfl, by have h5 := HJ.out; omega, by omega, hL2, HW2.out, HO2.out⟩
        case measure => have h5 := HJ.out; simp [intOf]; omega
    · have HF : Hid (L = l.reverse) := hinv.out.finish (by rw [← HN.out]; omega)
      clear hinv
      go_wp2
      go_end0
      exact ⟨rfl, by rw [← HF.out]; exact hwr.out, ho.out⟩
end Go.Proofs.Ytlmklhffafcmmaa

/- The function wide.commonDivisor for any two magnitudes. -/
namespace Go.Proofs.Ytlmklhffafcmmaa
open Go.RowKit

set_option maxRecDepth 100000 in
set_option maxHeartbeats 2000000 in
theorem commonDivisor_big (v1 v2 : Value) (m n : Nat) (w : World) (sw : Bool) (h1 : Rd w v1 (Nm.dg W m)) (h2 : Rd w v2 (Nm.dg W n)) (l1 : (Nm.dg W m).length ≤ 900000000) (hm : n ≤ m) (hsw : sw = true → n < m) (hn : 1 < (Nm.dg W n).length) :
    Calls Try.prog 70 (if sw = true then #[v2, v1] else #[v1, v2]) w (Gives (Nat.gcd m n) w) := by
  have l2 := dgW_mono hm
  have HC1 := compareLimbs_any v1 v2 _ _ w h1 h2 (by omega) (by omega) (Nm.dig_dg W2 m) (Nm.dig_dg W2 n) (Nm.nrm_dg W2 m) (Nm.nrm_dg W2 n)
  have HC2 := compareLimbs_any v2 v1 _ _ w h2 h1 (by omega) (by omega) (Nm.dig_dg W2 n) (Nm.dig_dg W2 m) (Nm.nrm_dg W2 n) (Nm.nrm_dg W2 m)
  rw [Nm.val_dg W2, Nm.val_dg W2] at HC1 HC2
  have HRP := Lib.hid (fun k => reducePair_any v1 v2 m n (w.drewN k) (h1.drewN k) (h2.drewN k) hm l1)
  obtain ⟨p1, b1, o1, c1, rfl, hr1⟩ := h1
  obtain ⟨p2, b2, o2, c2, rfl, hr2⟩ := h2
  have l3 := dgW_mono hm
  clear hr1 hr2
  generalize Nat.gcd m n = G at *
  have Hcc0 : Hid (∃ cc : Int, ((sw = true ∧ cc < 0) ∨ (sw = false ∧ 0 ≤ cc)) ∧ Calls Try.prog 88 (if sw = true then #[.slice p2 (Nm.dg W n).length c2, .slice p1 (Nm.dg W m).length c1] else #[.slice p1 (Nm.dg W m).length c1, .slice p2 (Nm.dg W n).length c2]) w (CmpPost cc w)) := by
    cases sw with
    | false => exact ⟨_, Or.inr ⟨rfl, cmpN_ge hm⟩, HC1⟩
    | true => exact ⟨_, Or.inl ⟨rfl, by rw [cmpN_lt (hsw rfl)]; decide⟩, HC2⟩
  clear HC1 HC2 hm hsw
  generalize (Nm.dg W m).length = lm at *
  generalize (Nm.dg W n).length = ln at *
  obtain ⟨cc, hcc, hcall⟩ := Hcc0.out
  clear Hcc0 l2 l3
  have HC := Lib.hid hcall
  clear hcall
  have hn2 : (1 : Int) < (ln : Int) := by omega
  rcases hcc with ⟨rfl, hcc⟩ | ⟨rfl, hcc⟩
  · simp only [if_true] at HC ⊢
    go_enter Try.func70, Try.ntmps70
    go_wp2_with fail
    refine HC.out.mono ?_
    rintro e w' ⟨rfl, k, rfl⟩
    go_wp2_with fail
    refine (HRP.out k).mono ?_
    rintro e w6 ⟨va, vb, m', n', rfl, ha, hb, hg, hl, hle, hlm, hbl⟩
    have HA := Lib.hid ha
    have hbb := Lib.hid hbl
    have HBl : Hid (Below w.heap.size w w6) := (belowDrewN (Below.refl _ _) k).trans hbl
    obtain ⟨pa, ba, oa, ca, rfl, hra⟩ := ha
    rcases Nat.eq_zero_or_pos n' with h0 | h0
    · subst h0
      rw [Nat.gcd_zero_right] at hg
      subst hg
      rw [Nm.dg_zero] at hb
      obtain ⟨pb, bb, ob, cb, rfl, hrb⟩ := hb
      clear hrb hra hbl hle hl hlm
      go_wp2
      go_ret
      exact ⟨_, rfl, HA.out, HBl.out⟩
    · have hn' : n' < W := by
        have h3 := Nm.val_lt (Nm.dig_dg W2 n')
        rw [Nm.val_dg W2] at h3
        have h4 : W ^ (Nm.dg W n').length ≤ W ^ 1 := Nat.pow_le_pow_right W0 hl
        rw [Nat.pow_one] at h4
        omega
      have HRm := Lib.hid (fun W' (hb : Below w6.heap.size w6 W') => remainderWord_any _ _ n' W' (HA.out.below hb (Nat.le_refl _)) (by omega) (Nm.dig_dg W2 m') hn' h0)
      rw [Nm.val_dg W2] at HRm
      have hmod := Nat.mod_lt m' h0
      have HCw := Lib.hid (fun W' => commonWord_any n' (m' % n') W' hn' (Nat.lt_trans hmod hn'))
      have hgcd : Nat.gcd n' (m' % n') = G := by rw [Nat.gcd_comm n', ← Nat.gcd_rec, Nat.gcd_comm]; exact hg
      rw [hgcd] at HCw
      have hg0 : G ≠ 0 := fun h => by rw [← hg] at h; have := Nat.eq_zero_of_gcd_eq_zero_right h; omega
      have hgW : G < W := by rw [← hg]; exact Nat.lt_of_le_of_lt (Nat.gcd_le_right m' h0) hn'
      have HD := Lib.hid (dg_one hg0 hgW)
      rw [dg_one (by omega) hn'] at hb
      obtain ⟨p3, b3, o3, c3, rfl, _, _, hp3, _, hx3⟩ := hb
      obtain rfl := hp3 (by simp)
      have e3 := hx3 0 (by simp)
      simp only [List.getElem_cons_zero, Nat.add_zero, List.length_singleton] at e3
      simp only [List.length_singleton]
      generalize m' % n' = rm at *
      clear hp3 hx3 hgcd hg0 hgW hmod hra hbl hg hle hl hlm HC HRP
      generalize (Nm.dg W m').length = lm' at *
      go_wp2_with fail
      go_region_held3 (fun W' => W'.cell? ⟨b3, o3, none⟩ = some (.int .u64 (n' : Int))) (go_keep)
        (first
          | (go_at_call 98; (with_reducible refine (HRm.out _ ?_).mono ?_); (exact belowDrewN (Below.refl _ _) _); rintro e w1 ⟨rfl, n1, rfl⟩)
          | (go_at_call 97; (with_reducible refine (HCw.out _).mono ?_); rintro e w1 ⟨rfl, n1, rfl⟩))
      go_wp2
      go_ret
      exact ⟨_, rfl, by rw [HD.out]; exact Rd.one (w6.drewN _) G, (belowDrewN HBl.out _).alloc (by have := HBl.out.size; exact this) _⟩
  · simp only [Bool.false_eq_true, if_false] at HC ⊢
    go_enter Try.func70, Try.ntmps70
    go_wp2_with fail
    refine HC.out.mono ?_
    rintro e w' ⟨rfl, k, rfl⟩
    go_wp2_with fail
    refine (HRP.out k).mono ?_
    rintro e w6 ⟨va, vb, m', n', rfl, ha, hb, hg, hl, hle, hlm, hbl⟩
    have HA := Lib.hid ha
    have hbb := Lib.hid hbl
    have HBl : Hid (Below w.heap.size w w6) := (belowDrewN (Below.refl _ _) k).trans hbl
    obtain ⟨pa, ba, oa, ca, rfl, hra⟩ := ha
    rcases Nat.eq_zero_or_pos n' with h0 | h0
    · subst h0
      rw [Nat.gcd_zero_right] at hg
      subst hg
      rw [Nm.dg_zero] at hb
      obtain ⟨pb, bb, ob, cb, rfl, hrb⟩ := hb
      clear hrb hra hbl hle hl hlm
      go_wp2
      go_ret
      exact ⟨_, rfl, HA.out, HBl.out⟩
    · have hn' : n' < W := by
        have h3 := Nm.val_lt (Nm.dig_dg W2 n')
        rw [Nm.val_dg W2] at h3
        have h4 : W ^ (Nm.dg W n').length ≤ W ^ 1 := Nat.pow_le_pow_right W0 hl
        rw [Nat.pow_one] at h4
        omega
      have HRm := Lib.hid (fun W' (hb : Below w6.heap.size w6 W') => remainderWord_any _ _ n' W' (HA.out.below hb (Nat.le_refl _)) (by omega) (Nm.dig_dg W2 m') hn' h0)
      rw [Nm.val_dg W2] at HRm
      have hmod := Nat.mod_lt m' h0
      have HCw := Lib.hid (fun W' => commonWord_any n' (m' % n') W' hn' (Nat.lt_trans hmod hn'))
      have hgcd : Nat.gcd n' (m' % n') = G := by rw [Nat.gcd_comm n', ← Nat.gcd_rec, Nat.gcd_comm]; exact hg
      rw [hgcd] at HCw
      have hg0 : G ≠ 0 := fun h => by rw [← hg] at h; have := Nat.eq_zero_of_gcd_eq_zero_right h; omega
      have hgW : G < W := by rw [← hg]; exact Nat.lt_of_le_of_lt (Nat.gcd_le_right m' h0) hn'
      have HD := Lib.hid (dg_one hg0 hgW)
      rw [dg_one (by omega) hn'] at hb
      obtain ⟨p3, b3, o3, c3, rfl, _, _, hp3, _, hx3⟩ := hb
      obtain rfl := hp3 (by simp)
      have e3 := hx3 0 (by simp)
      simp only [List.getElem_cons_zero, Nat.add_zero, List.length_singleton] at e3
      simp only [List.length_singleton]
      generalize m' % n' = rm at *
      clear hp3 hx3 hgcd hg0 hgW hmod hra hbl hg hle hl hlm HC HRP
      generalize (Nm.dg W m').length = lm' at *
      go_wp2_with fail
      go_region_held3 (fun W' => W'.cell? ⟨b3, o3, none⟩ = some (.int .u64 (n' : Int))) (go_keep)
        (first
          | (go_at_call 98; (with_reducible refine (HRm.out _ ?_).mono ?_); (exact belowDrewN (Below.refl _ _) _); rintro e w1 ⟨rfl, n1, rfl⟩)
          | (go_at_call 97; (with_reducible refine (HCw.out _).mono ?_); rintro e w1 ⟨rfl, n1, rfl⟩))
      go_wp2
      go_ret
      exact ⟨_, rfl, by rw [HD.out]; exact Rd.one (w6.drewN _) G, (belowDrewN HBl.out _).alloc (by have := HBl.out.size; exact this) _⟩

/-- The common divisor of any two magnitudes. -/
theorem gcdOK_any (m n : Nat) (l1 : (Nm.dg W m).length ≤ 900000000) (l2 : (Nm.dg W n).length ≤ 900000000) : GcdOK m n := by
  by_cases h : m < W ∨ n < W
  · exact gcdOK_small m n h (by omega) (by omega)
  · intro v1 v2 w h1 h2
    have big : ∀ k, ¬ k < W → 1 < (Nm.dg W k).length := fun k hk => by
      rcases Nat.lt_or_ge 1 (Nm.dg W k).length with g | g
      · exact g
      · have h3 := Nm.val_lt (Nm.dig_dg W2 k)
        rw [Nm.val_dg W2] at h3
        have h4 : W ^ (Nm.dg W k).length ≤ W ^ 1 := Nat.pow_le_pow_right W0 g
        rw [Nat.pow_one] at h4
        omega
    rcases Nat.lt_or_ge m n with g | g
    · rw [Nat.gcd_comm]
      exact commonDivisor_big v2 v1 n m w true h2 h1 l2 (Nat.le_of_lt g) (fun _ => g) (big m (by omega))
    · exact commonDivisor_big v1 v2 m n w false h1 h2 l1 g (fun h => by cases h) (big n (by omega))
end Go.Proofs.Ytlmklhffafcmmaa

/- Products, quotients and common divisors of short wide integers, as integers. -/
namespace Go.Proofs.Ytlmklhffafcmmaa
open Go.RowKit

set_option maxRecDepth 100000 in
set_option maxHeartbeats 1000000 in
theorem Quo_invalid (a b : Bool) (s t : ByteArray) (w : World) (z1 : s.size ≤ 140737488351232) (z2 : t.size ≤ 140737488351232) (hv : (vld a s && vld b t) = false) :
    Calls Try.prog 35 #[.agg #[.bool a, .string s], .agg #[.bool b, .string t]] w (Q3Post (wd false 0) (wd false 0) 2 w) := by
  have HA := Lib.hid (fun w => Valid_any a s w z1)
  have HB := Lib.hid (fun w => Valid_any b t w z2)
  obtain ⟨w0, hw0⟩ : ∃ w0 : World, w0 = (((w.alloc (.cells #[.bool a, .string s] 23)).alloc (.cells #[.bool b, .string t] 23)).alloc (.cells #[.bool false, .string ⟨#[]⟩] 23)).alloc (.cells #[.bool false, .string ⟨#[]⟩] 23) := ⟨_, rfl⟩
  have hb0 : Hid (Below w.heap.size w w0) := by rw [hw0]; exact ((((Below.refl _ _).alloc (Nat.le_refl _) _).alloc (by simp) _).alloc (by simp; omega) _).alloc (by simp; omega) _
  have i2 : ZC (.bool b) (.string t) w0 (w.heap.size + 1) := by rw [hw0]; refine ⟨?_, ?_, ?_, ?_⟩ <;> simp [go_sem]
  have i3 : ZC (.bool false) (.string ⟨#[]⟩) w0 (w.heap.size + 1 + 1) := by rw [hw0]; refine ⟨?_, ?_, ?_, ?_⟩ <;> simp [go_sem]
  have i4 : ZC (.bool false) (.string ⟨#[]⟩) w0 (w.heap.size + 1 + 1 + 1) := by rw [hw0]; refine ⟨?_, ?_, ?_, ?_⟩ <;> simp [go_sem]
  have I2 := Lib.hid i2
  have I3 := Lib.hid i3
  have I4 := Lib.hid i4
  have Hw0 := Lib.hid hw0
  clear i2 i3 i4 hw0
  cases h1 : vld a s with
  | false =>
    rw [h1] at HA
    clear h1 hv
    go_enter Try.func35, Try.ntmps35
    go_wp2_with fail
    rw [← Hw0.out]
    refine (HA.out _).mono ?_
    rintro e wa ⟨rfl, c⟩
    obtain ⟨m0, m1, m2, m3⟩ := I3.out.next c
    obtain ⟨n0, n1, n2, n3⟩ := I4.out.next c
    have HZ := Lib.hid (below_set2 (below_set2 (chain hb0.out c) (g := w.heap.size + 1 + 1) (by omega) (.bool false) (.string ⟨#[]⟩)) (g := w.heap.size + 1 + 1 + 1) (by omega) (.bool false) (.string ⟨#[]⟩))
    clear c
    go_wp2
    exact bodyPost_ret (v := .tuple #[.agg #[.bool false, .string ⟨#[]⟩], .agg #[.bool false, .string ⟨#[]⟩], .int .i64 2]) (by simp [results, Try.results35, go_sem, m0, m1, n0, n1]) rfl ⟨by rw [wd, bs_zero]; simp, HZ.out⟩
  | true =>
    have h2 : vld b t = false := by rw [h1] at hv; simpa using hv
    rw [h1] at HA
    rw [h2] at HB
    clear h1 hv h2
    go_enter Try.func35, Try.ntmps35
    go_wp2_with fail
    rw [← Hw0.out]
    refine (HA.out _).mono ?_
    rintro e wa ⟨rfl, ba⟩
    obtain ⟨q0, q1, _, _⟩ := I2.out.next ba
    have BA := Lib.hid ba
    clear ba
    go_wp2_with fail
    refine (HB.out _).mono ?_
    rintro e wb ⟨rfl, bb⟩
    have c := chain BA.out bb
    obtain ⟨m0, m1, m2, m3⟩ := I3.out.next c
    obtain ⟨n0, n1, n2, n3⟩ := I4.out.next c
    have HZ := Lib.hid (below_set2 (below_set2 (chain hb0.out c) (g := w.heap.size + 1 + 1) (by omega) (.bool false) (.string ⟨#[]⟩)) (g := w.heap.size + 1 + 1 + 1) (by omega) (.bool false) (.string ⟨#[]⟩))
    clear bb c q0 q1
    go_wp2
    exact bodyPost_ret (v := .tuple #[.agg #[.bool false, .string ⟨#[]⟩], .agg #[.bool false, .string ⟨#[]⟩], .int .i64 2]) (by simp [results, Try.results35, go_sem, m0, m1, n0, n1]) rfl ⟨by rw [wd, bs_zero]; simp, HZ.out⟩

theorem sg_mul2 (a b : Bool) (m n : Nat) : sg (a != b) (m * n) = sg a m * sg b n := by
  cases a <;> cases b <;> simp [sg, Int.neg_mul, Int.mul_neg]
theorem sg_zero_iff {b : Bool} {n : Nat} : sg b n = 0 ↔ n = 0 := by unfold sg; split <;> omega
theorem er1_sg {a b : Bool} {m n : Nat} (h0 : 0 < n) : sg false (er1 a m n) = sg a m % sg b n := by
  have hr := Nat.mod_lt m h0
  have hdm := Nat.div_add_mod m n
  have hn : sg a m % sg b n = sg a m % (n : Int) := by
    cases b with
    | false => rfl
    | true => show sg a m % (-(n : Int)) = _; rw [Int.emod_neg]
  rw [hn]
  unfold er1
  cases a with
  | false =>
    rw [if_neg (by simp)]
    simp [sg]
  | true =>
    by_cases hz : m % n = 0
    · rw [if_neg (by simp [hz])]
      show ((m % n : Nat) : Int) = (-(m : Int)) % (n : Int)
      rw [hz]
      have : (n : Int) ∣ -(m : Int) := Int.dvd_neg.2 (Int.natCast_dvd_natCast.2 (Nat.dvd_of_mod_eq_zero hz))
      rw [Int.emod_eq_zero_of_dvd this]; rfl
    · rw [if_pos ⟨rfl, hz⟩]
      show ((n - m % n : Nat) : Int) = (-(m : Int)) % (n : Int)
      have e : -(m : Int) = ((n - m % n : Nat) : Int) + (n : Int) * (-((m / n + 1 : Nat) : Int)) := by
        have h1 : (n : Int) * (-((m / n + 1 : Nat) : Int)) = -((n * (m / n) : Nat) : Int) - n := by push_cast; grind
        rw [h1]; omega
      rw [e, Int.add_mul_emod_self_left, Int.emod_eq_of_lt (by omega) (by omega)]
theorem eq1_sg {a b : Bool} {m n : Nat} (h0 : 0 < n) : sg (a != b) (eq1 a m n) = sg a m / sg b n := by
  have hr := Nat.mod_lt m h0
  have hdm := Nat.div_add_mod m n
  have key : sg a m / (n : Int) = sg a (eq1 a m n) := by
    unfold eq1
    cases a with
    | false =>
      rw [if_neg (by simp)]
      simp [sg]
    | true =>
      by_cases hz : m % n = 0
      · rw [if_neg (by simp [hz])]
        show (-(m : Int)) / (n : Int) = -((m / n : Nat) : Int)
        have e : -(m : Int) = (n : Int) * (-((m / n : Nat) : Int)) := by
          rw [Int.mul_neg, ← Int.natCast_mul]; omega
        rw [e, Int.mul_ediv_cancel_left _ (by omega)]
      · rw [if_pos ⟨rfl, hz⟩]
        show (-(m : Int)) / (n : Int) = -((m / n + 1 : Nat) : Int)
        have e : -(m : Int) = ((n - m % n : Nat) : Int) + (n : Int) * (-((m / n + 1 : Nat) : Int)) := by
          have h1 : (n : Int) * (-((m / n + 1 : Nat) : Int)) = -((n * (m / n) : Nat) : Int) - n := by push_cast; grind
          rw [h1]; omega
        rw [e, Int.add_mul_ediv_left _ _ (by omega), Int.ediv_eq_zero_of_lt (by omega) (by omega), Int.zero_add]
  cases b with
  | false =>
    show sg (a != false) _ = sg a m / (n : Int)
    rw [key]; cases a <;> rfl
  | true =>
    show sg (a != true) _ = sg a m / (-(n : Int))
    rw [Int.ediv_neg, key]
    cases a <;> simp [sg]

/-- Sizes. -/
theorem fits_k {n k : Nat} (hk : k ≤ 8192) (h : n < 256 ^ k) : n < Top ∧ (Nm.dg D9 n).length ≤ 100000 := ⟨lt_topk (by omega) h, Nat.le_trans (dg9_256 h) (by omega)⟩
theorem prod120 {m n j k : Nat} (hk : k = j + j) (h1 : m < 256 ^ j) (h2 : n < 256 ^ j) : m * n < 256 ^ k := by
  rw [hk, Nat.pow_add]
  exact Nat.mul_lt_mul'' h1 h2
theorem mul_z {a b : Bool} {s t : ByteArray} (h1 : vld a s = true) (h2 : vld b t = true) (z1 : s.size ≤ 60) (z2 : t.size ≤ 60) (w : World) :
    Calls Try.prog 34 #[.agg #[.bool a, .string s], .agg #[.bool b, .string t]] w fun e w' => e = .returned (.tuple #[.agg #[.bool (zb (sg a (bv s) * sg b (bv t))), .string (zs (sg a (bv s) * sg b (bv t)))], .int .i64 0]) ∧ Below w.heap.size w w' := by
  have h := Mul_valid a b s t w h1 h2
  obtain ⟨k6, hk6⟩ : ∃ k6 : Nat, k6 = 60 := ⟨_, rfl⟩
  have ht : bv s * bv t < Top := (fits_k (k := k6 + k6) (by omega) (prod120 rfl (bv60 hk6 z1) (bv60 hk6 z2))).1
  unfold WPost at h
  rwa [wres_ok _ ht, werr_ok ht, wd_sg, sg_mul2] at h
theorem quo_z {a b : Bool} {s t : ByteArray} (h1 : vld a s = true) (h2 : vld b t = true) (h0 : sg b (bv t) ≠ 0) (w : World) :
    Calls Try.prog 35 #[.agg #[.bool a, .string s], .agg #[.bool b, .string t]] w fun e w' => e = .returned (.tuple #[.agg #[.bool (zb (sg a (bv s) / sg b (bv t))), .string (zs (sg a (bv s) / sg b (bv t)))], .agg #[.bool (zb (sg a (bv s) % sg b (bv t))), .string (zs (sg a (bv s) % sg b (bv t)))], .int .i64 0]) ∧ Below w.heap.size w w' := by
  have hn : 0 < bv t := by
    rcases Nat.eq_zero_or_pos (bv t) with g | g
    · exact absurd (sg_zero_iff.2 g) h0
    · exact g
  have h := Quo_valid a b s t w (divOK_any _ _ hn (Nat.le_trans (len_top (bv_lt h1)) (by decide)) (Nat.le_trans (len_top (bv_lt h2)) (by decide))) h1 h2 hn
  unfold Q3Post at h
  rwa [wd_sg, wd_sg, eq1_sg hn, er1_sg (b := b) hn] at h
theorem quo0_z {a b : Bool} {s t : ByteArray} (h1 : vld a s = true) (h2 : vld b t = true) (h0 : sg b (bv t) = 0) (w : World) :
    Calls Try.prog 35 #[.agg #[.bool a, .string s], .agg #[.bool b, .string t]] w fun e w' => e = .returned (.tuple #[.agg #[.bool false, .string ⟨#[]⟩], .agg #[.bool false, .string ⟨#[]⟩], .int .i64 3]) ∧ Below w.heap.size w w' := by
  have ht : t = ⟨#[]⟩ := by
    have hz := (bv_zero_iff (vld_can h2)).1 (sg_zero_iff.1 h0)
    apply ByteArray.ext
    apply Array.eq_empty_of_size_eq_zero hz
  subst ht
  have h := Quo_zero a b s w h1 h2
  unfold Q3Post at h
  rwa [wd_none] at h
theorem gcd_z {a b : Bool} {s t : ByteArray} (h1 : vld a s = true) (h2 : vld b t = true) (w : World) :
    Calls Try.prog 36 #[.agg #[.bool a, .string s], .agg #[.bool b, .string t]] w fun e w' => e = .returned (.tuple #[.agg #[.bool (zb (Nat.gcd (sg a (bv s)).natAbs (sg b (bv t)).natAbs : Nat)), .string (zs (Nat.gcd (sg a (bv s)).natAbs (sg b (bv t)).natAbs : Nat))], .int .i64 0]) ∧ Below w.heap.size w w' := by
  have h := GCD_valid a b s t w (gcdOK_any _ _ (Nat.le_trans (len_top (bv_lt h1)) (by decide)) (Nat.le_trans (len_top (bv_lt h2)) (by decide))) h1 h2
  have ht := gcd_top (bv_lt h1) (bv_lt h2)
  unfold WPost at h
  rw [wres_ok _ ht, werr_ok ht, wd_sg] at h
  rw [sg_abs, sg_abs]
  exact h
end Go.Proofs.Ytlmklhffafcmmaa

/- wide's functions in terms of integers: what goes in and what comes out are the wide integers of integers. -/
namespace Go.Proofs.Ytlmklhffafcmmaa
open Go.RowKit

theorem zvt {z : Int} (h : z.natAbs < Top) : vld (zb z) (zs z) = true := zb_zs_valid h
theorem sgzz (z : Int) : sg (zb z) (bv (zs z)) = z := by rw [bv_zs]; exact sg_z z
theorem zz_add (x y : Int) (w : World) (hx : x.natAbs < Top) (hy : y.natAbs < Top) (h : (x + y).natAbs < Top) :
    Calls Try.prog 27 #[Z x, Z y] w (Ret (.tuple #[Z (x + y), .int .i64 0]) w) := by
  have h1 := Add_valid (zb x) (zb y) (zs x) (zs y) w (zvt hx) (zvt hy)
  have e : (pls (zb x) (bv (zs x)) (zb y) (bv (zs y))).2 = (x + y).natAbs := by
    rw [← sg_abs (pls (zb x) (bv (zs x)) (zb y) (bv (zs y))).1 (pls (zb x) (bv (zs x)) (zb y) (bv (zs y))).2, pls_sg, sgzz, sgzz]
  have ht : (pls (zb x) (bv (zs x)) (zb y) (bv (zs y))).2 < Top := by rw [e]; exact h
  unfold WPost at h1
  rw [wres_ok _ ht, werr_ok ht, wd_sg, pls_sg, sgzz, sgzz] at h1
  exact h1
theorem zz_sub (x y : Int) (w : World) (hx : x.natAbs < Top) (hy : y.natAbs < Top) (h : (x - y).natAbs < Top) :
    Calls Try.prog 28 #[Z x, Z y] w (Ret (.tuple #[Z (x - y), .int .i64 0]) w) := by
  have h1 := Sub_valid (zb x) (zb y) (zs x) (zs y) w (zvt hx) (zvt hy)
  have e : (pls (zb x) (bv (zs x)) (!(zb y)) (bv (zs y))).2 = (x - y).natAbs := by
    rw [← sg_abs (pls (zb x) (bv (zs x)) (!(zb y)) (bv (zs y))).1 (pls (zb x) (bv (zs x)) (!(zb y)) (bv (zs y))).2, pls_sg, sg_not, sgzz, sgzz, Int.sub_eq_add_neg]
  have ht : (pls (zb x) (bv (zs x)) (!(zb y)) (bv (zs y))).2 < Top := by rw [e]; exact h
  unfold WPost at h1
  rw [wres_ok _ ht, werr_ok ht, wd_sg, pls_sg, sg_not, sgzz, sgzz, ← Int.sub_eq_add_neg] at h1
  exact h1
theorem zz_mul (x y : Int) (w : World) (hx : x.natAbs < Top) (hy : y.natAbs < Top) (h : (x * y).natAbs < Top) :
    Calls Try.prog 34 #[Z x, Z y] w (Ret (.tuple #[Z (x * y), .int .i64 0]) w) := by
  have h1 := Mul_valid (zb x) (zb y) (zs x) (zs y) w (zvt hx) (zvt hy)
  have ht : bv (zs x) * bv (zs y) < Top := by rw [bv_zs, bv_zs, ← Int.natAbs_mul]; exact h
  unfold WPost at h1
  rw [wres_ok _ ht, werr_ok ht, wd_sg, sg_mul2, sgzz, sgzz] at h1
  exact h1
theorem zz_quo (x y : Int) (w : World) (hx : x.natAbs < Top) (hy : y.natAbs < Top) (h0 : y ≠ 0) :
    Calls Try.prog 35 #[Z x, Z y] w (Ret (.tuple #[Z (x / y), Z (x % y), .int .i64 0]) w) := by
  have h := quo_z (zvt hx) (zvt hy) (by rw [sgzz]; exact h0) w
  rw [sgzz, sgzz] at h
  exact h
theorem zz_sign (x : Int) (w : World) (hx : x.natAbs < Top) : Calls Try.prog 16 #[Z x] w (Ret (.int .i64 x.sign) w) := by
  have h := Sign_any (zb x) (zs x) w (Nat.le_trans (vld_size (zvt hx)) (by decide))
  rw [sgV_sg (zvt hx), sgzz] at h
  exact h
theorem zz_cmp (x y : Int) (w : World) (hx : x.natAbs < Top) (hy : y.natAbs < Top) : Calls Try.prog 15 #[Z x, Z y] w (Ret (.int .i64 (x - y).sign) w) := by
  have h := Compare_valid (zb x) (zb y) (zs x) (zs y) w (zvt hx) (zvt hy)
  rw [cmpV_sg (zvt hx) (zvt hy), sgzz, sgzz] at h
  exact h
end Go.Proofs.Ytlmklhffafcmmaa

/- wide.Text. -/
namespace Go.Proofs.Ytlmklhffafcmmaa
open Go.RowKit

/-- Bytes that lie in a block, as a string. -/
theorem conv_wr {w : World} {g cap n : Nat} {l : List Nat} (hn : n = l.length) (h : WrB w g l) (hb : ∀ x ∈ l, x < 256) :
    (convert 62 9 (.slice (some ⟨g, 0, none⟩) n cap)).run Try.prog w = .ok (.string ⟨(l.map UInt8.ofNat).toArray⟩) w := by
  subst hn
  have hlen : (l.map UInt8.ofNat).length = l.length := by simp
  have := run_convert_bytes_back (P := Try.prog) w 62 9 5 ⟨g, 0, none⟩ cap (l.map UInt8.ofNat) Try.underlying62 Try.underlying5 Try.underlying9 (fun j hj => by
    have hjn : j < l.length := by rw [hlen] at hj; exact hj
    have hadd : ((⟨g, 0, none⟩ : Addr).add j) = ⟨g, j, none⟩ := by unfold Addr.add; split <;> simp_all
    rw [hadd, (h j hjn).1]
    have e2 : l[j] < 256 := hb _ (List.getElem_mem _)
    rw [List.getElem_map]
    congr 2
    simp [UInt8.toNat_ofNat', Nat.mod_eq_of_lt e2])
  rw [hlen] at this
  exact this
theorem asc_lt {m x : Nat} (h : x ∈ asc (Nm.dg 10 m)) : x < 256 := by
  simp only [asc, List.mem_map] at h
  obtain ⟨d, hd, rfl⟩ := h
  have h1 : d < 10 := Nm.dig_dg (by decide) m d hd
  omega
theorem text_pos {z : Int} (h : 0 < z) : (⟨((asc (Nm.dg 10 z.natAbs)).reverse.map UInt8.ofNat).toArray⟩ : ByteArray) = tx z := by
  unfold tx tl
  rw [if_neg (by omega), if_neg (by omega), List.nil_append]
theorem text_neg {z : Int} (h : z < 0) : (⟨(((asc (Nm.dg 10 z.natAbs)) ++ [45]).reverse.map UInt8.ofNat).toArray⟩ : ByteArray) = tx z := by
  unfold tx tl
  rw [if_neg (by omega), if_pos h, List.reverse_append, List.map_append]
  rfl

def TPost (s : ByteArray) (c : Int) (w : World) (e : Ending) (w' : World) : Prop := e = .returned (.tuple #[.string s, .int .i64 c]) ∧ Below w.heap.size w w'

set_option maxRecDepth 100000 in
set_option maxHeartbeats 1000000 in
theorem Text_bad (a : Bool) (s : ByteArray) (w : World) (z1 : s.size ≤ 140737488351232) (hv : vld a s = false) :
    Calls Try.prog 42 #[.agg #[.bool a, .string s]] w (TPost ⟨#[]⟩ 2 w) := by
  have HV1 := Valid_any a s
  rw [hv] at HV1
  have HA := Lib.hid (fun w => HV1 w z1)
  clear HV1 hv
  obtain ⟨w0, hw0⟩ : ∃ w0 : World, w0 = w.alloc (.cells #[.bool a, .string s] 23) := ⟨_, rfl⟩
  have hb0 : Hid (Below w.heap.size w w0) := by rw [hw0]; exact below_one _ _
  have Hw0 := Lib.hid hw0
  clear hw0
  go_enter Try.func42, Try.ntmps42
  go_wp2_with fail
  rw [← Hw0.out]
  refine (HA.out _).mono ?_
  rintro e wa ⟨rfl, ba⟩
  have HZ := Lib.hid (chain hb0.out ba)
  clear ba
  go_wp2
  exact bodyPost_ret (v := .tuple #[.string ⟨#[]⟩, .int .i64 2]) (by simp [results, Try.results42, go_sem]) rfl ⟨rfl, HZ.out⟩

set_option maxRecDepth 100000 in
set_option maxHeartbeats 1000000 in
theorem Text_zero (w : World) : Calls Try.prog 42 #[.agg #[.bool false, .string ⟨#[]⟩]] w (TPost ⟨#[48]⟩ 0 w) := by
  have HV1 := Valid_any false ⟨#[]⟩
  rw [show vld false ⟨#[]⟩ = true from rfl] at HV1
  have HA := Lib.hid (fun w => HV1 w (by decide))
  clear HV1
  obtain ⟨w0, hw0⟩ : ∃ w0 : World, w0 = w.alloc (.cells #[.bool false, .string ⟨#[]⟩] 23) := ⟨_, rfl⟩
  have hb0 : Hid (Below w.heap.size w w0) := by rw [hw0]; exact below_one _ _
  have I1 : Hid (ZC (.bool false) (.string ⟨#[]⟩) w0 w.heap.size) := by rw [hw0]; exact ZC.new rfl
  have Hw0 := Lib.hid hw0
  clear hw0
  go_enter Try.func42, Try.ntmps42
  go_wp2_with fail
  rw [← Hw0.out]
  refine (HA.out _).mono ?_
  rintro e wa ⟨rfl, ba⟩
  obtain ⟨k0, k1, _⟩ := I1.out.next ba
  have HZ := Lib.hid (chain hb0.out ba)
  clear ba
  go_wp2
  exact bodyPost_ret (v := .tuple #[.string ⟨#[48]⟩, .int .i64 0]) (by simp [results, Try.results42, go_sem]) rfl ⟨rfl, HZ.out⟩

set_option maxRecDepth 100000 in
set_option maxHeartbeats 4000000 in
theorem Text_some (a : Bool) (s : ByteArray) (n K : Nat) (l : List Nat) (tb : ByteArray) (w : World) (hv : vld a s = true) (h0 : 0 < s.size) (hm : bv s < 10 ^ K) (hK : K ≤ 100000)
    (hl : l = (if a = true then asc (Nm.dg 10 (bv s)) ++ [45] else asc (Nm.dg 10 (bv s)))) (ht : (⟨(l.reverse.map UInt8.ofNat).toArray⟩ : ByteArray) = tb) :
    Calls Try.prog 42 #[.agg #[.bool a, .string s]] w (TPost tb 0 w) := by
  have z1 := vld_size hv
  have HV1 := Valid_any a s
  rw [hv] at HV1
  have HA := Lib.hid (fun w => HV1 w (by omega))
  have HR := Lib.hid (fun w => read_own a s w (by omega) (vld_can hv))
  have HLD := Lib.hid (fun g cap B w h1 h2 h3 h4 h5 => lowestDigits_any (bv s) g cap B K w h1 h2 h3 h4 h5 hm (by omega))
  have HN0 : Hid (0 < (Nm.dg 10 (bv s)).length) := by
    show 0 < _
    rcases Nat.eq_zero_or_pos (Nm.dg 10 (bv s)).length with h | h
    · have h1 := (bv_zero_iff (vld_can hv)).1 (dg_nil_iff (by decide) h); omega
    · exact h
  have HNK : Hid ((Nm.dg 10 (bv s)).length ≤ K) := Nm.len_le_of_val (B := 10) (by decide) (Nm.nrm_dg (by decide) _) (by rwa [Nm.val_dg (by decide)])
  have hLB : ∀ x ∈ asc (Nm.dg 10 (bv s)), x < 256 := fun x hx => asc_lt hx
  have hAL : (asc (Nm.dg 10 (bv s))).length = (Nm.dg 10 (bv s)).length := asc_length _
  have HLB := Lib.hid hLB
  have HAL := Lib.hid hAL
  have HL := Lib.hid hl
  have HT := Lib.hid ht
  have e1 := nonempty_str s h0
  have e2 : (s.toList == []) = false := by cases hd : s.toList with
    | nil => rw [hd] at e1; simp at e1
    | cons x y => rfl
  unfold LowPost at HLD
  unfold OwnNum at HR
  clear HV1 hv hm hl ht hLB hAL
  generalize Nm.dg W (bv s) = X at *
  generalize asc (Nm.dg 10 (bv s)) = L at *
  generalize (Nm.dg 10 (bv s)).length = nd at *
  generalize bv s = m at *
  obtain ⟨w0, hw0⟩ : ∃ w0 : World, w0 = w.alloc (.cells #[.bool a, .string s] 23) := ⟨_, rfl⟩
  have hb0 : Hid (Below w.heap.size w w0) := by rw [hw0]; exact below_one _ _
  have I1 : Hid (ZC (.bool a) (.string s) w0 w.heap.size) := by rw [hw0]; exact ZC.new rfl
  have hi3 : (Try.prog.info? 5).map (fun i => (i.zero, i.size, i.bytes)) = some (some (.int .u8 0), 1, 1) := by kernel_rfl
  obtain ⟨i0, hi0, hz0, hz1, hz2⟩ := info_parts hi3
  have HI := Lib.hid (And.intro hi0 (And.intro hz0 (And.intro hz1 hz2)))
  have Hw0 := Lib.hid hw0
  clear hw0 hi3 hi0 hz0 hz1 hz2
  have hfl := field_limbs
  go_enter Try.func42, Try.ntmps42
  go_wp2_with fail
  rw [← Hw0.out]
  refine (HA.out _).mono ?_
  rintro e wa ⟨rfl, ba⟩
  obtain ⟨k0, k1, _⟩ := I1.out.next ba
  have D := Lib.hid ba
  clear ba
  go_wp2_with fail
  refine (HR.out _).mono ?_
  rintro e w1 ⟨g, cap, rfl, hw1, hg1, hg2, hc1, hc2, b1⟩
  have HX := Lib.hid (And.intro hw1 (And.intro hg1 (And.intro hg2 (And.intro hc1 hc2))))
  have B1 := Lib.hid b1
  clear hw1 hg1 hg2 hc1 hc2 b1 k0 k1
  go_wp2_with fail
  refine (HLD.out _ _ _ _ HX.out.1 HX.out.2.2.1 HX.out.2.1 HX.out.2.2.2.1 HX.out.2.2.2.2).mono ?_
  rintro e w2 ⟨v, rfl, ho2, b2⟩
  have B2 := Lib.hid (B1.out.trans b2)
  have D2 := Lib.hid (chain D.out B2.out)
  have hsz : Hid (w1.heap.size ≤ w2.heap.size) := b2.size
  obtain ⟨k0, k1, _⟩ := I1.out.next D2.out
  have HO := Lib.hid ho2
  clear b2 ho2 HLD HR HA
  cases a with
  | false =>
    simp only [Bool.false_eq_true, if_false] at HL
    have HW : Hid (∃ g9 cap9, v = .slice (some ⟨g9, 0, none⟩) nd cap9 ∧ w1.heap.size ≤ g9 ∧ WrB w2 g9 L) := by
      have h5 := HO.out
      rcases h5.2 with ⟨_, h6⟩ | ⟨g9, cap9, cur, rfl, hB, _⟩
      · have := HN0.out; omega
      · exact ⟨g9, cap9, rfl, hB, WrB.of_own h5⟩
    obtain ⟨g9, cap9, rfl, hB9, hw9⟩ := HW.out
    have HRV := Lib.hid (reverse_any g9 cap9 nd L w2 HAL.out.symm hw9 (by have h5 := HNK.out; omega))
    have HB9 := Lib.hid hB9
    clear HW hw9 hB9 HO
    go_wp2_with fail
    refine HRV.out.mono ?_
    rintro e w3 ⟨rfl, hw3, ho3⟩
    have hcv := conv_wr (cap := cap9) (n := nd) (by rw [List.length_reverse]; exact HAL.out.symm) hw3 (fun x hx => HLB.out x (List.mem_reverse.1 hx))
    have e9 : (⟨(L.reverse.map UInt8.ofNat).toArray⟩ : ByteArray) = tb := by rw [← HT.out, HL.out]
    rw [e9] at hcv
    have HZ := Lib.hid (chain hb0.out (chain D.out (ho3.below B2.out (Nat.le_trans B1.out.size HB9.out))))
    clear hw3 ho3 e9
    go_wp2
    exact bodyPost_ret (v := .tuple #[.string tb, .int .i64 0]) (by simp [results, Try.results42, go_sem]) rfl ⟨rfl, HZ.out⟩
  | true =>
    simp only [if_true] at HL
    have HLEN := HNK.out
    go_wp2_with (at_builtin; refine wpList_append_own _ rfl _ _ 62 rfl w1.heap.size 5 i0 (.int .u8 0) 1 1 Try.underlying62 HI.out.1 HI.out.2.1 HI.out.2.2.1 HI.out.2.2.2 rfl (by decide) _ _ _ rfl (HO.out.alloc _) ⟨w2.heap.size, 0, none⟩ 1 1 [.int .u8 45] rfl rfl ?ga1 ?ga2 ?ga3 ?ga4 ?ga5 ?_)
    case ga1 => exact one_cell (by simp [go_sem])
    case ga2 => first | rfl | (intro u hu; simp at hu; subst hu; rfl)
    case ga3 => unfold maxLen; omega
    case ga4 => omega
    case ga5 => have h5 := hsz.out; simp; omega
    intro v' w3 hown1 hgrow1 _
    have hbl1 : Hid (Below w1.heap.size w2 w3) := ((Below.refl w1.heap.size w2).alloc hsz.out _).grown hgrow1 (by have h5 := hsz.out; simp; omega) (fun q hq => (HO.out.lt q hq).1)
    have ho3 : w3.ownsRow w1.heap.size 5 1 v' (nd + 1) (bvl (L ++ [45])) := by rw [bvl_snoc]; exact hown1
    have HW : Hid (∃ g9 cap9, v' = .slice (some ⟨g9, 0, none⟩) (nd + 1) cap9 ∧ w1.heap.size ≤ g9 ∧ WrB w3 g9 (L ++ [45])) := by
      rcases ho3.2 with ⟨_, h6⟩ | ⟨g9, cap9, cur, rfl, hB, _⟩
      · omega
      · exact ⟨g9, cap9, rfl, hB, WrB.of_own ho3⟩
    obtain ⟨g9, cap9, rfl, hB9, hw9⟩ := HW.out
    have HRV := Lib.hid (reverse_any g9 cap9 (nd + 1) (L ++ [45]) w3 (by rw [List.length_append, HAL.out]; rfl) hw9 (by omega))
    have HB9 := Lib.hid hB9
    have B3 := Lib.hid (B2.out.trans (hbl1.out.mono B1.out.size))
    clear HW hw9 hB9 HO hown1 hgrow1 ho3 hbl1
    go_wp2_with fail
    refine HRV.out.mono ?_
    rintro e w4 ⟨rfl, hw3, ho3⟩
    have hcv := conv_wr (cap := cap9) (n := nd + 1) (by rw [List.length_reverse, List.length_append, HAL.out]; rfl) hw3 (fun x hx => by
      rcases List.mem_append.1 (List.mem_reverse.1 hx) with h | h
      · exact HLB.out x h
      · simp at h; omega)
    have e9 : (⟨((L ++ [45]).reverse.map UInt8.ofNat).toArray⟩ : ByteArray) = tb := by rw [← HT.out, HL.out]
    rw [e9] at hcv
    have HZ := Lib.hid (chain hb0.out (chain D.out (ho3.below B3.out (Nat.le_trans B1.out.size HB9.out))))
    clear hw3 ho3 e9
    go_wp2
    exact bodyPost_ret (v := .tuple #[.string tb, .int .i64 0]) (by simp [results, Try.results42, go_sem]) rfl ⟨rfl, HZ.out⟩

/-- The text of an integer. -/
theorem zz_text (z : Int) (w : World) (K : Nat) (hz : z.natAbs < Top) (hm : z.natAbs < 10 ^ K) (hK : K ≤ 100000) : Calls Try.prog 42 #[Z z] w (TPost (tx z) 0 w) := by
  by_cases h0 : z = 0
  · subst h0; exact Text_zero w
  · have hs : 0 < (zs z).size := by
      rcases Nat.eq_zero_or_pos (zs z).size with h | h
      · have h1 := (bv_zero_iff (vld_can (zvt hz))).2 h
        rw [bv_zs] at h1; omega
      · exact h
    refine Text_some (zb z) (zs z) 0 K _ (tx z) w (zvt hz) hs (by rw [bv_zs]; exact hm) hK rfl ?_
    rw [bv_zs]
    by_cases hn : z < 0
    · have e : zb z = true := decide_eq_true hn
      rw [e, if_pos rfl]
      exact text_neg hn
    · have e : zb z = false := decide_eq_false hn
      rw [e, if_neg (by simp)]
      exact text_pos (by omega)
end Go.Proofs.Ytlmklhffafcmmaa
